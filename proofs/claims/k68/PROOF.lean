import PyProof.Rows.All
import Wide.All
import OpenK.AllK
import Wide.FinOn
import HandS.ForMost
import HandS.AnyAll
import HandS.Conv
import HandS.IsInst
import HandS.Flow
import HandS.Lambda
import HandS.Walk
import HandS.Evl
import HandS.SortOrd
import KE.KSortTupG
import HandS.TupLe
import HandS.More
import HandS.ExcIs
import HandS.ExcField
import HandS.ExcInit
import HandS.WordsExc
import HandS.ExcOwn
import HandS.TupAny
import HandS.GenList
import HandS.EndTab
import HandS.SortKw
import HandS.Rev
import KE.DataMinMax
import KE.DataEq
import KE.SortData
import HandS.NoneIn
import HandS.Gcd
import HandS.SetKeys
import HandS.ListItems
import HandS.Flt
import KE.KDictKeyed
import HandS.DictComp
import KE.LtData
import HandS.TupLen
import HandS.FStr
import HandS.Text
import HandS.RaiseMore
import KE.KItemsList
import PyProof.Transfer
import KE.KDictCopyH
import KE.KDictSum
import HandS.Style
import HandS.TryMany
import HandS.SetFor
import KE.DataFind
import HandS.Wide
import HandS.Iter
import HandS.SetTxt0
import HandS.Strs
import HandS.WrittenGet
import HandS.Defaults
import HandS.MakeKwOnly
import HandS.WideBits
import HandS.CallLocal
import HandS.ReplaceDef
import HandS.ReplaceLit
import HandS.ReplaceList
import HandS.TupSets
import KE.KDictDisplayH
import KE.KIntText
import HandS.Deep
import PySem.Challenge.RW_watchfloor_k68_analysis_forced_by_ticks
set_option Elab.async false
set_option linter.all false
set_option maxRecDepth 100000
set_option maxHeartbeats 2000000
/-! DW: walks by data. F: the part of the heap that stays, H: all of it. -/
namespace DW
open PySem PySem.Spec PyProof.Rows L2
/-- which tables of code objects are those of lambdas, and their names -/
class LamTabs where
  q : Addr → Option Str
variable [LamTabs]
/-- the table at P; a lambda's table tells only code objects that are known -/
def TabQ (H : Hp) (P : Addr) : Prop := GxR.TabG H P ∧ ∀ q, LamTabs.q P = some q → ∀ ps, H P = some (.tbl ps) → ∀ (pos : Pos) (cv : Value), codeAmong pos ps.toList = some cv → ∃ c, cv = .ref c ∧ H c = some (LamX.CodeO c q)
/-- neither a table nor a code object -/
structure NtO (u : HO) : Prop where
  tab : ∀ ps, u ≠ .tbl ps
  code : ∀ c q, u ≠ LamX.CodeO c q
theorem ext_nc {φ : Heap → Prop} (h : ∀ hp : Heap, (∀ a o, hp.get? a = some o → (∃ vs, o.data = .fields vs) ∧ o.cls = .none) → ¬ φ hp) : NtO (.ext φ) := ⟨fun _ z => by (cases z), fun c q z => by
  unfold LamX.CodeO at z
  have z := HO.ext.inj z
  have g : ∀ a o, (⟨Array.replicate (c + 1) { cls := .none, data := .fields #[.none, .str q 0] }, default⟩ : Heap).get? a = some o → (∃ vs, o.data = .fields vs) ∧ o.cls = .none := fun a o e => by
    unfold Heap.get? at e
    simp only [Array.getElem?_replicate] at e
    by_cases ha : a < c + 1
    · simp only [ha, if_true] at e
      cases e
      exact ⟨⟨_, rfl⟩, rfl⟩
    · simp only [ha, if_false] at e
      cases e
  refine h _ g ?_
  rw [z]
  refine ⟨{ cls := .none, data := .fields #[.none, .str q 0] }, #[.none, .str q 0], 0, ?_, rfl, rfl⟩
  unfold Heap.get?
  simp only [Array.getElem?_replicate, Nat.lt_succ_self, if_true]⟩
/-- the same table in another heap that keeps the code objects -/
theorem TabQ.at_ {H H' : Hp} {P : Addr} (t : TabQ H P) (e : ∀ ps, H P = some (.tbl ps) → H' P = some (.tbl ps)) (k : ∀ c q, H c = some (LamX.CodeO c q) → H' c = some (LamX.CodeO c q)) : TabQ H' P := by
  obtain ⟨⟨ps, h1, h2⟩, h3⟩ := t
  refine ⟨⟨ps, e ps h1, h2⟩, fun q h qs hq pos cv hc => ?_⟩
  rw [e ps h1] at hq
  obtain ⟨c, e1, e2⟩ := h3 q h qs (h1.trans hq) pos cv hc
  exact ⟨c, e1, k c q e2⟩
/-- what stands in F stands in H (tables may grow) -/
def Ex (F H : Hp) : Prop := ∀ a o, F a = some o → (∀ ps, o ≠ .tbl ps) → H a = some o
theorem Ex.refl (F : Hp) : Ex F F := fun _ _ h _ => h
theorem Ex.trans {F G H : Hp} (a : Ex F G) (b : Ex G H) : Ex F H := fun x o h n => b x o (a x o h n) n
theorem Ex.lst {F H : Hp} (e : Ex F H) {p : Addr} {xs : List V} (h : F p = some (.lst xs)) : H p = some (.lst xs) := e p _ h fun _ z => by cases z
theorem Ex.dk {F H : Hp} (e : Ex F H) {p : Addr} {xs : List (Key × V)} (h : F p = some (.dK xs)) : H p = some (.dK xs) := e p _ h fun _ z => by cases z
theorem Ex.rd {F H : Hp} (e : Ex F H) {a : Addr} {u : HO} (h : Rd F a u) (n : ∀ ps, u ≠ .tbl ps) : Rd H a u := by
  rcases h with h | ⟨o, h⟩
  · exact .inl (e a _ h n)
  · exact .inr ⟨o, e a _ h fun _ z => by cases z⟩
theorem Ex.l {K : PySem.W.Frag} {F H : Hp} {a : Addr} {xs : List V} (e : Ex F H) (h : SqL K F a xs) : SqL K H a xs := by
  rcases h with h | h
  · exact .inl (e.rd h fun _ z => by cases z)
  · exact .inr h
theorem Ex.t {K : PySem.W.Frag} {F H : Hp} {a : Addr} {xs : List V} (e : Ex F H) (h : SqT K F a xs) : SqT K H a xs := by
  rcases h with h | h
  · exact .inl (e.rd h fun _ z => by cases z)
  · exact .inr h
mutual
theorem Ex.dp {K : PySem.W.Frag} {F H : Hp} (e : Ex F H) : ∀ (d : PyData) (v : V), Dp K F v d → Dp K H v d
  | .none, _, h => by cases h; exact .non
  | .bool b, _, h => by cases h; exact .bl b
  | .int i, _, h => by cases h; exact .int i
  | .str x, _, h => by cases h; exact .str x
  | .list ds, _, h => by
    cases h with
    | lst h1 h2 => exact .lst (e.l h1) (Ex.dps e ds _ h2)
  | .tuple ds, _, h => by
    cases h with
    | tup h1 h2 => exact .tup (e.t h1) (Ex.dps e ds _ h2)
  | .dict _, _, h => by cases h
theorem Ex.dps {K : PySem.W.Frag} {F H : Hp} (e : Ex F H) : ∀ (ds : List PyData) (vs : List V), DpAll K F vs ds → DpAll K H vs ds
  | [], _, h => by cases h; exact .nil
  | d :: ds, _, h => by
    cases h with
    | cons h1 h2 => exact .cons (Ex.dp e d _ h1) (Ex.dps e ds _ h2)
end
section
variable {K : PySem.W.Frag} {F H : Hp} {v : V} {d : PyData} {vs : List V} {ds : List PyData}
theorem dps_len : ∀ {vs : List V} {ds : List PyData}, DpAll K F vs ds → vs.length = ds.length
  | _, _, .nil => rfl
  | _, _, .cons _ t => by rw [List.length_cons, List.length_cons, dps_len t]
theorem dps_get : ∀ {vs : List V} {ds : List PyData} {i : Nat} {d : PyData}, DpAll K F vs ds → ds[i]? = some d → ∃ v, vs[i]? = some v ∧ Dp K F v d
  | _, _, _, _, .nil, e => by simp at e
  | _, _, 0, _, .cons h _, e => by simp at e; subst e; exact ⟨_, rfl, h⟩
  | _, _, i + 1, d, .cons _ t, e => by
    obtain ⟨v, h1, h2⟩ := dps_get (i := i) (d := d) t (by simpa using e)
    exact ⟨v, by simpa using h1, h2⟩
theorem dps_app : ∀ {vs ws : List V} {ds es : List PyData}, DpAll K F vs ds → DpAll K F ws es → DpAll K F (vs ++ ws) (ds ++ es)
  | _, _, _, _, .nil, h => h
  | _, _, _, _, .cons a t, h => .cons a (dps_app t h)
theorem dps_take : ∀ {vs : List V} {ds : List PyData} (n : Nat), DpAll K F vs ds → DpAll K F (vs.take n) (ds.take n)
  | _, _, 0, _ => .nil
  | _, _, _ + 1, .nil => .nil
  | _, _, n + 1, .cons a t => .cons a (dps_take n t)
theorem dps_drop : ∀ {vs : List V} {ds : List PyData} (n : Nat), DpAll K F vs ds → DpAll K F (vs.drop n) (ds.drop n)
  | _, _, 0, h => h
  | _, _, _ + 1, .nil => .nil
  | _, _, n + 1, .cons _ t => dps_drop n t
theorem dp_sq (h : Dp K F v (.list ds)) : ∃ a vs, v = .ref a ∧ SqL K F a vs ∧ DpAll K F vs ds := by
  cases h with
  | lst h1 h2 => exact ⟨_, _, rfl, h1, h2⟩
theorem dp_tq (h : Dp K F v (.tuple ds)) : ∃ a vs, v = .ref a ∧ SqT K F a vs ∧ DpAll K F vs ds := by
  cases h with
  | tup h1 h2 => exact ⟨_, _, rfl, h1, h2⟩
end
/-- a value that needs no heap -/
def scalD : PyData → Bool
  | .none => true
  | .bool _ => true
  | .int _ => true
  | .str _ => true
  | _ => false
theorem dp_scal {K : PySem.W.Frag} {F H : Hp} {v : V} : ∀ {d : PyData}, scalD d = true → Dp K H v d → Dp K F v d
  | .none, _, h => by cases h; exact .non
  | .bool b, _, h => by cases h; exact .bl b
  | .int i, _, h => by cases h; exact .int i
  | .str x, _, h => by cases h; exact .str x
  | .list _, e, _ => by cases e
  | .tuple _, e, _ => by cases e
  | .dict _, e, _ => by cases e
/-- F is a part of H, without tables -/
structure Sub (F H : Hp) : Prop where
  ex : Ex F H
  nt : ∀ a ps, F a ≠ some (.tbl ps)
theorem Sub.free {F H : Hp} (e : Sub F H) {p : Addr} (h : H p = none) : F p = none := by
  cases q : F p with
  | none => rfl
  | some o => rw [e.ex p o q (fun ps z => e.nt p ps (by rw [q, z]))] at h; cases h
/-- H without its tables -/
def cut (H : Hp) : Hp := fun a => match H a with
  | some (.tbl _) => none
  | o => o
theorem cut_of {H : Hp} {a : Addr} {o : HO} (h : H a = some o) (n : ∀ ps, o ≠ .tbl ps) : cut H a = some o := by
  unfold cut; rw [h]; cases o <;> first | rfl | exact absurd rfl (n _)
theorem of_cut {H : Hp} {a : Addr} {o : HO} (h : cut H a = some o) : H a = some o ∧ ∀ ps, o ≠ .tbl ps := by
  unfold cut at h
  cases q : H a with
  | none => rw [q] at h; cases h
  | some u =>
    rw [q] at h
    cases u <;> first | (cases h; exact ⟨rfl, fun _ z => by cases z⟩) | cases h
theorem ex_cut (H : Hp) : Ex H (cut H) := fun _ _ h n => cut_of h n
theorem sub_cut (H : Hp) : Sub (cut H) H := ⟨fun _ _ h _ => (of_cut h).1, fun _ ps h => (of_cut h).2 ps rfl⟩
/-- from (F, H) to (F', H'): nothing that stood changes (tables grow), what was ours stays out of F -/
structure Stp (F H F' H' : Hp) : Prop where
  f : Ex F F'
  i : Sub F' H'
  h : Ex H H'
  s : ∀ a o, H a = some o → ∃ o', H' a = some o'
  t : ∀ P, TabQ H P → TabQ H' P
  n : ∀ a o, H a = some o → F a = none → F' a = none
section
variable {F H F1 H1 F2 H2 : Hp} {p : Addr} {o : HO}
theorem Stp.refl (e : Sub F H) : Stp F H F H := ⟨Ex.refl F, e, Ex.refl H, fun _ o h => ⟨o, h⟩, fun _ h => h, fun _ _ _ h => h⟩
theorem Stp.trans (a : Stp F H F1 H1) (b : Stp F1 H1 F2 H2) : Stp F H F2 H2 :=
  ⟨a.f.trans b.f, b.i, a.h.trans b.h, fun x o h => let ⟨o', h'⟩ := a.s x o h; b.s x o' h', fun P h => b.t P (a.t P h), fun x o h n => let ⟨o', h'⟩ := a.s x o h; b.n x o' h' (a.n x o h n)⟩
theorem tab_upd (h : H p = none) {P : Addr} (t : TabQ H P) : TabQ (upd H p o) P := t.at_ (fun ps e => by rw [upd_ne (ne_of_none e h)]; exact e) fun c q e => by rw [upd_ne (ne_of_none e h)]; exact e
/-- a known object that is no table and no code object changes -/
theorem tab_mut {o1 o2 : HO} (hH : H p = some o1) (nt : ∀ ps, o1 ≠ .tbl ps) (nc : ∀ c q, o1 ≠ LamX.CodeO c q) {P : Addr} (t : TabQ H P) : TabQ (upd H p o2) P :=
  t.at_ (fun ps e => by rw [upd_ne (fun z => by rw [z, hH] at e; cases e; exact nt ps rfl)]; exact e) fun c q e => by rw [upd_ne (fun z => by rw [z, hH] at e; exact nc p q (by rw [← z]; exact Option.some.inj (by rw [z]; exact e)))]; exact e
/-- a new object, ours alone -/
theorem Stp.mine (e : Sub F H) (h : H p = none) : Stp F H F (upd H p o) :=
  ⟨Ex.refl F, ⟨fun a u q n => by have := e.ex a u q n; rw [upd_ne (ne_of_none this h)]; exact this, e.nt⟩, fun a u q _ => by rw [upd_ne (ne_of_none q h)]; exact q,
    fun a u q => ⟨u, by rw [upd_ne (ne_of_none q h)]; exact q⟩, fun _ t => tab_upd h t, fun _ _ _ n => n⟩
/-- a new object for good -/
theorem Stp.new (e : Sub F H) (h : H p = none) (ho : ∀ ps, o ≠ .tbl ps) : Stp F H (upd F p o) (upd H p o) := by
  refine ⟨fun a u q n => ?_, ⟨fun a u q n => ?_, fun a ps q => ?_⟩, fun a u q _ => by rw [upd_ne (ne_of_none q h)]; exact q, fun a u q => ⟨u, by rw [upd_ne (ne_of_none q h)]; exact q⟩, fun _ t => tab_upd h t, fun a u q n => ?_⟩
  · have := e.ex a u q n
    rw [upd_ne (ne_of_none this h)]; exact q
  · by_cases ha : a = p
    · subst ha; rw [upd_same] at q ⊢; exact q
    · rw [upd_ne ha] at q ⊢; exact e.ex a u q n
  · by_cases ha : a = p
    · subst ha; rw [upd_same] at q; cases q; exact ho ps rfl
    · rw [upd_ne ha] at q; exact e.nt a ps q
  · rw [upd_ne (ne_of_none q h)]; exact n
end
/-! ### what the slots hold -/
inductive Sl where
  | un
  | fz (d : PyData)
  | ow (ds : List PyData)
  | raw (v : V)
  | od (kvs : List (Str × PyData))
  | fk (kvs : List (Str × PyData))
  | ob (C : Addr → Hp → HO → Prop)
def Sl.mine : Sl → Bool
  | .ow _ => true
  | .od _ => true
  | .ob _ => true
  | _ => false
/-- a dict with text keys -/
structure KvOk (K : PySem.W.Frag) (F : Hp) (vs : List (Key × V)) (kvs : List (Str × PyData)) : Prop where
  ks : vs.map (·.1) = kvs.map fun p => Sum.inr p.1
  ds : DpAll K F (vs.map (·.2)) (kvs.map (·.2))
theorem KvOk.mono {K : PySem.W.Frag} {F H : Hp} {vs : List (Key × V)} {kvs : List (Str × PyData)} (e : Ex F H) (h : KvOk K F vs kvs) : KvOk K H vs kvs := ⟨h.ks, e.dps _ _ h.ds⟩
def SlOk (K : PySem.W.Frag) (H0 F H : Hp) (o : Option V) : Sl → Prop
  | .un => True
  | .fz d => ∃ v, o = some v ∧ Dp K F v d
  | .ow ds => ∃ p vs, o = some (.ref p) ∧ H0 p = none ∧ F p = none ∧ H p = some (.lst vs) ∧ DpAll K F vs ds
  | .raw v => o = some v
  | .od kvs => ∃ p vs, o = some (.ref p) ∧ H0 p = none ∧ F p = none ∧ H p = some (.dK vs) ∧ KvOk K F vs kvs
  | .fk kvs => ∃ p vs, o = some (.ref p) ∧ Rd F p (.dK vs) ∧ KvOk K F vs kvs
  | .ob C => ∃ p u, o = some (.ref p) ∧ H0 p = none ∧ F p = none ∧ H p = some u ∧ NtO u ∧ ∀ F', Ex F F' → C p F' u
/-- the ground: written part, tables, the heaps at the entry -/
structure Gd where
  K : PySem.W.Frag
  T : List Addr
  F0 : Hp
  H0 : Hp
  Fl : Hp
structure Holds (g : Gd) (G : List Sl) (σ : L2.St) (F H : Hp) : Prop where
  len : σ.length = G.length
  st : Stp g.F0 g.H0 F H
  sl : ∀ (i : Nat) (s : Sl) (o : Option V), G[i]? = some s → σ[i]? = some o → SlOk g.K g.H0 F H o s
  apart : ∀ (i j : Nat) (s t : Sl) (p : Addr), G[i]? = some s → G[j]? = some t → s.mine = true → t.mine = true → σ[i]? = some (some (.ref p)) → σ[j]? = some (some (.ref p)) → i = j
  tab : ∀ P ∈ g.T, TabQ H P
  lo : Ex g.Fl F
section
variable {g : Gd} {G : List Sl} {σ : L2.St} {F H F' H' : Hp} {i : Nat}
theorem Holds.at_ (h : Holds g G σ F H) {s : Sl} (e : G[i]? = some s) : ∃ o, σ[i]? = some o ∧ SlOk g.K g.H0 F H o s := by
  have hi : i < σ.length := by rw [h.len]; exact (List.getElem?_eq_some_iff.mp e).1
  exact ⟨σ[i], List.getElem?_eq_getElem hi, h.sl i s _ e (List.getElem?_eq_getElem hi)⟩
theorem SlOk.mono {K : PySem.W.Frag} {H0 : Hp} {o : Option V} (s : Stp F H F' H') : ∀ {x : Sl}, SlOk K H0 F H o x → SlOk K H0 F' H' o x
  | .un, _ => trivial
  | .fz d, ⟨v, e, h⟩ => ⟨v, e, s.f.dp d v h⟩
  | .ow ds, ⟨p, vs, e, h0, hF, hH, hd⟩ => ⟨p, vs, e, h0, s.n p _ hH hF, s.h.lst hH, s.f.dps ds vs hd⟩
  | .raw v, h => h
  | .od kvs, ⟨p, vs, e, h0, hF, hH, hd⟩ => ⟨p, vs, e, h0, s.n p _ hH hF, s.h.dk hH, hd.mono s.f⟩
  | .fk kvs, ⟨p, vs, e, hr, hd⟩ => ⟨p, vs, e, s.f.rd hr (fun _ z => by cases z), hd.mono s.f⟩
  | .ob C, ⟨p, u, e, h0, hF, hH, nt, hC⟩ => ⟨p, u, e, h0, s.n p _ hH hF, s.h p u hH nt.tab, nt, fun F2 e2 => hC F2 (s.f.trans e2)⟩
theorem Holds.mono (h : Holds g G σ F H) (s : Stp F H F' H') : Holds g G σ F' H' :=
  ⟨h.len, h.st.trans s, fun i x o e1 e2 => (h.sl i x o e1 e2).mono s, h.apart, fun P hP => s.t P (h.tab P hP), h.lo.trans s.f⟩
/-- a slot set -/
theorem Holds.set (h : Holds g G σ F H) {v : V} {s : Sl} (hs : SlOk g.K g.H0 F H (some v) s) (hm : s.mine = true → ∀ (j : Nat) (t : Sl) , j ≠ i → G[j]? = some t → t.mine = true → σ[j]? ≠ some (some v)) : Holds g (G.set i s) (σ.set i (some v)) F H := by
  refine ⟨by rw [List.length_set, List.length_set]; exact h.len, h.st, fun j x o e1 e2 => ?_, fun j k x y p e1 e2 m1 m2 e3 e4 => ?_, h.tab, h.lo⟩
  · by_cases hj : i = j
    · subst hj
      have hi : i < G.length := by have := (List.getElem?_eq_some_iff.mp e1).1; rwa [List.length_set] at this
      rw [List.getElem?_set_self hi] at e1
      rw [List.getElem?_set_self (by rw [h.len]; exact hi)] at e2
      cases e1; cases e2; exact hs
    · rw [List.getElem?_set_ne hj] at e1 e2
      exact h.sl j x o e1 e2
  · by_cases hj : i = j
    · by_cases hk : i = k
      · exact hj.symm.trans hk
      · subst hj
        have hi : i < G.length := by have := (List.getElem?_eq_some_iff.mp e1).1; rwa [List.length_set] at this
        rw [List.getElem?_set_self hi] at e1
        rw [List.getElem?_set_self (by rw [h.len]; exact hi)] at e3
        rw [List.getElem?_set_ne hk] at e2 e4
        cases e1; cases e3
        exact absurd e4 (hm m1 k y (Ne.symm hk) e2 m2)
    · by_cases hk : i = k
      · subst hk
        have hi : i < G.length := by have := (List.getElem?_eq_some_iff.mp e2).1; rwa [List.length_set] at this
        rw [List.getElem?_set_self hi] at e2
        rw [List.getElem?_set_self (by rw [h.len]; exact hi)] at e4
        rw [List.getElem?_set_ne hj] at e1 e3
        cases e2; cases e4
        exact absurd e3 (hm m2 j x (Ne.symm hj) e1 m1)
      · rw [List.getElem?_set_ne hj] at e1 e3
        rw [List.getElem?_set_ne hk] at e2 e4
        exact h.apart j k x y p e1 e2 m1 m2 e3 e4
theorem Holds.setF (h : Holds g G σ F H) {v : V} {d : PyData} (hd : Dp g.K F v d) : Holds g (G.set i (.fz d)) (σ.set i (some v)) F H :=
  h.set (s := .fz d) ⟨v, rfl, hd⟩ fun z => by cases z
/-- a list of ours that no slot holds -/
theorem Holds.setO (h : Holds g G σ F H) {p : Addr} {vs : List V} {ds : List PyData} (h0 : g.H0 p = none) (hF : F p = none) (hH : H p = some (.lst vs)) (hd : DpAll g.K F vs ds) (new : ∀ (j : Nat), j ≠ i → (∃ t, G[j]? = some t ∧ t.mine = true) → σ[j]? ≠ some (some (.ref p))) :
    Holds g (G.set i (.ow ds)) (σ.set i (some (.ref p))) F H :=
  h.set (s := .ow ds) ⟨p, vs, rfl, h0, hF, hH, hd⟩ fun _ j t hj e m => new j hj ⟨t, e, m⟩
/-- forgetting -/
theorem Holds.weak (h : Holds g G σ F H) {G' : List Sl} (hl : G'.length = G.length) (w : ∀ (j : Nat) (s : Sl), G'[j]? = some s → s = .un ∨ G[j]? = some s) : Holds g G' σ F H := by
  refine ⟨h.len.trans hl.symm, h.st, fun j s o e1 e2 => ?_, fun j k s t p e1 e2 m1 m2 e3 e4 => ?_, h.tab, h.lo⟩
  · rcases w j s e1 with rfl | e
    · trivial
    · exact h.sl j s o e e2
  · rcases w j s e1 with rfl | e
    · cases m1
    · rcases w k t e2 with rfl | e'
      · cases m2
      · exact h.apart j k s t p e e' m1 m2 e3 e4
end
/-! ### the judgements -/
/-- te gives d, for good -/
def E (g : Gd) (te : TE) (G : List Sl) (d : PyData) : Prop := ∀ σ F H, Holds g G σ F H → ∀ Q : VK, (∀ v F' H', Stp F H F' H' → Dp g.K F' v d → Q v H') → te σ H Q
/-- te gives d, for the moment -/
def B (g : Gd) (te : TE) (G : List Sl) (d : PyData) : Prop := ∀ σ F H, Holds g G σ F H → ∀ Q : VK, (∀ v F' H', Stp F H F' H' → Dp g.K H' v d → Q v H') → te σ H Q
/-- te gives a new list of ours -/
def EL (g : Gd) (te : TE) (G : List Sl) (ds : List PyData) : Prop := ∀ σ F H, Holds g G σ F H → ∀ Q : VK, (∀ p vs F' H', Stp F H F' H' → H p = none → F' p = none → H' p = some (.lst vs) → DpAll g.K F' vs ds → Q (.ref p) H') → te σ H Q
def T (g : Gd) (tt : TT) (G : List Sl) (b : Bool) : Prop := ∀ σ F H, Holds g G σ F H → ∀ Q : Bool → Hp → Prop, (∀ F' H', Stp F H F' H' → Q b H') → tt σ H Q
def A (g : Gd) (ta : TA) (G : List Sl) (ds : List PyData) : Prop := ∀ σ F H, Holds g G σ F H → ∀ Q : List V → Hp → Prop, (∀ vs F' H', Stp F H F' H' → DpAll g.K F' vs ds → Q vs H') → ta σ H Q
def AB (g : Gd) (ta : TA) (G : List Sl) (ds : List PyData) : Prop := ∀ σ F H, Holds g G σ F H → ∀ Q : List V → Hp → Prop, (∀ vs F' H', Stp F H F' H' → DpAll g.K H' vs ds → Q vs H') → ta σ H Q
/-- a two-place operation on data -/
def R (g : Gd) (r : R2) (x y d : PyData) : Prop := ∀ u v F H, Sub F H → Dp g.K F u x → Dp g.K F v y → ∀ Q : VK, (∀ z F' H', Stp F H F' H' → Dp g.K F' z d → Q z H') → r u v H Q
/-- .. that makes a new list -/
def RL (g : Gd) (r : R2) (x y : PyData) (ds : List PyData) : Prop := ∀ u v F H, Sub F H → Dp g.K F u x → Dp g.K F v y → ∀ Q : VK, (∀ p vs, H p = none → DpAll g.K F vs ds → Q (.ref p) (upd H p (.lst vs))) → r u v H Q
/-- .. that asks only -/
def RB (g : Gd) (r : R2) (x y d : PyData) : Prop := ∀ u v H, Dp g.K H u x → Dp g.K H v y → ∀ Q : VK, (∀ z, Dp g.K H z d → Q z H) → r u v H Q
def C1 (g : Gd) (r : List V → Hp → VK → Prop) (xs : List PyData) (d : PyData) : Prop := ∀ vs H, DpAll g.K H vs xs → ∀ Q : VK, (∀ z, Dp g.K H z d → Q z H) → r vs H Q
section
variable {g : Gd} {G : List Sl} {te ta tb tc : TE} {tt tu : TT} {d x y z : PyData} {ds : List PyData} {i : Nat}
theorem E.b (h : E g te G d) : B g te G d := fun σ F H hh Q q => h σ F H hh Q fun v F' H' s hd => q v F' H' s (s.i.ex.dp d v hd)
theorem b_of (h : E g te G d) : B g te G d := h.b
theorem B.e (h : B g te G d) (hs : scalD d = true) : E g te G d := fun σ F H hh Q q => h σ F H hh Q fun v F' H' s hd => q v F' H' s (dp_scal hs hd)
theorem EL.e (h : EL g te G ds) : E g te G (.list ds) := fun σ F H hh Q q => h σ F H hh Q fun p vs F' H' s h0 hF hH hd => by
  have e : Ex F' (upd F' p (.lst vs)) := fun a u q _ => by rw [upd_ne (ne_of_none q hF)]; exact q
  refine q (.ref p) (upd F' p (.lst vs)) H' ⟨s.f.trans e, ⟨fun a u q n => ?_, fun a ps q => ?_⟩, s.h, s.s, s.t, fun a u q n => ?_⟩ (.lst (.inl (.inl upd_same)) (e.dps ds vs hd))
  · by_cases ha : a = p
    · subst ha; rw [upd_same] at q; cases q; exact hH
    · rw [upd_ne ha] at q; exact s.i.ex a u q n
  · by_cases ha : a = p
    · subst ha; rw [upd_same] at q; cases q
    · rw [upd_ne ha] at q; exact s.i.nt a ps q
  · rw [upd_ne (ne_of_none q h0)]; exact s.n a u q n
theorem EL.b (h : EL g te G ds) : B g te G (.list ds) := h.e.b
theorem e_var (h : G[i]? = some (.fz d)) : E g (tVar i) G d := fun σ F H hh Q q => by
  obtain ⟨o, e, v, ev, hd⟩ := hh.at_ h
  subst ev
  exact ⟨v, e, q v F H (Stp.refl hh.st.i) hd⟩
theorem b_ow (h : G[i]? = some (.ow ds)) : B g (tVar i) G (.list ds) := fun σ F H hh Q q => by
  obtain ⟨o, e, p, vs, ev, h0, hF, hH, hd⟩ := hh.at_ h
  subst ev
  exact ⟨.ref p, e, q _ F H (Stp.refl hh.st.i) (.lst (.inl (.inl hH)) (hh.st.i.ex.dps ds vs hd))⟩
theorem e_int {k : Int} : E g (tC (.int k)) G (.int k) := fun _ F H hh _ q => q _ F H (Stp.refl hh.st.i) (.int k)
theorem e_str {k : Str} : E g (tC (.str k)) G (.str k) := fun _ F H hh _ q => q _ F H (Stp.refl hh.st.i) (.str k)
theorem e_bl {k : Bool} : E g (tC (.bl k)) G (.bool k) := fun _ F H hh _ q => q _ F H (Stp.refl hh.st.i) (.bl k)
theorem e_non : E g (tC .non) G .none := fun _ F H hh _ q => q _ F H (Stp.refl hh.st.i) .non
theorem e_op {r : R2} (ha : E g ta G x) (hb : E g tb G y) (hr : R g r x y d) : E g (tOp r ta tb) G d := fun σ F H hh Q q =>
  ha σ F H hh _ fun u F1 H1 s1 d1 => hb σ F1 H1 (hh.mono s1) _ fun v F2 H2 s2 d2 => hr u v F2 H2 s2.i (s2.f.dp x u d1) d2 Q fun z F3 H3 s3 d3 => q z F3 H3 ((s1.trans s2).trans s3) d3
theorem old_free {F H F' H' : Hp} (s : Stp F H F' H') {p : Addr} (h : H' p = none) : H p = none := by
  cases z : H p with
  | none => rfl
  | some o => obtain ⟨o', e⟩ := s.s p o z; rw [h] at e; cases e
theorem el_op {r : R2} (ha : E g ta G x) (hb : E g tb G y) (hr : RL g r x y ds) : EL g (tOp r ta tb) G ds := fun σ F H hh Q q =>
  ha σ F H hh _ fun u F1 H1 s1 d1 => hb σ F1 H1 (hh.mono s1) _ fun v F2 H2 s2 d2 => hr u v F2 H2 s2.i (s2.f.dp x u d1) d2 Q fun p vs hp hd =>
    q p vs F2 _ ((s1.trans s2).trans (Stp.mine s2.i hp)) (old_free (s1.trans s2) hp) (s2.i.free hp) upd_same hd
theorem b_op {r : R2} (ha : B g ta G x) (hb : B g tb G y) (hr : RB g r x y d) (hs : scalD d = true) : E g (tOp r ta tb) G d := fun σ F H hh Q q =>
  ha σ F H hh _ fun u F1 H1 s1 d1 => hb σ F1 H1 (hh.mono s1) _ fun v F2 H2 s2 d2 => hr u v H2 (s2.h.dp x u d1) d2 Q fun z d3 => q z F2 H2 (s1.trans s2) (dp_scal hs d3)
end
end DW
namespace DW
open PySem PySem.Spec PyProof.Rows L2
variable [LamTabs]
/-! ### operators over several kinds -/
def rAddS : R2 := fun x y H Q => ∃ i j, x = .str i ∧ y = .str j ∧ i.length + j.length ≤ sizeLine ∧ Q (.str (i ++ j)) H
/-- list + list, both read -/
def rAddL (K : PySem.W.Frag) : R2 := fun x y H Q => ∃ l b xs zs, x = .ref l ∧ y = .ref b ∧ SqL K H l xs ∧ SqL K H b zs ∧ xs.length + zs.length ≤ sizeLine ∧ ∀ p, H p = none → Q (.ref p) (upd H p (.lst (xs ++ zs)))
theorem op_catL {X : Cx} : OpR X (binaryOp .Add) (rAddL X.K) := by
  intro pins s σ H x y v u Q I rx ry h
  obtain ⟨l, b, xs, zs, rfl, rfl, hH, hB, hz, q⟩ := h
  cases rx
  cases ry
  obtain ⟨its, r, pl, z⟩ := I.list hH
  obtain ⟨its2, r2, pl2, z2⟩ := I.list hB
  have l1 := r.length
  have l2 := r2.length
  obtain ⟨⟨cls, dd, data, sl⟩, ho, hc, n, hd⟩ := id pl.isList
  obtain ⟨⟨cls2, dd2, data2, sl2⟩, ho2, hc2, n2, hd2⟩ := id pl2.isList
  simp only at hc hd hc2 hd2
  subst hc hd hc2 hd2
  have e : its.toArray ++ its2.toArray = (its ++ its2).toArray := by simp
  refine concat_meets ⟨_, ho, rfl⟩ ⟨_, ho2, rfl⟩ noFill_list_add seq_list_add PySem.F.slot_list_add PySem.F.entry_list_add (PySem.F.args_list_add_2 _ _) (list_addW l b its.toArray its2.toArray n n2 dd dd2 sl sl2 (by simp only [List.size_toArray]; omega)) ⟨ho, ho2, ?_⟩
  rw [e]
  exact ⟨.ref _, _, I.lnew (t' := s.toks) (r.append r2) (by rw [List.length_append]; omega), rfl, q _ I.fresh⟩
abbrev rAddU (K : PySem.W.Frag) : R2 := fun x y H Q => rI0 (fun i j => .int (i + j)) x y H Q ∨ (rAddS x y H Q ∨ (rAddL K x y H Q ∨ rCatT K x y H Q))
theorem uAdd {X : Cx} : OpR X (binaryOp .Add) (rAddU X.K) := op_add.or (op_add_str.or (op_catL.or op_catT))
/-- text * int -/
def mulS (x : Str) (n : Int) : Str := if n < 1 then Str.empty else if (n == 1 || x.length == 0) = true then x else ⟨(List.replicate n.toNat x.cps).foldl (· ++ ·) #[]⟩
def rMulS : R2 := fun x y H Q => ∃ i n, x = .str i ∧ y = .int n ∧ 0 ≤ n ∧ n ≤ 1000 ∧ i.length ≤ 1000 ∧ Q (.str (mulS i n)) H
theorem op_mulS {X : Cx} : OpR X (binaryOp .Mult) rMulS := by
  intro pins s σ H x y v u Q I rx ry h
  obtain ⟨i, n, rfl, rfl, h0, h1, hl, q⟩ := h
  obtain ⟨t, rfl⟩ := rx
  obtain ⟨t', rfl⟩ := ry
  have e1 : (decide (n < -(2 ^ 63 : Int)) || decide (n ≥ 2 ^ 63)) = false := by
    rw [decide_eq_false (by omega), decide_eq_false (by omega)]; rfl
  have ht : Builtin.Str.tooLong (i.length * n.toNat) = false := by
    have h3 : i.length * n.toNat ≤ 1000 * 1000 := Nat.mul_le_mul hl (by omega)
    have h4 : sizeLine = 16777216 := sizeLine_eq
    unfold Builtin.Str.tooLong
    exact decide_eq_false (by omega)
  refine PySem.P.mul_str e1 (fun h _ => ?_) (fun h _ => ?_) ?_
  · have h2 : (i.length : Int) * n ≤ 1000 * 1000 := Int.mul_le_mul (by omega) h1 h0 (by decide)
    have h3 : (i.length : Int) ≤ (2 ^ 63 - 1) / n := Int.le_ediv_of_mul_le (by omega) (Int.le_trans h2 (by decide))
    omega
  · exact ht
  · unfold mulS at q
    split
    · rename_i hh; rw [if_pos hh] at q; exact ⟨by decide, ⟨.str _, H, I.tok _, ⟨_, rfl⟩, q⟩⟩
    · rename_i hh; rw [if_neg hh] at q
      split
      · rename_i h4; rw [if_pos h4] at q; exact ⟨.str _, H, I, ⟨_, rfl⟩, q⟩
      · rename_i h4; rw [if_neg h4] at q; exact ⟨fits_reps ht, ⟨.str _, H, I.tok _, ⟨_, rfl⟩, q⟩⟩
abbrev rMulU : R2 := fun x y H Q => rI CMul (fun i j => .int (i * j)) x y H Q ∨ rMulS x y H Q
theorem uMul {X : Cx} : OpR X (binaryOp .Mult) rMulU := op_mul.or op_mulS
def rLtS : R2 := fun x y H Q => ∃ i j, x = .str i ∧ y = .str j ∧ Q (.bl (decide (i.cps.toList < j.cps.toList))) H
abbrev rLtU : R2 := fun x y H Q => rI0 (fun i j => .bl (decide (i < j))) x y H Q ∨ rLtS x y H Q
theorem uLt {X : Cx} : OpR X (compareOp .Lt) rLtU := op_lt.or op_lt_str
def rInSg : R2 := fun x y H Q => ∃ (c : Nat) (z : Str), x = .str ⟨#[c]⟩ ∧ y = .str z ∧ Q (.bl (decide (c ∈ z.cps.toList))) H
def rNiSg : R2 := fun x y H Q => ∃ (c : Nat) (z : Str), x = .str ⟨#[c]⟩ ∧ y = .str z ∧ Q (.bl (!decide (c ∈ z.cps.toList))) H
abbrev rInU (K : PySem.W.Frag) : R2 := fun x y H Q => rIn K false x y H Q ∨ rInSg x y H Q
abbrev rNiU (K : PySem.W.Frag) : R2 := fun x y H Q => rIn K true x y H Q ∨ rNiSg x y H Q
theorem uIn {X : Cx} : OpR X (compareOp .In) (rInU X.K) := op_in_seq.or op_in_sign
theorem uNi {X : Cx} : OpR X (compareOp .NotIn) (rNiU X.K) := op_notIn_seq.or op_notIn_sign
section
variable {g : Gd} {G : List Sl} {te ta tb tc : TE} {tt tu : TT} {d x y z : PyData} {ds es : List PyData} {i : Nat}
theorem add_i {a b : Int} : R g (rAddU g.K) (.int a) (.int b) (.int (a + b)) := fun u v F H e hu hv Q q => by
  cases hu; cases hv
  exact .inl ⟨a, b, rfl, rfl, q _ F H (Stp.refl e) (.int _)⟩
theorem add_s {a b : Str} (h : a.length + b.length ≤ 100000) : R g (rAddU g.K) (.str a) (.str b) (.str (a ++ b)) := fun u v F H e hu hv Q q => by
  cases hu; cases hv
  exact .inr (.inl ⟨a, b, rfl, rfl, Nat.le_trans h (by decide), q _ F H (Stp.refl e) (.str _)⟩)
theorem add_l (h : ds.length + es.length ≤ 100000) : RL g (rAddU g.K) (.list ds) (.list es) (ds ++ es) := fun u v F H e hu hv Q q => by
  obtain ⟨a, vs, rfl, h1, h2⟩ := dp_sq hu
  obtain ⟨b, ws, rfl, h3, h4⟩ := dp_sq hv
  exact .inr (.inr (.inl ⟨a, b, vs, ws, rfl, rfl, e.ex.l h1, e.ex.l h3, by rw [dps_len h2, dps_len h4]; exact Nat.le_trans h (by decide), fun p hp => q p _ hp (dps_app h2 h4)⟩))
theorem sub_i {a b : Int} : R g (rI0 fun i j => .int (i - j)) (.int a) (.int b) (.int (a - b)) := fun u v F H e hu hv Q q => by
  cases hu; cases hv
  exact ⟨a, b, rfl, rfl, q _ F H (Stp.refl e) (.int _)⟩
theorem mul_i {a b : Int} (h : CMul a b) : R g rMulU (.int a) (.int b) (.int (a * b)) := fun u v F H e hu hv Q q => by
  cases hu; cases hv
  exact .inl ⟨a, b, rfl, rfl, h, q _ F H (Stp.refl e) (.int _)⟩
theorem mul_s {a : Str} {b : Int} (h0 : 0 ≤ b) (h1 : b ≤ 1000) (hl : a.length ≤ 1000) : R g rMulU (.str a) (.int b) (.str (mulS a b)) := fun u v F H e hu hv Q q => by
  cases hu; cases hv
  exact .inr ⟨a, b, rfl, rfl, h0, h1, hl, q _ F H (Stp.refl e) (.str _)⟩
theorem div_i {a b : Int} (h : 0 < b) (h2 : b < 1073741824) : R g (rI CDiv fun i j => .int (i / j)) (.int a) (.int b) (.int (a / b)) := fun u v F H e hu hv Q q => by
  cases hu; cases hv
  exact ⟨a, b, rfl, rfl, ⟨h, h2⟩, q _ F H (Stp.refl e) (.int _)⟩
theorem mod_i {a b : Int} (h : 0 < b) : R g (rI (fun _ j => 0 < j) fun i j => .int (i % j)) (.int a) (.int b) (.int (a % b)) := fun u v F H e hu hv Q q => by
  cases hu; cases hv
  exact ⟨a, b, rfl, rfl, h, q _ F H (Stp.refl e) (.int _)⟩
theorem pow_i {a b : Int} (h : CPow a b) : R g (rI CPow fun i j => .int (i ^ j.toNat)) (.int a) (.int b) (.int (a ^ b.toNat)) := fun u v F H e hu hv Q q => by
  cases hu; cases hv
  exact ⟨a, b, rfl, rfl, h, q _ F H (Stp.refl e) (.int _)⟩
theorem lt_i {a b : Int} : RB g rLtU (.int a) (.int b) (.bool (decide (a < b))) := fun u v H hu hv Q q => by
  cases hu; cases hv
  exact .inl ⟨a, b, rfl, rfl, q _ (.bl _)⟩
theorem lt_s {a b : Str} : RB g rLtU (.str a) (.str b) (.bool (decide (a.cps.toList < b.cps.toList))) := fun u v H hu hv Q q => by
  cases hu; cases hv
  exact .inr ⟨a, b, rfl, rfl, q _ (.bl _)⟩
theorem le_i {a b : Int} : RB g (rI0 fun i j => .bl (decide (i ≤ j))) (.int a) (.int b) (.bool (decide (a ≤ b))) := fun u v H hu hv Q q => by
  cases hu; cases hv
  exact ⟨a, b, rfl, rfl, q _ (.bl _)⟩
theorem gt_i {a b : Int} : RB g (rI0 fun i j => .bl (decide (j < i))) (.int a) (.int b) (.bool (decide (b < a))) := fun u v H hu hv Q q => by
  cases hu; cases hv
  exact ⟨a, b, rfl, rfl, q _ (.bl _)⟩
theorem ge_i {a b : Int} : RB g (rI0 fun i j => .bl (decide (j ≤ i))) (.int a) (.int b) (.bool (decide (b ≤ a))) := fun u v H hu hv Q q => by
  cases hu; cases hv
  exact ⟨a, b, rfl, rfl, q _ (.bl _)⟩
/-- the V of a flat datum -/
def flD : PyData → V
  | .none => .non
  | .bool b => .bl b
  | .int i => .int i
  | .str s => .str s
  | _ => .non
theorem fl_of {K : PySem.W.Frag} {H : Hp} {v : V} : ∀ {d : PyData}, scalD d = true → Dp K H v d → v = flD d ∧ flatV v = true
  | .none, _, h => by cases h; exact ⟨rfl, rfl⟩
  | .bool b, _, h => by cases h; exact ⟨rfl, rfl⟩
  | .int i, _, h => by cases h; exact ⟨rfl, rfl⟩
  | .str x, _, h => by cases h; exact ⟨rfl, rfl⟩
  | .list _, e, _ => by cases e
  | .tuple _, e, _ => by cases e
  | .dict _, e, _ => by cases e
theorem fls_of {K : PySem.W.Frag} {H : Hp} : ∀ {vs : List V} {ds : List PyData}, ds.all scalD = true → DpAll K H vs ds → vs = ds.map flD ∧ vs.all flatV = true
  | _, _, _, .nil => ⟨rfl, rfl⟩
  | _, _, e, .cons h t => by
    rw [List.all_cons, Bool.and_eq_true] at e
    obtain ⟨e1, e2⟩ := fl_of e.1 h
    obtain ⟨e3, e4⟩ := fls_of e.2 t
    exact ⟨by rw [e1, e3]; rfl, by rw [List.all_cons, e2, e4]; rfl⟩
def inD (x : PyData) (ds : List PyData) : Bool := inV (flD x) (ds.map flD)
theorem in_l (hx : scalD x = true) (hd : ds.all scalD = true) : RB g (rInU g.K) x (.list ds) (.bool (inD x ds)) := fun u v H hu hv Q q => by
  obtain ⟨a, vs, rfl, h1, h2⟩ := dp_sq hv
  obtain ⟨e1, f1⟩ := fl_of hx hu
  obtain ⟨e2, f2⟩ := fls_of hd h2
  refine .inl ⟨a, vs, rfl, .inl h1, f1, f2, ?_⟩
  rw [e1, e2]; exact q _ (.bl _)
theorem in_t (hx : scalD x = true) (hd : ds.all scalD = true) : RB g (rInU g.K) x (.tuple ds) (.bool (inD x ds)) := fun u v H hu hv Q q => by
  obtain ⟨a, vs, rfl, h1, h2⟩ := dp_tq hv
  obtain ⟨e1, f1⟩ := fl_of hx hu
  obtain ⟨e2, f2⟩ := fls_of hd h2
  refine .inl ⟨a, vs, rfl, .inr h1, f1, f2, ?_⟩
  rw [e1, e2]; exact q _ (.bl _)
theorem ni_l (hx : scalD x = true) (hd : ds.all scalD = true) : RB g (rNiU g.K) x (.list ds) (.bool (!inD x ds)) := fun u v H hu hv Q q => by
  obtain ⟨a, vs, rfl, h1, h2⟩ := dp_sq hv
  obtain ⟨e1, f1⟩ := fl_of hx hu
  obtain ⟨e2, f2⟩ := fls_of hd h2
  refine .inl ⟨a, vs, rfl, .inl h1, f1, f2, ?_⟩
  rw [e1, e2]; exact q _ (.bl _)
theorem ni_t (hx : scalD x = true) (hd : ds.all scalD = true) : RB g (rNiU g.K) x (.tuple ds) (.bool (!inD x ds)) := fun u v H hu hv Q q => by
  obtain ⟨a, vs, rfl, h1, h2⟩ := dp_tq hv
  obtain ⟨e1, f1⟩ := fl_of hx hu
  obtain ⟨e2, f2⟩ := fls_of hd h2
  refine .inl ⟨a, vs, rfl, .inr h1, f1, f2, ?_⟩
  rw [e1, e2]; exact q _ (.bl _)
theorem in_sg {c : Nat} {z : Str} : RB g (rInU g.K) (.str ⟨#[c]⟩) (.str z) (.bool (decide (c ∈ z.cps.toList))) := fun u v H hu hv Q q => by
  cases hu; cases hv
  exact .inr ⟨c, z, rfl, rfl, q _ (.bl _)⟩
theorem ni_sg {c : Nat} {z : Str} : RB g (rNiU g.K) (.str ⟨#[c]⟩) (.str z) (.bool (!decide (c ∈ z.cps.toList))) := fun u v H hu hv Q q => by
  cases hu; cases hv
  exact .inr ⟨c, z, rfl, rfl, q _ (.bl _)⟩
/-- an item -/
theorem ix_l {k : Int} (h : atI ds k = some d) : R g (rIx g.K) (.list ds) (.int k) d := fun u v F H e hu hv Q q => by
  obtain ⟨a, vs, rfl, h1, h2⟩ := dp_sq hu
  cases hv
  unfold atI at h
  rw [← dps_len h2] at h
  cases hi : ixN vs.length k with
  | none => rw [hi] at h; cases h
  | some j =>
    rw [hi] at h
    obtain ⟨w, e1, e2⟩ := dps_get h2 (show ds[j]? = some d from h)
    exact .inl ⟨a, vs, k, w, rfl, rfl, e.ex.l h1, by unfold atI; rw [hi]; exact e1, q w F H (Stp.refl e) e2⟩
theorem ix_t {k : Int} (h : atI ds k = some d) : R g (rIx g.K) (.tuple ds) (.int k) d := fun u v F H e hu hv Q q => by
  obtain ⟨a, vs, rfl, h1, h2⟩ := dp_tq hu
  cases hv
  unfold atI at h
  rw [← dps_len h2] at h
  cases hi : ixN vs.length k with
  | none => rw [hi] at h; cases h
  | some j =>
    rw [hi] at h
    obtain ⟨w, e1, e2⟩ := dps_get h2 (show ds[j]? = some d from h)
    exact .inr (.inl ⟨a, vs, k, w, rfl, rfl, e.ex.t h1, by unfold atI; rw [hi]; exact e1, q w F H (Stp.refl e) e2⟩)
theorem ix_s {s : Str} {k : Int} {c : Nat} (hl : s.length ≤ 100000) (h : atI s.cps.toList k = some c) : R g (rIx g.K) (.str s) (.int k) (.str ⟨#[c]⟩) := fun u v F H e hu hv Q q => by
  cases hu; cases hv
  exact .inr (.inr ⟨s, k, c, rfl, rfl, Nat.le_trans hl (by decide), h, q _ F H (Stp.refl e) (.str _)⟩)
/-- an item of our own list -/
theorem e_ixo {j : Nat} {k : Int} (h : G[j]? = some (.ow ds)) (hb : E g tb G (.int k)) (hk : atI ds k = some d) : E g (tOp (rIx g.K) (tVar j) tb) G d := fun σ F H hh Q q => by
  obtain ⟨o, e, p, vs, ev, h0, hF, hH, hd⟩ := hh.at_ h
  subst ev
  refine ⟨.ref p, e, hb σ F H hh _ fun v F1 H1 s1 d1 => ?_⟩
  cases d1
  unfold atI at hk
  rw [← dps_len hd] at hk
  cases hi : ixN vs.length k with
  | none => rw [hi] at hk; cases hk
  | some j =>
    rw [hi] at hk
    obtain ⟨w, e1, e2⟩ := dps_get hd (show ds[j]? = some d from hk)
    exact .inl ⟨p, vs, k, w, rfl, rfl, .inl (.inl (s1.h.lst hH)), by unfold atI; rw [hi]; exact e1, q w F1 H1 s1 (s1.f.dp d w e2)⟩
/-! ### unary, and, or, not, if -/
theorem e_neg {k : Int} (h : E g te G (.int k)) : E g (tUn (rU fun i => .int (-i)) te) G (.int (-k)) := fun σ F H hh Q q =>
  h σ F H hh _ fun v F1 H1 s1 d1 => by cases d1; exact ⟨k, rfl, q _ F1 H1 s1 (.int _)⟩
theorem t_test {b : Bool} (h : E g te G (.bool b)) : T g (tTest te) G b := fun σ F H hh Q q => h σ F H hh _ fun v F1 H1 s1 d1 => by cases d1; exact ⟨b, rfl, q F1 H1 s1⟩
theorem t_and {a b : Bool} (h1 : T g tt G a) (h2 : a = true → T g tu G b) : T g (tAnd tt tu) G (a && b) := fun σ F H hh Q q => h1 σ F H hh _ fun F1 H1 s1 => by
  cases a with
  | true => exact h2 rfl σ F1 H1 (hh.mono s1) Q fun F2 H2 s2 => q F2 H2 (s1.trans s2)
  | false => exact q F1 H1 s1
theorem t_or {a b : Bool} (h1 : T g tt G a) (h2 : a = false → T g tu G b) : T g (tOr tt tu) G (a || b) := fun σ F H hh Q q => h1 σ F H hh _ fun F1 H1 s1 => by
  cases a with
  | true => exact q F1 H1 s1
  | false => exact h2 rfl σ F1 H1 (hh.mono s1) Q fun F2 H2 s2 => q F2 H2 (s1.trans s2)
theorem t_not {a : Bool} (h1 : T g tt G a) : T g (tNot tt) G (!a) := fun σ F H hh Q q => h1 σ F H hh _ fun F1 H1 s1 => q F1 H1 s1
theorem e_andV {a b : Bool} (h1 : E g ta G (.bool a)) (h2 : a = true → E g tb G (.bool b)) : E g (tAndV ta tb) G (.bool (a && b)) := fun σ F H hh Q q => h1 σ F H hh _ fun v F1 H1 s1 d1 => by
  cases d1
  refine ⟨a, rfl, ?_⟩
  cases a with
  | true => exact h2 rfl σ F1 H1 (hh.mono s1) Q fun v F2 H2 s2 => q v F2 H2 (s1.trans s2)
  | false => exact q _ F1 H1 s1 (.bl false)
theorem e_orV {a b : Bool} (h1 : E g ta G (.bool a)) (h2 : a = false → E g tb G (.bool b)) : E g (tOrV ta tb) G (.bool (a || b)) := fun σ F H hh Q q => h1 σ F H hh _ fun v F1 H1 s1 d1 => by
  cases d1
  refine ⟨a, rfl, ?_⟩
  cases a with
  | true => exact q _ F1 H1 s1 (.bl true)
  | false => exact h2 rfl σ F1 H1 (hh.mono s1) Q fun v F2 H2 s2 => q v F2 H2 (s1.trans s2)
theorem e_if {b : Bool} (h : T g tt G b) (h1 : b = true → E g ta G d) (h2 : b = false → E g tb G d) : E g (tIf tt ta tb) G d := fun σ F H hh Q q => h σ F H hh _ fun F1 H1 s1 => by
  cases b with
  | true => exact h1 rfl σ F1 H1 (hh.mono s1) Q fun v F2 H2 s2 => q v F2 H2 (s1.trans s2)
  | false => exact h2 rfl σ F1 H1 (hh.mono s1) Q fun v F2 H2 s2 => q v F2 H2 (s1.trans s2)
theorem e_chain {r r' : R2} {a b : Bool} (ha : B g ta G x) (hb : B g tb G y) (hc : a = true → B g tc G z) (h1 : RB g r x y (.bool a)) (h2 : a = true → RB g r' y z (.bool b)) : E g (tChain r r' ta tb tc) G (.bool (a && b)) := fun σ F H hh Q q =>
  ha σ F H hh _ fun u F1 H1 s1 d1 => hb σ F1 H1 (hh.mono s1) _ fun v F2 H2 s2 d2 => h1 u v H2 (s2.h.dp x u d1) d2 _ fun w dw => by
    cases dw
    refine ⟨a, rfl, ?_⟩
    cases a with
    | true => exact hc rfl σ F2 H2 ((hh.mono s1).mono s2) _ fun u3 F3 H3 s3 d3 => h2 rfl v u3 H3 (s3.h.dp y v d2) d3 Q fun w' dw' => by cases dw'; exact q _ F3 H3 ((s1.trans s2).trans s3) (.bl _)
    | false => exact q _ F2 H2 (s1.trans s2) (.bl false)
/-- truth -/
def truD : PyData → Option Bool
  | .none => some false
  | .bool b => some b
  | .int i => some (i != 0)
  | .str s => if s.length ≤ 100000 then some ((s.length : Int) != 0) else none
  | .list ds => some (!ds.isEmpty)
  | .tuple ds => some (!ds.isEmpty)
  | .dict _ => none
theorem isEmpty_dps {K : PySem.W.Frag} {F : Hp} {vs : List V} {ds : List PyData} (h : DpAll K F vs ds) : vs.isEmpty = ds.isEmpty := by cases h <;> rfl
theorem tru_of {K : PySem.W.Frag} {H : Hp} {v : V} {b : Bool} : ∀ {d : PyData}, truD d = some b → Dp K H v d → TruV K v H b
  | .none, e, h => by cases h; exact (Option.some.inj e).symm
  | .bool _, e, h => by cases h; exact (Option.some.inj e).symm
  | .int _, e, h => by cases h; exact (Option.some.inj e).symm
  | .str s, e, h => by
    cases h
    have e' : (if s.length ≤ 100000 then some ((s.length : Int) != 0) else none) = some b := e
    by_cases hl : s.length ≤ 100000
    · rw [if_pos hl] at e'; exact ⟨Nat.le_trans hl (by decide), (Option.some.inj e').symm⟩
    · rw [if_neg hl] at e'; cases e'
  | .list _, e, h => by
    obtain ⟨a, vs, rfl, h1, h2⟩ := dp_sq h
    exact .inl ⟨vs, h1, by rw [isEmpty_dps h2]; exact (Option.some.inj e).symm⟩
  | .tuple _, e, h => by
    obtain ⟨a, vs, rfl, h1, h2⟩ := dp_tq h
    exact .inr (.inl ⟨vs, h1, by rw [isEmpty_dps h2]; exact (Option.some.inj e).symm⟩)
  | .dict _, e, _ => by cases e
theorem t_truth {b : Bool} (h : B g te G d) (e : truD d = some b) : T g (fun σ H Q => te σ H fun x H' => ∃ k, TruV g.K x H' k ∧ Q k H') G b := fun σ F H hh Q q =>
  h σ F H hh _ fun v F1 H1 s1 d1 => ⟨b, tru_of e d1, q F1 H1 s1⟩
theorem e_notT {b : Bool} (h : B g te G d) (e : truD d = some b) : E g (tNotT g.K te) G (.bool (!b)) := fun σ F H hh Q q =>
  h σ F H hh _ fun v F1 H1 s1 d1 => ⟨b, tru_of e d1, q _ F1 H1 s1 (.bl _)⟩
/-! ### arguments, displays, calls -/
theorem a_nil : A g tNil G [] := fun σ F H hh Q q => q [] F H (Stp.refl hh.st.i) .nil
theorem a_cons {tr : TA} (h : E g te G d) (hr : A g tr G ds) : A g (tCons te tr) G (d :: ds) := fun σ F H hh Q q =>
  h σ F H hh _ fun v F1 H1 s1 d1 => hr σ F1 H1 (hh.mono s1) _ fun vs F2 H2 s2 d2 => q (v :: vs) F2 H2 (s1.trans s2) (.cons (s2.f.dp d v d1) d2)
theorem ab_nil : AB g tNil G [] := fun σ F H hh Q q => q [] F H (Stp.refl hh.st.i) .nil
theorem ab_cons {tr : TA} (h : B g te G d) (hr : AB g tr G ds) : AB g (tCons te tr) G (d :: ds) := fun σ F H hh Q q =>
  h σ F H hh _ fun v F1 H1 s1 d1 => hr σ F1 H1 (hh.mono s1) _ fun vs F2 H2 s2 d2 => q (v :: vs) F2 H2 (s1.trans s2) (.cons (s2.h.dp d v d1) d2)
theorem e_tup {ta : TA} (h : A g ta G ds) (hl : ds.length ≤ 100000) : E g (tTup ta) G (.tuple ds) := fun σ F H hh Q q => h σ F H hh _ fun vs F1 H1 s1 d1 =>
  ⟨by rw [dps_len d1]; exact Nat.le_trans hl (by decide), fun p hp => by
    have st := Stp.new (o := .tup vs) s1.i hp fun _ z => by cases z
    exact q (.ref p) _ _ (s1.trans st) (.tup (.inl (.inl upd_same)) (st.f.dps ds vs d1))⟩
theorem el_lst {ta : TA} (h : A g ta G ds) (hl : ds.length ≤ 100000) : EL g (tLst ta) G ds := fun σ F H hh Q q => h σ F H hh _ fun vs F1 H1 s1 d1 =>
  ⟨by rw [dps_len d1]; exact Nat.le_trans hl (by decide), fun p hp => q p vs F1 _ (s1.trans (Stp.mine s1.i hp)) (old_free s1 hp) (s1.i.free hp) upd_same d1⟩
theorem b_cb {r : List V → Hp → VK → Prop} {ta : TA} (h : AB g ta G ds) (hr : C1 g r ds d) (hs : scalD d = true) : E g (tCB r ta) G d := fun σ F H hh Q q => h σ F H hh _ fun vs F1 H1 s1 d1 =>
  hr vs H1 d1 Q fun z dz => q z F1 H1 s1 (dp_scal hs dz)
theorem ab_one {vs : List V} {H : Hp} {K : PySem.W.Frag} (h : DpAll K H vs [d]) : ∃ v, vs = [v] ∧ Dp K H v d := by
  cases h with
  | cons h t => cases t; exact ⟨_, rfl, h⟩
def rLenU (K : PySem.W.Frag) : List V → Hp → VK → Prop := fun xs H Q => ∃ x n, xs = [x] ∧ LenV K x H n ∧ Q (.int n) H
theorem uLen {X : Cx} : CallR X (.builtin "len") (rLenU X.K) := call_len
theorem len_l : C1 g (rLenU g.K) [.list ds] (.int ds.length) := fun vs H h Q q => by
  obtain ⟨v, rfl, hw⟩ := ab_one h
  obtain ⟨a, ws, rfl, h1, h2⟩ := dp_sq hw
  exact ⟨_, ds.length, rfl, .inl ⟨ws, h1, (dps_len h2).symm⟩, q _ (.int _)⟩
theorem len_t : C1 g (rLenU g.K) [.tuple ds] (.int ds.length) := fun vs H h Q q => by
  obtain ⟨v, rfl, hw⟩ := ab_one h
  obtain ⟨a, ws, rfl, h1, h2⟩ := dp_tq hw
  exact ⟨_, ds.length, rfl, .inr ⟨ws, h1, (dps_len h2).symm⟩, q _ (.int _)⟩
theorem len_s {s : Str} (hl : s.length ≤ 100000) : C1 g (rLenU g.K) [.str s] (.int s.length) := fun vs H h Q q => by
  obtain ⟨v, rfl, hw⟩ := ab_one h
  cases hw
  exact ⟨_, s.length, rfl, ⟨Nat.le_trans hl (by decide), rfl⟩, q _ (.int _)⟩
def rIntU : List V → Hp → VK → Prop := fun xs H Q => (∃ i, xs = [.int i] ∧ Q (.int i) H) ∨ ∃ k, xs = [.bl k] ∧ Q (.int (if k then 1 else 0)) H
theorem uInt {X : Cx} : CallR X (.type "int") rIntU := call_int1
theorem int_i {k : Int} : C1 g rIntU [.int k] (.int k) := fun vs H h Q q => by
  obtain ⟨v, rfl, hw⟩ := ab_one h
  cases hw
  exact .inl ⟨k, rfl, q _ (.int _)⟩
/-- list(xs), tuple(xs) -/
def rListU (K : PySem.W.Frag) : List V → Hp → VK → Prop := fun xs H Q => ∃ p ys, xs = [.ref p] ∧ (SqL K H p ys ∨ SqT K H p ys) ∧ ∀ l, H l = none → Q (.ref l) (upd H l (.lst ys))
theorem uList {X : Cx} : CallR X (.type "list") (rListU X.K) := call_list_of
def rTupU (K : PySem.W.Frag) : List V → Hp → VK → Prop := fun xs H Q => ∃ p ys, xs = [.ref p] ∧ ((SqL K H p ys ∧ ∀ l, H l = none → Q (.ref l) (upd H l (.tup ys))) ∨ (SqT K H p ys ∧ Q (.ref p) H))
theorem uTup {X : Cx} : CallR X (.type "tuple") (rTupU X.K) := call_tuple_of
theorem e_tupL (h : EL g te G ds) : E g (tCB (rTupU g.K) (tCons te tNil)) G (.tuple ds) := fun σ F H hh Q q => h σ F H hh _ fun p vs F1 H1 s1 h0 hF hH d1 =>
  ⟨p, vs, rfl, .inl ⟨.inl (.inl hH), fun l hl => by
    have st := Stp.new (o := .tup vs) s1.i hl fun _ z => by cases z
    exact q (.ref l) _ _ (s1.trans st) (.tup (.inl (.inl upd_same)) (st.f.dps ds vs d1))⟩⟩
/-! slices -/
def cutD (ds : List PyData) (lo hi : Option Int) : List PyData := (ds.drop (HT.sIx ds.length 0 lo)).take (HT.sIx ds.length ds.length hi - HT.sIx ds.length 0 lo)
def O (g : Gd) (to : TO) (G : List Sl) (o : Option Int) : Prop := ∀ σ F H, Holds g G σ F H → ∀ Q : Option Int → Hp → Prop, (∀ F' H', Stp F H F' H' → Q o H') → to σ H Q
theorem o_none : O g tNoPart G none := fun σ F H hh Q q => q F H (Stp.refl hh.st.i)
theorem o_some {k : Int} (h : E g te G (.int k)) : O g (tPart te) G (some k) := fun σ F H hh Q q => h σ F H hh _ fun v F1 H1 s1 d1 => by cases d1; exact ⟨k, rfl, q F1 H1 s1⟩
def rSlU (K : PySem.W.Frag) : V → Option Int → Option Int → Hp → VK → Prop := fun x lo hi H Q => rSlL K x lo hi H Q ∨ rSlS x lo hi H Q
theorem SlR.or {X : Cx} {r r' : V → Option Int → Option Int → Hp → VK → Prop} (h : SlR X r) (h' : SlR X r') : SlR X (fun x lo hi H Q => r x lo hi H Q ∨ r' x lo hi H Q) := by
  intro pins s σ H x v vl vu lo hi sl Q I rx hs pl pu hq
  rcases hq with hq | hq
  · exact h pins s σ H x v vl vu lo hi sl Q I rx hs pl pu hq
  · exact h' pins s σ H x v vl vu lo hi sl Q I rx hs pl pu hq
theorem uSl {X : Cx} : SlR X (rSlU X.K) := SlR.or sl_list sl_str
theorem cut_dps {K : PySem.W.Frag} {F : Hp} {vs : List V} {lo hi : Option Int} (h : DpAll K F vs ds) : DpAll K F (cutV vs lo hi) (cutD ds lo hi) := by
  unfold cutV cutD
  rw [dps_len h]
  exact dps_take _ (dps_drop _ h)
theorem el_sl {to tp : TO} {lo hi : Option Int} (h : E g te G (.list ds)) (hl : O g to G lo) (hu : O g tp G hi) : EL g (tSl (rSlU g.K) te to tp) G (cutD ds lo hi) := fun σ F H hh Q q =>
  h σ F H hh _ fun v F1 H1 s1 d1 => hl σ F1 H1 (hh.mono s1) _ fun F2 H2 s2 => hu σ F2 H2 ((hh.mono s1).mono s2) _ fun F3 H3 s3 => by
    obtain ⟨a, vs, rfl, h1, h2⟩ := dp_sq (s3.f.dp _ v (s2.f.dp _ v d1))
    have ss := (s1.trans s2).trans s3
    exact .inl ⟨a, vs, rfl, s3.i.ex.l h1, fun p hp => q p _ F3 _ (ss.trans (Stp.mine s3.i hp)) (old_free ss hp) (s3.i.free hp) upd_same (cut_dps h2)⟩
theorem e_slS {to tp : TO} {lo hi : Option Int} {s : Str} (h : E g te G (.str s)) (hz : s.length ≤ 100000) (hl : O g to G lo) (hu : O g tp G hi) : E g (tSl (rSlU g.K) te to tp) G (.str (cutS s lo hi)) := fun σ F H hh Q q =>
  h σ F H hh _ fun v F1 H1 s1 d1 => hl σ F1 H1 (hh.mono s1) _ fun F2 H2 s2 => hu σ F2 H2 ((hh.mono s1).mono s2) _ fun F3 H3 s3 => by
    cases d1
    exact .inr ⟨s, rfl, Nat.le_trans hz (by decide), q _ F3 H3 ((s1.trans s2).trans s3) (.str _)⟩
end
end DW
namespace DW
open PySem PySem.Spec PyProof.Rows L2
variable [LamTabs]
/-! ### a list of ours changes -/
theorem Stp.mut {F H F' H' : Hp} {p : Addr} {o1 o2 : HO} (s : Stp F H F' H') (h0 : H p = none) (hF : F' p = none) (hH : H' p = some o1) (nt : ∀ ps, o1 ≠ .tbl ps) (nc : ∀ c q, o1 ≠ LamX.CodeO c q := by intro c q z; unfold LamX.CodeO at z; cases z) : Stp F H F' (upd H' p o2) := by
  refine ⟨s.f, ⟨fun a o q n => ?_, s.i.nt⟩, fun a o q n => ?_, fun a o q => ?_, fun P t => ?_, s.n⟩
  · rw [upd_ne (ne_of_none q hF)]; exact s.i.ex a o q n
  · rw [upd_ne (ne_of_none q h0)]; exact s.h a o q n
  · rw [upd_ne (ne_of_none q h0)]; exact s.s a o q
  · exact tab_mut hH nt nc (s.t P t)
theorem Holds.mut {g : Gd} {G : List Sl} {σ : L2.St} {F H : Hp} {p : Addr} {o1 o2 : HO} (h : Holds g G σ F H) (h0 : g.H0 p = none) (hF : F p = none) (hH : H p = some o1) (nt : ∀ ps, o1 ≠ .tbl ps) (new : ∀ (j : Nat) (t : Sl), G[j]? = some t → t.mine = true → σ[j]? ≠ some (some (V.ref p))) (nc : ∀ c q, o1 ≠ LamX.CodeO c q := by intro c q z; unfold LamX.CodeO at z; cases z) :
    Holds g G σ F (upd H p o2) := by
  refine ⟨h.len, h.st.mut h0 hF hH nt nc, fun j s o e1 e2 => ?_, h.apart, fun P hP => ?_, h.lo⟩
  · have q := h.sl j s o e1 e2
    cases s with
    | un => trivial
    | fz d => exact q
    | raw v => exact q
    | ow ds =>
      obtain ⟨r, vs, e, q0, qF, qH, qd⟩ := q
      subst e
      refine ⟨r, vs, rfl, q0, qF, ?_, qd⟩
      rw [upd_ne (fun z => new j _ e1 rfl (by rw [e2, z]))]; exact qH
    | od ds =>
      obtain ⟨r, vs, e, q0, qF, qH, qd⟩ := q
      subst e
      refine ⟨r, vs, rfl, q0, qF, ?_, qd⟩
      rw [upd_ne (fun z => new j _ e1 rfl (by rw [e2, z]))]; exact qH
    | fk ds => exact q
    | ob C =>
      obtain ⟨r, u, e, q0, qF, qH, qn, qC⟩ := q
      subst e
      refine ⟨r, u, rfl, q0, qF, ?_, qn, qC⟩
      rw [upd_ne (fun z => new j _ e1 rfl (by rw [e2, z]))]; exact qH
  · exact tab_mut hH nt nc (h.tab P hP)
/-! ### statements -/
def S (g : Gd) (t : TS) (D : Ends) (G : List Sl) : Prop := ∀ σ F H, Holds g G σ F H → t D σ H
def N (g : Gd) (nx : L2.St → Hp → Prop) (G : List Sl) : Prop := ∀ σ F H, Holds g G σ F H → nx σ H
def Rt (g : Gd) (rt : VK) (d : PyData) : Prop := ∀ v F H, Stp g.F0 g.H0 F H → Dp g.K F v d → rt v H
def RtL (g : Gd) (rt : VK) (ds : List PyData) : Prop := ∀ p vs F H, Stp g.F0 g.H0 F H → g.H0 p = none → F p = none → H p = some (.lst vs) → DpAll g.K F vs ds → rt (.ref p) H
/-- targets -/
def Tg (g : Gd) (tg : TG) (d : PyData) (G G' : List Sl) (ix : List Nat) : Prop := ∀ v σ F H, Holds g G σ F H → Dp g.K F v d → ∀ Q : L2.St → Hp → Prop, (∀ σ', Holds g G' σ' F H → (∀ vs : List Nat, (∀ j ∈ ix, j ∈ vs) → wipe σ' vs = wipe σ vs) → Q σ' H) → tg v σ H Q
def Tgs (g : Gd) (tg : TGs) (ds : List PyData) (G G' : List Sl) (ix : List Nat) : Prop := ∀ vs σ F H, Holds g G σ F H → DpAll g.K F vs ds → ∀ Q : L2.St → Hp → Prop, (∀ σ', Holds g G' σ' F H → (∀ vs : List Nat, (∀ j ∈ ix, j ∈ vs) → wipe σ' vs = wipe σ vs) → Q σ' H) → tg vs σ H Q
theorem wipe_set {σ : L2.St} {j : Nat} {v : Option V} : ∀ {vs : List Nat}, j ∈ vs → wipe (σ.set j v) vs = wipe σ vs
  | [], h => by cases h
  | w :: vs, h => by
    unfold wipe
    by_cases hj : j ∈ vs
    · rw [wipe_set hj]
    · have e : j = w := by
        rcases List.mem_cons.mp h with e | e
        · exact e
        · exact absurd e hj
      subst e
      have aux : ∀ (vs : List Nat), j ∉ vs → (wipe (σ.set j v) vs).set j none = (wipe σ vs).set j none := by
        intro vs
        induction vs with
        | nil => intro _; unfold wipe; rw [List.set_set]
        | cons w vs ih =>
          intro hn
          have h1 : j ≠ w := fun z => hn (by rw [z]; exact List.mem_cons_self)
          have h2 : j ∉ vs := fun z => hn (List.mem_cons_of_mem _ z)
          unfold wipe
          rw [List.set_comm _ _ (Ne.symm h1), ih h2, List.set_comm _ _ h1]
      exact aux vs hj
/-- forgetting, slot by slot -/
inductive Wk : List Sl → List Sl → Prop
  | nil : Wk [] []
  | keep {s s' : Sl} {G G' : List Sl} (e : s' = s) (h : Wk G G') : Wk (s :: G) (s' :: G')
  | drop {s : Sl} {G G' : List Sl} (h : Wk G G') : Wk (s :: G) (.un :: G')
theorem Wk.refl : ∀ (G : List Sl), Wk G G
  | [] => .nil
  | _ :: G => .keep rfl (Wk.refl G)
theorem Wk.len : ∀ {G G' : List Sl}, Wk G G' → G'.length = G.length
  | _, _, .nil => rfl
  | _, _, .keep _ h => by rw [List.length_cons, List.length_cons, Wk.len h]
  | _, _, .drop h => by rw [List.length_cons, List.length_cons, Wk.len h]
theorem Wk.ok : ∀ {G G' : List Sl}, Wk G G' → ∀ (j : Nat) (s : Sl), G'[j]? = some s → s = .un ∨ G[j]? = some s
  | _, _, .nil, _, _, e => by simp at e
  | _, _, .keep e _, 0, s, h => by simp at h; subst h; subst e; exact .inr rfl
  | _, _, .keep _ t, j + 1, s, h => by simpa using Wk.ok t j s (by simpa using h)
  | _, _, .drop _, 0, s, h => by simp at h; exact .inl h.symm
  | _, _, .drop t, j + 1, s, h => by simpa using Wk.ok t j s (by simpa using h)
theorem Holds.wk {g : Gd} {G G' : List Sl} {σ : L2.St} {F H : Hp} (h : Holds g G σ F H) (w : Wk G G') : Holds g G' σ F H := h.weak w.len w.ok
section
variable {g : Gd} {G G' G1 : List Sl} {te ta tb tc : TE} {tt : TT} {tu tw : TS} {d x y : PyData} {ds es : List PyData} {i j : Nat} {D : Ends} {tg : TG} {tgs : TGs} {ix ix' : List Nat}
theorem s_next (h : N g D.nx G) : S g tNext D G := h
theorem s_asg (h : E g te G d) (k : N g D.nx (G.set i (.fz d))) : S g (tAsg te (gName i)) D G := fun σ F H hh => h σ F H hh _ fun v F1 H1 s1 d1 => k _ F1 H1 ((hh.mono s1).setF d1)
theorem new_ok {σ : L2.St} {F H : Hp} (hh : Holds g G σ F H) {p : Addr} (h0 : H p = none) : ∀ (j : Nat), (∃ t, G[j]? = some t ∧ t.mine = true) → σ[j]? ≠ some (some (.ref p)) := fun j ht e => by
  obtain ⟨t, e1, m⟩ := ht
  have q := hh.sl j t _ e1 e
  cases t with
  | un => cases m
  | fz d => cases m
  | raw v => cases m
  | ow ds =>
    obtain ⟨r, vs, e2, _, _, qH, _⟩ := q
    cases e2
    rw [h0] at qH; cases qH
  | od ds =>
    obtain ⟨r, vs, e2, _, _, qH, _⟩ := q
    cases e2
    rw [h0] at qH; cases qH
  | fk ds => cases m
  | ob C =>
    obtain ⟨r, u, e2, _, _, qH, _⟩ := q
    cases e2
    rw [h0] at qH; cases qH
theorem s_asgL (h : EL g te G ds) (k : N g D.nx (G.set i (.ow ds))) : S g (tAsg te (gName i)) D G := fun σ F H hh => h σ F H hh _ fun p vs F1 H1 s1 h0 hF hH d1 =>
  k _ F1 H1 ((hh.mono s1).setO (old_free hh.st h0) hF hH d1 fun j _ ht => new_ok hh h0 j ht)
theorem s_asgT (h : E g te G d) (ht : Tg g tg d G G' ix) (k : N g D.nx G') : S g (tAsg te tg) D G := fun σ F H hh => h σ F H hh _ fun v F1 H1 s1 d1 => ht v σ F1 H1 (hh.mono s1) d1 _ fun σ' h' _ => k σ' F1 H1 h'
theorem g_name : Tg g (gName i) d G (G.set i (.fz d)) [i] := fun v σ F H hh hd Q q => q _ (hh.setF hd) fun vs hv => wipe_set (hv i List.mem_cons_self)
theorem gs_nil : Tgs g gNil [] G G [] := fun vs σ F H hh hd Q q => by cases hd; exact ⟨rfl, q σ hh fun _ _ => rfl⟩
theorem gs_cons {t : TG} {u : TGs} (h1 : Tg g t d G G1 ix) (h2 : Tgs g u ds G1 G' ix') : Tgs g (gCons t u) (d :: ds) G G' (ix ++ ix') := fun vs σ F H hh hd Q q => by
  cases hd with
  | cons a b =>
    exact ⟨_, _, rfl, h1 _ σ F H hh a _ fun σ1 hh1 w1 => h2 _ σ1 F H hh1 b _ fun σ2 hh2 w2 => q σ2 hh2 fun vs hv =>
      (w2 vs fun j hj => hv j (List.mem_append_right _ hj)).trans (w1 vs fun j hj => hv j (List.mem_append_left _ hj))⟩
theorem g_tup {n : Nat} (h : Tgs g tgs ds G G' ix) (hn : ds.length = n) : Tg g (gTup g.K n tgs) (.tuple ds) G G' ix := fun v σ F H hh hd Q q => by
  obtain ⟨a, vs, rfl, h1, h2⟩ := dp_tq hd
  exact ⟨a, vs, rfl, hh.st.i.ex.t h1, (dps_len h2).trans hn, h vs σ F H hh h2 Q q⟩
theorem s_ret (h : E g te G d) (k : Rt g D.rt d) : S g (tRet te) D G := fun σ F H hh => h σ F H hh _ fun v F1 H1 s1 d1 => k v F1 H1 (hh.st.trans s1) d1
theorem s_retL (h : EL g te G ds) (k : RtL g D.rt ds) : S g (tRet te) D G := fun σ F H hh => h σ F H hh _ fun p vs F1 H1 s1 h0 hF hH d1 => k p vs F1 H1 (hh.st.trans s1) (old_free hh.st h0) hF hH d1
theorem s_retO (h : G[i]? = some (.ow ds)) (k : RtL g D.rt ds) : S g (tRet (tVar i)) D G := fun σ F H hh => by
  obtain ⟨o, e, p, vs, ev, h0, hF, hH, hd⟩ := hh.at_ h
  subst ev
  exact ⟨.ref p, e, k p vs F H hh.st h0 hF hH hd⟩
theorem RtL.of (h : Rt g D.rt (.list ds)) : RtL g D.rt ds := fun p vs F H s h0 hF hH hd => by
  have e : Ex F (upd F p (.lst vs)) := fun a u q _ => by rw [upd_ne (ne_of_none q hF)]; exact q
  refine h (.ref p) (upd F p (.lst vs)) H ⟨s.f.trans e, ⟨fun a u q n => ?_, fun a ps q => ?_⟩, s.h, s.s, s.t, fun a u q n => ?_⟩ (.lst (.inl (.inl upd_same)) (e.dps ds vs hd))
  · by_cases ha : a = p
    · subst ha; rw [upd_same] at q; cases q; exact hH
    · rw [upd_ne ha] at q; exact s.i.ex a u q n
  · by_cases ha : a = p
    · subst ha; rw [upd_same] at q; cases q
    · rw [upd_ne ha] at q; exact s.i.nt a ps q
  · rw [upd_ne (ne_of_none q h0)]; exact s.n a u q n
theorem s_if {b : Bool} (h : T g tt G b) (h1 : b = true → S g tu D G) (h2 : b = false → S g tw D G) : S g (tIfS tt tu tw) D G := fun σ F H hh => h σ F H hh _ fun F1 H1 s1 => by
  cases b with
  | true => exact h1 rfl σ F1 H1 (hh.mono s1)
  | false => exact h2 rfl σ F1 H1 (hh.mono s1)
theorem s_drop (h : E g te G d) (k : N g D.nx G) : S g (tDrop te) D G := fun σ F H hh => h σ F H hh _ fun v F1 H1 s1 _ => k σ F1 H1 (hh.mono s1)
theorem s_aug {f : Int → Int → Int} {a b : Int} (hx : G[i]? = some (.fz (.int a))) (h : E g te G (.int b)) (k : N g D.nx (G.set i (.fz (.int (f a b))))) : S g (tAug i te (ipI f)) D G := fun σ F H hh => by
  obtain ⟨o, e, v, ev, hd⟩ := hh.at_ hx
  subst ev
  cases hd
  refine ⟨.int a, e, h σ F H hh _ fun w F1 H1 s1 d1 => ?_⟩
  cases d1
  exact ⟨a, b, rfl, rfl, k _ F1 H1 ((hh.mono s1).setF (.int _))⟩
/-- xs.append(e) -/
theorem s_app (h : G[i]? = some (.ow ds)) (he : E g te G d) (hz : ds.length < 100000) (k : N g D.nx (G.set i (.ow (ds ++ [d])))) : S g (tDrop (tBM g.K "list" rAppend (tVar i) (tCons te tNil))) D G := fun σ F H hh => by
  obtain ⟨o, e, p, vs, ev, h0, hF, hH, hd⟩ := hh.at_ h
  subst ev
  refine ⟨.ref p, e, .inl ⟨rfl, vs, .inl (.inl hH)⟩, he σ F H hh _ fun v F1 H1 s1 d1 => ?_⟩
  have hH1 := s1.h.lst hH
  have hF1 := s1.n p _ hH hF
  refine ⟨p, vs, v, rfl, rfl, hH1, Nat.lt_of_lt_of_le (by rw [dps_len hd]; exact hz) (by decide), ?_⟩
  have hi : i < σ.length := (List.getElem?_eq_some_iff.mp e).1
  have hs : σ.set i (some (.ref p)) = σ := by
    apply List.ext_getElem?
    intro j
    by_cases hj : i = j
    · subst hj; rw [List.getElem?_set_self hi, e]
    · rw [List.getElem?_set_ne hj]
  have base := hh.mono s1
  -- forget the slot, change, set it again
  have h1 : Holds g (G.set i .un) σ F1 H1 := base.weak (by rw [List.length_set]) fun j s ej => by
    by_cases hj : i = j
    · subst hj; rw [List.getElem?_set_self (by rw [← hh.len]; exact hi)] at ej; cases ej; exact .inl rfl
    · rw [List.getElem?_set_ne hj] at ej; exact .inr ej
  have other : ∀ (j : Nat) (t : Sl), j ≠ i → G[j]? = some t → t.mine = true → σ[j]? ≠ some (some (.ref p)) := fun j t hj ej m z => hj (hh.apart j i t (.ow ds) p ej h m rfl z e)
  have h2 : Holds g (G.set i .un) σ F1 (upd H1 p (.lst (vs ++ [v]))) := h1.mut h0 hF1 hH1 (fun _ z => by cases z) fun j t ej m => by
    by_cases hj : i = j
    · subst hj; rw [List.getElem?_set_self (by rw [← hh.len]; exact hi)] at ej; cases ej; cases m
    · rw [List.getElem?_set_ne hj] at ej; exact other j t (Ne.symm hj) ej m
  have h3 := h2.setO (i := i) (ds := ds ++ [d]) h0 hF1 upd_same (dps_app (s1.f.dps ds vs hd) (.cons d1 .nil)) fun j hj ⟨t, ej, m⟩ => by
    rw [List.getElem?_set_ne (Ne.symm hj)] at ej; exact other j t hj ej m
  rw [List.set_set, hs] at h3
  exact k σ F1 _ h3
/-- a list of ours stays for good -/
theorem s_frz (h : G[i]? = some (.ow ds)) (k : S g tu D (G.set i (.fz (.list ds)))) : S g tu D G := fun σ F H hh => by
  obtain ⟨o, e, p, vs, ev, h0, hF, hH, hd⟩ := hh.at_ h
  subst ev
  have hi : i < σ.length := (List.getElem?_eq_some_iff.mp e).1
  have ex : Ex F (upd F p (.lst vs)) := fun a u q _ => by rw [upd_ne (ne_of_none q hF)]; exact q
  refine k σ (upd F p (.lst vs)) H ⟨by rw [List.length_set]; exact hh.len, ⟨hh.st.f.trans ex, ⟨fun a u q n => ?_, fun a ps q => ?_⟩, hh.st.h, hh.st.s, hh.st.t, fun a u q n => ?_⟩, fun j s o e1 e2 => ?_, fun j k s t q e1 e2 m1 m2 e3 e4 => ?_, hh.tab, hh.lo.trans ex⟩
  · by_cases ha : a = p
    · subst ha; rw [upd_same] at q; cases q; exact hH
    · rw [upd_ne ha] at q; exact hh.st.i.ex a u q n
  · by_cases ha : a = p
    · subst ha; rw [upd_same] at q; cases q
    · rw [upd_ne ha] at q; exact hh.st.i.nt a ps q
  · rw [upd_ne (ne_of_none q h0)]; exact hh.st.n a u q n
  · by_cases hj : i = j
    · subst hj
      rw [List.getElem?_set_self (by rw [← hh.len]; exact hi)] at e1
      cases e1
      rw [e] at e2; cases e2
      exact ⟨_, rfl, .lst (.inl (.inl upd_same)) (ex.dps ds vs hd)⟩
    · rw [List.getElem?_set_ne hj] at e1
      have q := hh.sl j s o e1 e2
      cases s with
      | un => trivial
      | fz d => obtain ⟨v, ev, hv⟩ := q; exact ⟨v, ev, ex.dp d v hv⟩
      | raw v => exact q
      | ow es =>
        obtain ⟨r, ws, er, q0, qF, qH, qd⟩ := q
        subst er
        refine ⟨r, ws, rfl, q0, ?_, qH, ex.dps es ws qd⟩
        rw [upd_ne (fun z => hj (hh.apart i j (.ow ds) (.ow es) p h e1 rfl rfl e (by rw [e2, z])))]; exact qF
      | od es =>
        obtain ⟨r, ws, er, q0, qF, qH, qd⟩ := q
        subst er
        refine ⟨r, ws, rfl, q0, ?_, qH, qd.mono ex⟩
        rw [upd_ne (fun z => hj (hh.apart i j (.ow ds) (.od es) p h e1 rfl rfl e (by rw [e2, z])))]; exact qF
      | fk es =>
        obtain ⟨r, ws, er, hr, qd⟩ := q
        exact ⟨r, ws, er, ex.rd hr (fun _ z => by cases z), qd.mono ex⟩
      | ob C =>
        obtain ⟨r, u, er, q0, qF, qH, qn, qC⟩ := q
        subst er
        refine ⟨r, u, rfl, q0, ?_, qH, qn, fun F2 e2 => qC F2 (ex.trans e2)⟩
        rw [upd_ne (fun z => hj (hh.apart i j (.ow ds) (.ob C) p h e1 rfl rfl e (by rw [e2, z])))]; exact qF
  · have a1 : i ≠ j := fun z => by subst z; rw [List.getElem?_set_self (by rw [← hh.len]; exact hi)] at e1; cases e1; cases m1
    have a2 : i ≠ k := fun z => by subst z; rw [List.getElem?_set_self (by rw [← hh.len]; exact hi)] at e2; cases e2; cases m2
    rw [List.getElem?_set_ne a1] at e1
    rw [List.getElem?_set_ne a2] at e2
    exact hh.apart j k s t q e1 e2 m1 m2 e3 e4
/-! ### what is walked -/
/-- at any later time the iterator goes through ds -/
structure Wd (K : PySem.W.Frag) (J : It) (ds : List PyData) (F1 : Hp) : Prop where
  go : ∀ i F H, Ex F1 F → Sub F H → i < ds.length → J.go i H
  stop : ∀ F H, Ex F1 F → Sub F H → J.stop ds.length H
  yld : ∀ i F H x H' d, Ex F1 F → Sub F H → ds[i]? = some d → J.yld i H x H' → ∃ F', Stp F H F' H' ∧ Dp K F' x d
def IT (g : Gd) (wi : TI) (G : List Sl) (ds : List PyData) : Prop := ∀ σ F H, Holds g G σ F H → ∀ R : It → Hp → Prop, (∀ J F1 H1, Stp F H F1 H1 → Wd g.K J ds F1 → R J H1) → wi σ H R
theorem it_list (h : E g te G (.list ds)) : IT g (iList g.K te) G ds := fun σ F H hh R r => h σ F H hh _ fun v F1 H1 s1 d1 => by
  obtain ⟨a, vs, rfl, h1, h2⟩ := dp_sq d1
  refine ⟨a, rfl, ⟨vs, s1.i.ex.l h1⟩, r _ F1 H1 s1 ⟨fun i F2 H2 e sb hi => ?_, fun F2 H2 e sb => ?_, fun i F2 H2 x H' d e sb hd hy => ?_⟩⟩
  · have hi' : i < vs.length := by rw [dps_len h2]; exact hi
    exact ⟨vs, vs[i], sb.ex.l (e.l h1), List.getElem?_eq_getElem hi'⟩
  · exact ⟨vs, sb.ex.l (e.l h1), by rw [dps_len h2]; exact Nat.le_refl _⟩
  · obtain ⟨rfl, q⟩ := hy
    obtain ⟨w, e1, e2⟩ := dps_get h2 hd
    have e3 := q vs (sb.ex.l (e.l h1))
    rw [e1] at e3; cases e3
    exact ⟨F2, Stp.refl sb, e.dp d _ e2⟩
theorem it_tup (h : E g te G (.tuple ds)) : IT g (iTup g.K te) G ds := fun σ F H hh R r => h σ F H hh _ fun v F1 H1 s1 d1 => by
  obtain ⟨a, vs, rfl, h1, h2⟩ := dp_tq d1
  refine ⟨a, rfl, ⟨vs, s1.i.ex.t h1⟩, r _ F1 H1 s1 ⟨fun i F2 H2 e sb hi => ?_, fun F2 H2 e sb => ?_, fun i F2 H2 x H' d e sb hd hy => ?_⟩⟩
  · have hi' : i < vs.length := by rw [dps_len h2]; exact hi
    exact ⟨vs, vs[i], sb.ex.t (e.t h1), List.getElem?_eq_getElem hi'⟩
  · exact ⟨vs, sb.ex.t (e.t h1), by rw [dps_len h2]; exact Nat.le_refl _⟩
  · obtain ⟨rfl, q⟩ := hy
    obtain ⟨w, e1, e2⟩ := dps_get h2 hd
    have e3 := q vs (sb.ex.t (e.t h1))
    rw [e1] at e3; cases e3
    exact ⟨F2, Stp.refl sb, e.dp d _ e2⟩
/-- a list or a tuple -/
def iSeq (K : PySem.W.Frag) (te : TE) : TI := fun σ H R => iList K te σ H R ∨ iTup K te σ H R
theorem it_sl (h : E g te G (.list ds)) : IT g (iSeq g.K te) G ds := fun σ F H hh R r => .inl (it_list h σ F H hh R r)
theorem it_st (h : E g te G (.tuple ds)) : IT g (iSeq g.K te) G ds := fun σ F H hh R r => .inr (it_tup h σ F H hh R r)
theorem pi_seq {X : Cx} {tg l : Expr} {tl : TE} (hl : PE X l tl) : PI X tg l (iSeq X.K tl) := ⟨fun pins s σ H R I h => by
  rcases h with h | h
  · exact (pi_list hl).run pins s σ H R I h
  · exact (pi_tup hl).run pins s σ H R I h⟩
/-- the ints from lo on -/
def rngD (lo : Int) (n : Nat) : List PyData := (List.range n).map fun i => .int (lo + (i : Nat))
theorem rngD_len (lo : Int) (n : Nat) : (rngD lo n).length = n := by unfold rngD; rw [List.length_map, List.length_range]
theorem rngD_get {lo : Int} {n i : Nat} {d : PyData} (h : (rngD lo n)[i]? = some d) : i < n ∧ d = .int (lo + (i : Nat)) := by
  unfold rngD at h
  rw [List.getElem?_map] at h
  by_cases hi : i < n
  · rw [List.getElem?_range hi] at h; exact ⟨hi, (Option.some.inj h).symm⟩
  · rw [List.getElem?_eq_none (by rw [List.length_range]; omega)] at h; cases h
theorem wd_rng {K : PySem.W.Frag} {lo : Int} {n : Nat} {F1 : Hp} : Wd K (Itr lo n) (rngD lo n) F1 :=
  ⟨fun i F H _ _ hi => by rw [rngD_len] at hi; exact hi, fun F H _ _ => by rw [rngD_len]; exact Nat.le_refl _, fun i F H x H' d _ sb hd hy => by
    obtain ⟨rfl, rfl⟩ := hy
    obtain ⟨_, rfl⟩ := rngD_get hd
    exact ⟨F, Stp.refl sb, .int _⟩⟩
theorem it_rng1 {ta : TA} {n : Int} (h : A g ta G [.int n]) (h1 : -100000000 ≤ n) (h2 : n ≤ 100000000) : IT g (iRng1 ta) G (rngD 0 n.toNat) := fun σ F H hh R r => h σ F H hh _ fun vs F1 H1 s1 d1 => by
  cases d1 with
  | cons a t => cases t; cases a; exact ⟨n, rfl, by omega, by omega, r _ F1 H1 s1 wd_rng⟩
theorem it_rng2 {ta : TA} {lo hi : Int} (h : A g ta G [.int lo, .int hi]) (h1 : -100000000 ≤ lo) (h2 : lo ≤ 100000000) (h3 : -100000000 ≤ hi) (h4 : hi ≤ 100000000) : IT g (iRng2 ta) G (rngD lo (hi - lo).toNat) := fun σ F H hh R r => h σ F H hh _ fun vs F1 H1 s1 d1 => by
  cases d1 with
  | cons a t =>
    cases t with
    | cons b t => cases t; cases a; cases b; exact ⟨lo, hi, rfl, ⟨by omega, by omega, by omega, by omega⟩, r _ F1 H1 s1 wd_rng⟩
/-! ### for, while -/
/-- some state of the turn holds -/
def nxI (g : Gd) {α : Type} (Iv : α → List Sl) (P : α → Prop) : L2.St → Hp → Prop := fun σ H => ∃ a, P a ∧ ∃ F, Holds g (Iv a) σ F H
theorem n_end {α : Type} {Iv : α → List Sl} {P : α → Prop} (a : α) (p : P a) (w : Wk G (Iv a)) : N g (nxI g Iv P) G := fun σ F H hh => ⟨a, p, F, hh.wk w⟩
theorem s_for {α : Type} {wi : TI} (Iv : Nat → α → List Sl) (P : Nat → α → Prop) (it : IT g wi G ds) (a0 : α) (p0 : P 0 a0) (w0 : Wk G (Iv 0 a0))
    (turn : ∀ F1 (i : Nat) (a : α) (d : PyData), ds[i]? = some d → P i a → ∃ G1 ix, Tg { g with Fl := F1 } tg d (Iv i a) G1 ix ∧
      S { g with Fl := F1 } tu { D with nx := nxI { g with Fl := F1 } (Iv (i + 1)) (P (i + 1)), ct := nxI { g with Fl := F1 } (Iv (i + 1)) (P (i + 1)), bk := D.nx } G1)
    (done : ∀ a, P ds.length a → N g D.nx (Iv ds.length a)) : S g (tFor wi tg tu) D G := fun σ F H hh => it σ F H hh _ fun J F1 H1 s1 W => by
  have up : ∀ {G : List Sl} {σ : L2.St} {F H : Hp}, Ex g.Fl F1 → Holds { g with Fl := F1 } G σ F H → Holds g G σ F H := fun e h => ⟨h.len, h.st, h.sl, h.apart, h.tab, e.trans h.lo⟩
  have el : Ex g.Fl F1 := hh.lo.trans s1.f
  refine ⟨fun i m σ H => m = ds.length - i ∧ i ≤ ds.length ∧ nxI { g with Fl := F1 } (Iv i) (P i) σ H, ⟨ds.length, by simp, Nat.zero_le _, a0, p0, F1, ?_⟩, ?_⟩
  · have h1 := (hh.mono s1).wk w0
    exact ⟨h1.len, h1.st, h1.sl, h1.apart, h1.tab, Ex.refl F1⟩
  · rintro i m σ2 H2 ⟨rfl, hi, a, p, F2, hh2⟩
    by_cases hlt : i < ds.length
    · refine .inr ⟨W.go i F2 H2 hh2.lo hh2.st.i hlt, nxI { g with Fl := F1 } (Iv (i + 1)) (P (i + 1)), fun σ' H' q => ⟨ds.length - (i + 1), by omega, rfl, hlt, q⟩, fun x H' y => ?_⟩
      obtain ⟨F3, s3, d3⟩ := W.yld i F2 H2 x H' ds[i] hh2.lo hh2.st.i (List.getElem?_eq_getElem hlt) y
      obtain ⟨G1, ix, ht, hs⟩ := turn F1 i a ds[i] (List.getElem?_eq_getElem hlt) p
      exact ht x σ2 F3 H' (hh2.mono s3) d3 _ fun σ' h' _ => hs σ' F3 H' h'
    · have e : i = ds.length := by omega
      subst e
      exact .inl ⟨W.stop F2 H2 hh2.lo hh2.st.i, done a p σ2 F2 H2 (up el hh2)⟩
theorem s_while {α : Type} (Iv : α → List Sl) (P : α → Prop) (m : α → Nat) (a0 : α) (p0 : P a0) (w0 : Wk G (Iv a0))
    (turn : ∀ a, P a → ∃ b, T g tt (Iv a) b ∧ (b = true → S g tu { D with nx := nxI g Iv (fun a' => P a' ∧ m a' < m a), ct := nxI g Iv (fun a' => P a' ∧ m a' < m a), bk := D.nx } (Iv a)) ∧ (b = false → N g D.nx (Iv a))) : S g (tWhile tt tu) D G := fun σ F H hh => by
  refine ⟨fun n σ H => ∃ a, n = m a ∧ P a ∧ ∃ F, Holds g (Iv a) σ F H, ⟨_, a0, rfl, p0, F, hh.wk w0⟩, ?_⟩
  rintro n σ2 H2 ⟨a, rfl, p, F2, hh2⟩
  obtain ⟨b, ht, h1, h2⟩ := turn a p
  refine ht σ2 F2 H2 hh2 _ fun F3 H3 s3 => ?_
  cases b with
  | true => exact ⟨_, fun σ' H' ⟨a', ⟨p', l⟩, F', h'⟩ => ⟨m a', l, a', rfl, p', F', h'⟩, h1 rfl σ2 F3 H3 (hh2.mono s3)⟩
  | false => exact h2 rfl σ2 F3 H3 (hh2.mono s3)
/-! ### comprehensions -/
def wipeG (G : List Sl) : List Nat → List Sl
  | [] => G
  | v :: vs => (wipeG G vs).set v .un
theorem Holds.wipe {σ : L2.St} {F H : Hp} (h : Holds g G σ F H) : ∀ vs, Holds g (wipeG G vs) (wipe σ vs) F H
  | [] => h
  | v :: vs => by
    have ih := Holds.wipe h vs
    unfold wipeG L2.wipe
    refine ⟨by rw [List.length_set, List.length_set]; exact ih.len, ih.st, fun j s o e1 e2 => ?_, fun j k s t p e1 e2 m1 m2 e3 e4 => ?_, ih.tab, ih.lo⟩
    · by_cases hj : v = j
      · subst hj
        have hi : v < (wipeG G vs).length := by have := (List.getElem?_eq_some_iff.mp e1).1; rwa [List.length_set] at this
        rw [List.getElem?_set_self hi] at e1; cases e1; trivial
      · rw [List.getElem?_set_ne hj] at e1 e2; exact ih.sl j s o e1 e2
    · by_cases hj : v = j
      · subst hj
        have hi : v < (wipeG G vs).length := by have := (List.getElem?_eq_some_iff.mp e1).1; rwa [List.length_set] at this
        rw [List.getElem?_set_self hi] at e1; cases e1; cases m1
      · by_cases hk : v = k
        · subst hk
          have hi : v < (wipeG G vs).length := by have := (List.getElem?_eq_some_iff.mp e2).1; rwa [List.length_set] at this
          rw [List.getElem?_set_self hi] at e2; cases e2; cases m2
        · rw [List.getElem?_set_ne hj] at e1 e3
          rw [List.getElem?_set_ne hk] at e2 e4
          exact ih.apart j k s t p e1 e2 m1 m2 e3 e4
theorem t_yes : T g tYes G true := fun σ F H hh Q q => q F H (Stp.refl hh.st.i)
theorem filt_take {f : PyData → Option PyData} {l : List PyData} {i : Nat} {d : PyData} (h : l[i]? = some d) : (l.take (i + 1)).filterMap f = (l.take i).filterMap f ++ (match f d with | some y => [y] | none => []) := by
  rw [List.take_add_one, h, List.filterMap_append]
  cases e : f d with
  | none => simp [e]
  | some y => simp [e]
theorem el_lc {wi : TI} {vs : List Nat} (f : PyData → Option PyData) (G1 : PyData → List Sl) (it : IT g wi G ds) (hz : ds.length ≤ 40000)
    (tgt : ∀ F1, ∀ d ∈ ds, Tg { g with Fl := F1 } tg d (wipeG G vs) (G1 d) ix) (hix : ∀ j ∈ ix, j ∈ vs)
    (ht : ∀ F1, ∀ d ∈ ds, T { g with Fl := F1 } tt (G1 d) (f d).isSome) (he : ∀ F1, ∀ d ∈ ds, ∀ y, f d = some y → E { g with Fl := F1 } te (G1 d) y) : EL g (tLc wi tg tt te vs) G (ds.filterMap f) := fun σ F H hh Q q => it σ F H hh _ fun J F1 H1 s1 W Dl hD => by
  have hh1 := hh.mono s1
  have hw := Holds.wipe hh1 vs
  have hwl : Holds { g with Fl := F1 } (wipeG G vs) (wipe σ vs) F1 H1 := ⟨hw.len, hw.st, hw.sl, hw.apart, hw.tab, Ex.refl F1⟩
  have hD0 : g.H0 Dl = none := old_free hh1.st hD
  have nw := new_ok hwl hD
  let Pv : Nat → Hp → Prop := fun i H' => ∃ F' ws, Stp F1 H1 F' H' ∧ Holds { g with Fl := F1 } (wipeG G vs) (wipe σ vs) F' H' ∧ F' Dl = none ∧ H' Dl = some (.lst ws) ∧ DpAll g.K F' ws ((ds.take i).filterMap f)
  have flen : ∀ i, ((ds.take i).filterMap f).length ≤ 40000 := fun i => Nat.le_trans (List.length_filterMap_le _ _) (by rw [List.length_take]; omega)
  refine ⟨fun i m H' => m = ds.length - i ∧ i ≤ ds.length ∧ Pv i H', ⟨ds.length, by simp, Nat.zero_le _, F1, [], Stp.mine s1.i hD, hwl.mono (Stp.mine s1.i hD), s1.i.free hD, upd_same, .nil⟩, ?_⟩
  rintro i m H2 ⟨rfl, hi, F2, ws, s2, hh2, hF2, hH2, hd2⟩
  by_cases hlt : i < ds.length
  · have hget := List.getElem?_eq_getElem hlt
    have hmem : ds[i] ∈ ds := List.getElem_mem hlt
    refine .inr ⟨W.go i F2 H2 hh2.lo hh2.st.i hlt, Pv (i + 1), fun H' p' => ⟨ds.length - (i + 1), by omega, rfl, hlt, p'⟩, fun x H3 y => ?_⟩
    obtain ⟨F3, s3, d3⟩ := W.yld i F2 H2 x H3 ds[i] hh2.lo hh2.st.i hget y
    refine tgt F1 ds[i] hmem x (wipe σ vs) F3 H3 (hh2.mono s3) d3 _ fun σ3 hh3 w3 => ⟨?_, ?_⟩
    · rw [w3 vs hix]
      have ww : ∀ (l : List Nat), (∀ j ∈ l, j ∈ vs) → wipe (wipe σ l) vs = wipe σ vs := by
        intro l
        induction l with
        | nil => intro _; rfl
        | cons v l ih => intro hl; show wipe ((wipe σ l).set v none) vs = _; rw [wipe_set (hl v List.mem_cons_self)]; exact ih fun j hj => hl j (List.mem_cons_of_mem _ hj)
      exact ww vs fun _ h => h
    · refine ht F1 ds[i] hmem σ3 F3 H3 hh3 _ fun F4 H4 s4 => ?_
      have e : (ds.take (i + 1)).filterMap f = _ := filt_take (f := f) hget
      cases hf : f ds[i] with
      | none =>
        show Pv (i + 1) H4
        rw [hf] at e
        have ss := s3.trans s4
        exact ⟨F4, ws, s2.trans ss, hh2.mono ss, ss.n Dl _ hH2 hF2, ss.h.lst hH2, by rw [e, List.append_nil]; exact ss.f.dps _ ws hd2⟩
      | some yv =>
        show te σ3 H4 _
        rw [hf] at e
        refine he F1 ds[i] hmem yv hf σ3 F4 H4 (hh3.mono s4) _ fun w F5 H5 s5 d5 => ?_
        have ss := (s3.trans s4).trans s5
        have hF5 := ss.n Dl _ hH2 hF2
        have hH5 := ss.h.lst hH2
        refine ⟨ws, hH5, Nat.lt_of_le_of_lt (by rw [dps_len hd2]; exact flen i) (by decide), F5, ws ++ [w], (s2.trans ss).mut hD hF5 hH5 (fun _ z => by cases z), (hh2.mono ss).mut hD0 hF5 hH5 (fun _ z => by cases z) (fun j t e1 m e2 => nw j ⟨t, e1, m⟩ e2), hF5, upd_same, ?_⟩
        rw [e]
        exact dps_app (ss.f.dps _ ws hd2) (.cons d5 .nil)
  · have e : i = ds.length := by omega
    subst e
    rw [List.take_length] at hd2
    exact .inl ⟨W.stop F2 H2 hh2.lo hh2.st.i, q Dl ws F2 H2 (s1.trans s2) (old_free s1 hD) hF2 hH2 hd2⟩
end
/-! ### defs -/
/-- the promise by data: R tells the answer -/
def spD (K : PySem.W.Frag) (Tb : List Addr) (R : List PyData → PyData → Prop) : Sp := fun vs H Q _ => ∃ F ds d, Sub F H ∧ (∀ P ∈ Tb, TabQ H P) ∧ DpAll K F vs ds ∧ R ds d ∧ ∀ v F' H', Stp F H F' H' → Dp K F' v d → Q v H'
/-- .. a new list, the caller's alone -/
def spL (K : PySem.W.Frag) (Tb : List Addr) (R : List PyData → List PyData → Prop) : Sp := fun vs H Q _ => ∃ F ds es, Sub F H ∧ (∀ P ∈ Tb, TabQ H P) ∧ DpAll K F vs ds ∧ R ds es ∧ ∀ p ws F' H', Stp F H F' H' → H p = none → F' p = none → H' p = some (.lst ws) → DpAll K F' ws es → Q (.ref p) H'
def startG (n : Nat) (ds : List PyData) : List Sl := ds.map .fz ++ List.replicate (n - ds.length) .un
theorem holds_start {K : PySem.W.Frag} {Tb : List Addr} {F H : Hp} {vs : List V} {ds : List PyData} {Nn : List Str} (sb : Sub F H) (ht : ∀ P ∈ Tb, TabQ H P) (hd : DpAll K F vs ds) : Holds ⟨K, Tb, F, H, F⟩ (startG Nn.length ds) (L2.start Nn vs) F H := by
  have hl := dps_len hd
  refine ⟨by unfold L2.start startG; rw [List.length_append, List.length_append, List.length_map, List.length_map, List.length_replicate, List.length_replicate, hl], Stp.refl sb, fun j s o e1 e2 => ?_, fun j k s t p e1 _ m1 _ _ _ => ?_, ht, Ex.refl F⟩
  · unfold startG at e1
    unfold L2.start at e2
    by_cases hj : j < ds.length
    · rw [List.getElem?_append_left (by rw [List.length_map]; exact hj), List.getElem?_map] at e1
      rw [List.getElem?_append_left (by rw [List.length_map, hl]; exact hj), List.getElem?_map] at e2
      cases h1 : ds[j]? with
      | none => rw [h1] at e1; cases e1
      | some d =>
        rw [h1] at e1; cases e1
        obtain ⟨v, h2, h3⟩ := dps_get hd h1
        rw [h2] at e2; cases e2
        exact ⟨v, rfl, h3⟩
    · rw [List.getElem?_append_right (by rw [List.length_map]; omega), List.getElem?_replicate] at e1
      split at e1
      · cases e1; trivial
      · cases e1
  · have no : ∀ (s : Sl), (startG Nn.length ds)[j]? = some s → s.mine = false := fun s e => by
      unfold startG at e
      rcases List.mem_append.mp (List.mem_of_getElem? e) with h | h
      · obtain ⟨d, _, rfl⟩ := List.mem_map.mp h; rfl
      · rw [(List.mem_replicate.mp h).2]; rfl
    rw [no s e1] at m1; cases m1
section
variable {g : Gd} {G : List Sl} {te : TE} {ta : TA} {d : PyData} {ds es : List PyData}
theorem e_call {R : List PyData → PyData → Prop} {Ek : XK} (h : A g ta G ds) (r : R ds d) : E g (tCall (spD g.K g.T R) [] Ek ta) G d := fun σ F H hh Q q => h σ F H hh _ fun vs F1 H1 s1 d1 => by
  rw [List.append_nil]
  exact ⟨F1, ds, d, s1.i, (hh.mono s1).tab, d1, r, fun v F2 H2 s2 d2 => q v F2 H2 (s1.trans s2) d2⟩
theorem el_call {R : List PyData → List PyData → Prop} {Ek : XK} (h : A g ta G ds) (r : R ds es) : EL g (tCall (spL g.K g.T R) [] Ek ta) G es := fun σ F H hh Q q => h σ F H hh _ fun vs F1 H1 s1 d1 => by
  rw [List.append_nil]
  exact ⟨F1, ds, es, s1.i, (hh.mono s1).tab, d1, r, fun p ws F2 H2 s2 h0 hF hH d2 => q p ws F2 H2 (s1.trans s2) (old_free s1 h0) hF hH d2⟩
end
/-- a def at hand: where it stands and what it promises -/
structure Df (P : Program) (w : World) (K : PySem.W.Frag) (mg : Str → Option Value) (base : Heap) (k : Nat) (x : Str) (ps : List Str) (sp : Sp) : Prop where
  ex : ∃ f fd, FnOk P w K mg base CX0 k f fd ps sp ∧ mg x = some (.ref f) ∧ PySem.W.keepIn K (.ref f) = true ∧ Binds K fd ps []
theorem pe_df {X : Cx} {k j : Nat} {x : Str} {ps : List Str} {sp : Sp} {e : Expr} {es : List Expr} {t : TA} {p pos : Pos} (D : Df X.prog X.w X.K X.mg X.base j x ps sp) (hr : Room k X.A) (hj : j ≤ k) (hg : Gl X x) (ha : PA X (e :: es) t) (hdb : (x == ("__debug__" : Str)) = false := by decide)
    (he : starEach (e :: es) X.env = (false, eval e X.env) :: starEach es X.env := by rfl) (hpl : (backTo pos (starEach es X.env)).any (·.1) = false := by rfl) : PE X (.Call (.Name x p) (e :: es) [] pos) (tCall sp [] E0 t) := by
  obtain ⟨f, fd, F, hm, hk, hb⟩ := D.ex
  exact pe_call F (hr.mono hj) hg hm hk hb .nil pass0 ha hdb he hpl
section
variable {P : Program} {w : World} {K : PySem.W.Frag} {mg : Str → Option Value} {base : Heap} {x qual : Str} {st : Stmt} {f : Addr} {fd : FuncData} {Nn ps : List Str} {k : Nat} {Tb : List Addr}
/-- a def that gives data -/
theorem df_D (F : Fun K x qual st f fd) (Sc : FnScope Nn ps (defScope st)) (hm : mg x = some (.ref f)) (hb : Binds K fd ps []) {R : List PyData → PyData → Prop} (hlen : ∀ ds d, R ds d → ds.length = ps.length)
    (body : ∀ (cdv : Value) (A : Around) (outer : List Env) (s : Shared) (H : Hp) (E : XK), Room k (A.deeper (envOfC qual (defScope st) s.heap.objs.size f cdv)) →
      ∃ t, PSs (cxOf CX0 P w K mg base Nn qual (defScope st) f cdv A outer s H E).nox (defBody st) t ∧ ∀ (ds : List PyData) (d : PyData) (F0 H0 : Hp) (Q : VK), R ds d → Rt ⟨K, Tb, F0, H0, F0⟩ Q d → S ⟨K, Tb, F0, H0, F0⟩ t { nx := fun _ H' => Q .non H', rt := Q } (startG Nn.length ds)) :
    Df P w K mg base (k + 1) x ps (spD K Tb R) := by
  refine ⟨f, fd, F.ok Sc (fun vs H Q E h => ?_) (fun cdv A outer s H vs Q E hr h => ?_), hm, F.kp, hb⟩
  · obtain ⟨F, ds, d, _, _, hd, r, _⟩ := h
    exact (dps_len hd).trans (hlen ds d r)
  · obtain ⟨F1, ds, d, sb, ht, hd, r, q⟩ := h
    obtain ⟨t, h1, h2⟩ := body cdv A outer s H E hr
    exact ⟨t, h1, h2 ds d F1 H Q r q _ F1 H (holds_start sb ht hd)⟩
theorem df_L (F : Fun K x qual st f fd) (Sc : FnScope Nn ps (defScope st)) (hm : mg x = some (.ref f)) (hb : Binds K fd ps []) {R : List PyData → List PyData → Prop} (hlen : ∀ ds es, R ds es → ds.length = ps.length)
    (body : ∀ (cdv : Value) (A : Around) (outer : List Env) (s : Shared) (H : Hp) (E : XK), Room k (A.deeper (envOfC qual (defScope st) s.heap.objs.size f cdv)) →
      ∃ t, PSs (cxOf CX0 P w K mg base Nn qual (defScope st) f cdv A outer s H E).nox (defBody st) t ∧ ∀ (ds : List PyData) (es : List PyData) (F0 H0 : Hp) (Q : VK), R ds es → RtL ⟨K, Tb, F0, H0, F0⟩ Q es → S ⟨K, Tb, F0, H0, F0⟩ t { nx := fun _ H' => Q .non H', rt := Q } (startG Nn.length ds)) :
    Df P w K mg base (k + 1) x ps (spL K Tb R) := by
  refine ⟨f, fd, F.ok Sc (fun vs H Q E h => ?_) (fun cdv A outer s H vs Q E hr h => ?_), hm, F.kp, hb⟩
  · obtain ⟨F, ds, d, _, _, hd, r, _⟩ := h
    exact (dps_len hd).trans (hlen ds d r)
  · obtain ⟨F1, ds, d, sb, ht, hd, r, q⟩ := h
    obtain ⟨t, h1, h2⟩ := body cdv A outer s H E hr
    exact ⟨t, h1, h2 ds d F1 H Q r q _ F1 H (holds_start sb ht hd)⟩
end
end DW
namespace DW
open PySem PySem.Spec PyProof.Rows L2
variable [LamTabs]
/-- the built-in names that the module leaves alone -/
structure Zb (mg : Str → Option Value) : Prop where
  len : mg "len" = none
  range : mg "range" = none
  sorted : mg "sorted" = none
  list : mg "list" = none
  tuple : mg "tuple" = none
  int : mg "int" = none
  bool : mg "bool" = none
  str : mg "str" = none
  dict : mg "dict" = none
  set : mg "set" = none
  isinstance : mg "isinstance" = none
  sum : mg "sum" = none
  min : mg "min" = none
  max : mg "max" = none
  enumerate : mg "enumerate" = none
  zip : mg "zip" = none
  any : mg "any" = none
  all : mg "all" = none
  abs : mg "abs" = none
  reversed : mg "reversed" = none
/-- a list, a tuple or a text -/
def iAny (K : PySem.W.Frag) (te : TE) : TI := fun σ H R => iSeq K te σ H R ∨ iStr te σ H R
theorem pi_any {X : Cx} {tg l : Expr} {tl : TE} (hl : PE X l tl) : PI X tg l (iAny X.K tl) := ⟨fun pins s σ H R I h => by
  rcases h with h | h
  · exact (pi_seq hl).run pins s σ H R I h
  · exact (pi_str hl).run pins s σ H R I h⟩
section
variable {g : Gd} {G G' G1 : List Sl} {te ta tb tc : TE} {d x y : PyData} {ds es : List PyData} {i j : Nat}
theorem it_al (h : E g te G (.list ds)) : IT g (iAny g.K te) G ds := fun σ F H hh R r => .inl (it_sl h σ F H hh R r)
theorem it_at (h : E g te G (.tuple ds)) : IT g (iAny g.K te) G ds := fun σ F H hh R r => .inl (it_st h σ F H hh R r)
def sgD (z : Str) : List PyData := z.cps.toList.map fun c => .str ⟨#[c]⟩
theorem it_as {z : Str} (h : E g te G (.str z)) : IT g (iAny g.K te) G (sgD z) := fun σ F H hh R r => .inr (h σ F H hh _ fun v F1 H1 s1 d1 => by
  cases d1
  have ln : (sgD z).length = z.cps.size := by unfold sgD; rw [List.length_map, Array.length_toList]
  refine ⟨z, rfl, r _ F1 H1 s1 ⟨fun i F H _ _ hi => by rw [ln] at hi; exact hi, fun F H _ _ => by rw [ln]; exact Nat.le_refl _, fun i F H x H' d _ sb hd hy => ?_⟩⟩
  obtain ⟨rfl, c, hc, rfl⟩ := hy
  unfold sgD at hd
  rw [List.getElem?_map, Array.getElem?_toList, hc] at hd
  cases hd
  exact ⟨F, Stp.refl sb, .str _⟩)
/-- a constant of the module -/
theorem pe_gc {X : Cx} {x : Str} {v : V} {pos : Pos} (C : ∃ u, X.mg x = some u ∧ RelV v u) (hg : Gl X x) (hd : (x == ("__debug__" : Str)) = false := by decide) : PE X (.Name x pos) (tC v) := by
  obtain ⟨u, h1, h2⟩ := C
  exact pe_glob hg h1 h2 hd
end
/-! ### a statement and what follows it -/
section
variable {g : Gd} {G G' G1 : List Sl} {te ta tb tc : TE} {tt : TT} {t1 t2 tu tw : TS} {d x y : PyData} {ds es : List PyData} {i j : Nat} {D : Ends} {tg : TG} {ix : List Nat}
theorem n_go {rt : VK} {bk ct : L2.St → Hp → Prop} (h : S g tw D G) : N g ({ nx := tw D, rt := rt, bk := bk, ct := ct } : Ends).nx G := h
theorem q_asg (h : E g te G d) (k : S g tw D (G.set i (.fz d))) : S g (tSeq (tAsg te (gName i)) tw) D G := s_asg (D := { D with nx := tw D }) h k
theorem q_asgL (h : EL g te G ds) (k : S g tw D (G.set i (.ow ds))) : S g (tSeq (tAsg te (gName i)) tw) D G := s_asgL (D := { D with nx := tw D }) h k
theorem q_asgT (h : E g te G d) (ht : Tg g tg d G G' ix) (k : S g tw D G') : S g (tSeq (tAsg te tg) tw) D G := s_asgT (D := { D with nx := tw D }) h ht k
theorem q_app (h : G[i]? = some (.ow ds)) (he : E g te G d) (hz : ds.length < 100000) (k : S g tw D (G.set i (.ow (ds ++ [d])))) : S g (tSeq (tDrop (tBM g.K "list" rAppend (tVar i) (tCons te tNil))) tw) D G := s_app (D := { D with nx := tw D }) h he hz k
theorem q_drop (h : E g te G d) (k : S g tw D G) : S g (tSeq (tDrop te) tw) D G := s_drop (D := { D with nx := tw D }) h k
theorem q_if {b : Bool} (h : T g tt G b) (h1 : b = true → S g t1 { D with nx := tw D } G) (h2 : b = false → S g t2 { D with nx := tw D } G) : S g (tSeq (tIfS tt t1 t2) tw) D G := s_if (D := { D with nx := tw D }) h h1 h2
theorem q_for {α : Type} {wi : TI} (Iv : Nat → α → List Sl) (P : Nat → α → Prop) (it : IT g wi G ds) (a0 : α) (p0 : P 0 a0) (w0 : Wk G (Iv 0 a0))
    (turn : ∀ F1 (i : Nat) (a : α) (d : PyData), ds[i]? = some d → P i a → ∃ G1 ix, Tg { g with Fl := F1 } tg d (Iv i a) G1 ix ∧
      S { g with Fl := F1 } tu { nx := nxI { g with Fl := F1 } (Iv (i + 1)) (P (i + 1)), rt := D.rt, ct := nxI { g with Fl := F1 } (Iv (i + 1)) (P (i + 1)), bk := tw D } G1)
    (done : ∀ a, P ds.length a → S g tw D (Iv ds.length a)) : S g (tSeq (tFor wi tg tu) tw) D G := s_for (D := { D with nx := tw D }) Iv P it a0 p0 w0 turn done
/-- .. one state a turn -/
theorem q_for1 {wi : TI} (Iv : Nat → List Sl) (it : IT g wi G ds) (w0 : Wk G (Iv 0))
    (turn : ∀ F1 (i : Nat) (d : PyData), ds[i]? = some d → ∃ G1 ix, Tg { g with Fl := F1 } tg d (Iv i) G1 ix ∧
      S { g with Fl := F1 } tu { nx := nxI { g with Fl := F1 } (fun _ : Unit => Iv (i + 1)) (fun _ => True), rt := D.rt, ct := nxI { g with Fl := F1 } (fun _ : Unit => Iv (i + 1)) (fun _ => True), bk := tw D } G1)
    (done : S g tw D (Iv ds.length)) : S g (tSeq (tFor wi tg tu) tw) D G :=
  q_for (fun i (_ : Unit) => Iv i) (fun _ _ => True) it () trivial w0 (fun F1 i _ d hd _ => turn F1 i d hd) fun _ _ => done
theorem s_for1 {wi : TI} (Iv : Nat → List Sl) (it : IT g wi G ds) (w0 : Wk G (Iv 0))
    (turn : ∀ F1 (i : Nat) (d : PyData), ds[i]? = some d → ∃ G1 ix, Tg { g with Fl := F1 } tg d (Iv i) G1 ix ∧
      S { g with Fl := F1 } tu { nx := nxI { g with Fl := F1 } (fun _ : Unit => Iv (i + 1)) (fun _ => True), rt := D.rt, ct := nxI { g with Fl := F1 } (fun _ : Unit => Iv (i + 1)) (fun _ => True), bk := D.nx } G1)
    (done : N g D.nx (Iv ds.length)) : S g (tFor wi tg tu) D G :=
  s_for (fun i (_ : Unit) => Iv i) (fun _ _ => True) it () trivial w0 (fun F1 i _ d hd _ => turn F1 i d hd) fun _ _ => done
theorem s_cutA {α : Type} (Iv : α → List Sl) (P : α → Prop) (h : S g tu { D with nx := nxI g Iv P } G) (k : ∀ a, P a → S g tw D (Iv a)) : S g (Evl.tCut tu tw) D G := fun σ F H hh =>
  ⟨nxI g Iv P, h σ F H hh, fun σ' H' ⟨a, p, F', h'⟩ => k a p σ' F' H' h'⟩
theorem s_cut (Gj : List Sl) (h : S g tu { D with nx := nxI g (fun _ : Unit => Gj) fun _ => True } G) (k : S g tw D Gj) : S g (Evl.tCut tu tw) D G := s_cutA (fun _ : Unit => Gj) (fun _ => True) h fun _ _ => k
theorem n_end1 {Iv : List Sl} (w : Wk G Iv) : N g (nxI g (fun _ : Unit => Iv) fun _ => True) G := n_end () trivial w
theorem q_while {α : Type} (Iv : α → List Sl) (P : α → Prop) (m : α → Nat) (a0 : α) (p0 : P a0) (w0 : Wk G (Iv a0))
    (turn : ∀ a, P a → ∃ b, T g tt (Iv a) b ∧ (b = true → S g tu { nx := nxI g Iv (fun a' => P a' ∧ m a' < m a), rt := D.rt, ct := nxI g Iv (fun a' => P a' ∧ m a' < m a), bk := tw D } (Iv a)) ∧ (b = false → S g tw D (Iv a))) : S g (tSeq (tWhile tt tu) tw) D G :=
  s_while (D := { D with nx := tw D }) Iv P m a0 p0 w0 turn
end
end DW
namespace DW
open PySem PySem.Spec PyProof.Rows L2
variable [LamTabs]
/-! ### sorted(a list of tuples of ints and texts) -/
abbrev Kt := List (Int ⊕ List Nat)
def itemsV (sh : Nat → Bool) : Nat → List V → Option Kt
  | _, [] => some []
  | i, .int n :: r => if sh i = true then none else (itemsV sh (i + 1) r).map (Sum.inl n :: ·)
  | i, .str x :: r => if sh i = true then (itemsV sh (i + 1) r).map (Sum.inr x.cps.toList :: ·) else none
  | _, _ :: _ => none
theorem items_vals {sh : Nat → Bool} : ∀ {zs : List V} {us : List Value} {i : Nat} {l : Kt}, Vals zs us → itemsV sh i zs = some l → tupItems sh i us = some l
  | [], _, _, _, .nil, h => h
  | .int n :: zs, u :: us, i, l, .cons r t, h => by
    obtain ⟨k, rfl⟩ := r
    have h' : (if sh i = true then none else (itemsV sh (i + 1) zs).map (Sum.inl n :: ·)) = some l := h
    show (if sh i = true then none else (tupItems sh (i + 1) us).map (Sum.inl n :: ·)) = some l
    by_cases hs : sh i = true
    · rw [if_pos hs] at h'; cases h'
    · rw [if_neg hs] at h' ⊢
      cases e : itemsV sh (i + 1) zs with
      | none => rw [e] at h'; cases h'
      | some l' => rw [e] at h'; rw [items_vals t e]; exact h'
  | .str x :: zs, u :: us, i, l, .cons r t, h => by
    obtain ⟨k, rfl⟩ := r
    have h' : (if sh i = true then (itemsV sh (i + 1) zs).map (Sum.inr x.cps.toList :: ·) else none) = some l := h
    show (if sh i = true then (tupItems sh (i + 1) us).map (Sum.inr x.cps.toList :: ·) else none) = some l
    by_cases hs : sh i = true
    · rw [if_pos hs] at h' ⊢
      cases e : itemsV sh (i + 1) zs with
      | none => rw [e] at h'; cases h'
      | some l' => rw [e] at h'; rw [items_vals t e]; exact h'
    · rw [if_neg hs] at h'; cases h'
  | .non :: _, _, _, _, _, h => by cases h
  | .bl _ :: _, _, _, _, _, h => by cases h
  | .byt _ :: _, _, _, _, _, h => by cases h
  | .flt _ :: _, _, _, _, _, h => by cases h
  | .ref _ :: _, _, _, _, _, h => by cases h
  | .ty _ :: _, _, _, _, _, h => by cases h
def rSortT (K : PySem.W.Frag) : List V → Hp → VK → Prop := fun vs H Q => ∃ (a : Addr) (ts : List Addr) (sh : Nat → Bool) (L : List Kt), vs = [V.ref a] ∧ SqL K H a (ts.map V.ref) ∧ ts.length ≤ 100000 ∧ L.length = ts.length ∧
  (∀ p ∈ ts.zip L, ∃ zs, SqT K H p.1 zs ∧ zs ≠ [] ∧ itemsV sh 0 zs = some p.2) ∧
  ∀ (us : List Addr) (Ls : List Kt) (p : Addr), Ls.length = us.length → (us.zip Ls).Perm (ts.zip L) → Ls.Pairwise (fun x y => lexLt itemOrd y x = false) → H p = none → Q (.ref p) (upd H p (.lst (us.map V.ref)))
theorem zip_map_self {α β : Type} (f : α → β) : ∀ (l : List α), l.zip (l.map f) = l.map fun x => (x, f x)
  | [] => rfl
  | x :: l => by rw [List.map_cons, List.zip_cons_cons, zip_map_self f l]; rfl
theorem zip_fun {α β : Type} {f : α → β} : ∀ {l : List α} {m : List β}, m.length = l.length → (∀ p ∈ l.zip m, f p.1 = p.2) → m = l.map f
  | [], [], _, _ => rfl
  | [], _ :: _, h, _ => by simp at h
  | _ :: _, [], h, _ => by simp at h
  | x :: l, y :: m, h, hp => by
    have e := hp (x, y) List.mem_cons_self
    rw [List.map_cons, zip_fun (l := l) (m := m) (by simpa using h) fun p hm => hp p (List.mem_cons_of_mem _ hm)]
    exact congrArg (· :: _) e.symm
theorem swo_key {α : Type} (O : KeyOrd) (k : α → O.α) : SrtO.Swo fun v u => O.blt (k v) (k u) :=
  ⟨fun x y h => by
    cases h2 : O.blt (k y) (k x) with
    | false => rfl
    | true =>
      have := O.trans _ _ _ h h2
      rw [O.irrefl] at this
      exact absurd this Bool.false_ne_true, fun x y z h1 h2 => by
    cases h3 : O.blt (k z) (k x) with
    | false => rfl
    | true =>
      rcases O.negTrans (k z) (k y) (k x) h3 with h | h
      · rw [h2] at h; cases h
      · rw [h1] at h; cases h⟩
theorem refs_vals : ∀ {ts : List Addr} {us : List Value}, Vals (ts.map V.ref) us → us = ts.map Value.ref
  | [], _, .nil => rfl
  | _ :: _, _, .cons r t => by cases r; rw [refs_vals t]; rfl
theorem vals_refs : ∀ (ts : List Addr), Vals (ts.map V.ref) (ts.map Value.ref)
  | [] => .nil
  | _ :: ts => .cons rfl (vals_refs ts)
theorem perm_refs {out : List Value} {ts : List Addr} (h : out.Perm (ts.map Value.ref)) : ∃ us : List Addr, out = us.map Value.ref ∧ us.Perm ts := by
  have inv : ∀ (l : List Value), (∀ v ∈ l, ∃ t, v = Value.ref t) → ∃ us : List Addr, l = us.map Value.ref := by
    intro l
    induction l with
    | nil => intro _; exact ⟨[], rfl⟩
    | cons v l ih =>
      intro hv
      obtain ⟨t, rfl⟩ := hv v List.mem_cons_self
      obtain ⟨us, rfl⟩ := ih fun w hw => hv w (List.mem_cons_of_mem _ hw)
      exact ⟨t :: us, rfl⟩
  obtain ⟨us, rfl⟩ := inv out fun v hv => by
    obtain ⟨t, _, e⟩ := List.mem_map.mp (h.mem_iff.mp hv)
    exact ⟨t, e.symm⟩
  refine ⟨us, rfl, ?_⟩
  have h2 := h.map fun v => match v with | Value.ref t => t | _ => 0
  rw [List.map_map, List.map_map] at h2
  have e : ((fun v => match v with | Value.ref t => t | _ => (0 : Addr)) ∘ Value.ref) = id := by funext t; rfl
  rw [e, List.map_id, List.map_id] at h2
  exact h2
theorem tups_of {h : Heap} {sh : Nat → Bool} : ∀ {ts : List Addr}, (∀ t ∈ ts, ∃ us : List Value, ∃ l, IsTup h t us.toArray ∧ us ≠ [] ∧ tupItems sh 0 us = some l) → ∃ fs, TupsOf h sh (ts.map Value.ref) fs
  | [], _ => ⟨[], .nil⟩
  | t :: ts, hh => by
    obtain ⟨fs, q⟩ := tups_of fun x hx => hh x (List.mem_cons_of_mem _ hx)
    obtain ⟨us, l, ⟨o, h1, h2, n, h3⟩, ne, hi⟩ := hh t List.mem_cons_self
    cases us with
    | nil => exact absurd rfl ne
    | cons u us =>
      refine ⟨u :: fs, .cons ⟨t, o, (u :: us).toArray, n, rfl, h1, h2, h3, by simp, fun hs => ?_, fun hs => ?_⟩ q⟩
      · obtain ⟨k, tk, _, e, _⟩ := tupItems_int hs hi; exact ⟨k, tk, e⟩
      · obtain ⟨k, tk, _, e, _⟩ := tupItems_str hs hi; exact ⟨k, tk, e⟩
theorem cr_sortT5 {X : Cx} : CallR X (.builtin "sorted") (rSortT X.K) := by
  intro pins s σ H vs us Q I r h
  obtain ⟨a, ts, sh, L, rfl, hS, hz, hL, hk, q⟩ := h
  obtain ⟨its, rv, hl, z⟩ := I.list hS
  have e0 := refs_vals rv
  subst e0
  rw [Vals.ref1 r]
  let kf : Addr → Kt := fun t => (PyProof.Rows.G.tupKeyC s.heap sh (.ref t)).getD []
  have key0 : ∀ p ∈ ts.zip L, ∃ us : List Value, IsTup s.heap p.1 us.toArray ∧ us ≠ [] ∧ tupItems sh 0 us = some p.2 ∧ PyProof.Rows.G.tupKeyC s.heap sh (.ref p.1) = some p.2 := fun ⟨t, k⟩ ht => by
    obtain ⟨zs, h1, ne, h2⟩ := hk (t, k) ht
    obtain ⟨us, r1, it, _⟩ := I.tuple h1
    have h3 := items_vals r1 h2
    refine ⟨us, it, fun z => ?_, h3, ?_⟩
    · subst z; cases r1; exact ne rfl
    · obtain ⟨o, g1, g2, n, g3⟩ := it
      have h4 : PyProof.Rows.G.isTupObj s.heap (.ref t) = true := by
        show (match s.heap.get? t with | some o => (match o.cls with | .type n => n == "tuple" | _ => false) | none => false) = true
        rw [g1]
        show (match o.cls with | .type n => n == "tuple" | _ => false) = true
        rw [g2]; rfl
      unfold PyProof.Rows.G.tupKeyC
      rw [if_pos h4]
      show (match s.heap.get? t with | some o => (match o.data with | .seq xs _ => tupItems sh 0 xs.toList | _ => none) | none => none) = _
      rw [g1]
      show (match o.data with | .seq xs _ => tupItems sh 0 xs.toList | _ => none) = _
      rw [g3]
      exact h3
  have eL : L = ts.map kf := zip_fun hL fun p hp => by
    obtain ⟨_, _, _, _, e⟩ := key0 p hp
    show (PyProof.Rows.G.tupKeyC s.heap sh (.ref p.1)).getD [] = _
    rw [e]; rfl
  have key : ∀ t ∈ ts, ∃ us : List Value, IsTup s.heap t us.toArray ∧ us ≠ [] ∧ tupItems sh 0 us = some (kf t) ∧ PyProof.Rows.G.tupKeyC s.heap sh (.ref t) = some (kf t) := fun t ht => by
    refine key0 (t, kf t) ?_
    rw [eL, zip_map_self]
    exact List.mem_map.mpr ⟨t, ht, rfl⟩
  let kv : Value → Kt := fun v => (PyProof.Rows.G.tupKeyC s.heap sh v).getD []
  have sl : sizeLine = 16777216 := sizeLine_eq
  refine SrtO.sorted_ord (ltv := fun v u => (listOrd itemOrd).blt (kv v) (kv u)) (swo_key (listOrd itemOrd) kv) hl.isList (by rw [List.length_map]; omega) (fun h2 h₁ b hb kk h' keep => ?_) fun out hs hb => ?_
  · have kt : PyProof.Rows.G.KeepsTups s.heap h' := fun c o e _ => keep c o (kk c o e).1 (kk c o e).2
    refine ⟨tuples' true, fun Q E hq => ?_, fun p q hp hq => ?_⟩
    · obtain ⟨fs, hf⟩ := tups_of (h := s.heap) (sh := sh) (ts := ts) fun t ht => let ⟨us, g1, g2, g3, _⟩ := key t ht; ⟨us, _, g1, g2, g3⟩
      have lf := PyProof.Rows.G.TupsOf.length hf
      exact tup_kind (s := { s with heap := h' }) (by rw [lf]; omega) (PyProof.Rows.G.TupsOf.keep kt hf) hq
    · have hp' : p.1 ∈ ts.map Value.ref := hp
      have hq' : q.1 ∈ ts.map Value.ref := hq
      obtain ⟨t, ht, et⟩ := List.mem_map.mp hp'
      obtain ⟨u, hu, eu⟩ := List.mem_map.mp hq'
      obtain ⟨_, _, _, _, k1⟩ := key t ht
      obtain ⟨_, _, _, _, k2⟩ := key u hu
      rw [et] at k1
      rw [eu] at k2
      refine PyProof.Rows.G.tupC_ltAt (s := { s with heap := h' }) true kt _ _ p.1 q.1 (kf t) (kf u) k1 k2 ⟨rfl, ?_⟩
      show _ = (listOrd itemOrd).blt (kv p.1) (kv q.1)
      have e1 : kv p.1 = kf t := by show (PyProof.Rows.G.tupKeyC s.heap sh p.1).getD [] = _; rw [k1]; rfl
      have e2 : kv q.1 = kf u := by show (PyProof.Rows.G.tupKeyC s.heap sh q.1).getD [] = _; rw [k2]; rfl
      rw [e1, e2]
  · obtain ⟨us, rfl, pm⟩ := perm_refs hb.perm
    obtain ⟨ep, he⟩ := PyProof.Rows.sortedAll_at s.heap (ts.map Value.ref) (us.map Value.ref).toArray
    have hlen : (us.map V.ref).length ≤ sizeLine := by rw [List.length_map, pm.length_eq]; omega
    have srt : us.Pairwise fun x y => lexLt itemOrd (kf y) (kf x) = false := by
      have h1 := List.pairwise_map.mp hs
      refine h1.imp_of_mem fun {x y} hx hy hxy => ?_
      obtain ⟨_, _, _, _, k1⟩ := key x (pm.mem_iff.mp hx)
      obtain ⟨_, _, _, _, k2⟩ := key y (pm.mem_iff.mp hy)
      have e1 : kv (.ref x) = kf x := by show (PyProof.Rows.G.tupKeyC s.heap sh (.ref x)).getD [] = _; rw [k1]; rfl
      have e2 : kv (.ref y) = kf y := by show (PyProof.Rows.G.tupKeyC s.heap sh (.ref y)).getD [] = _; rw [k2]; rfl
      have hxy' : lexLt itemOrd (kv (.ref y)) (kv (.ref x)) = false := hxy
      rw [e1, e2] at hxy'
      exact hxy'
    exact ⟨.ref _, upd H (s.heap.objs.size + 1) (.lst (us.map V.ref)), I.laid (t' := s.toks) (fun _ _ => PyProof.Rows.sortedAll_old) (Nat.le_succ _) ⟨hlen, us.map Value.ref, ep, vals_refs us, he⟩, rfl, q us (us.map kf) _ (by rw [List.length_map]) (by rw [eL, zip_map_self, zip_map_self]; exact pm.map _) (List.pairwise_map.mpr srt) (I.hok.fresh (Nat.le_succ _))⟩
/-! .. by data -/
def itm : PyData → Int ⊕ List Nat
  | .int n => .inl n
  | .str s => .inr s.cps.toList
  | _ => .inl 0
def keyD : PyData → Kt
  | .tuple l => l.map itm
  | _ => []
def leD (x y : PyData) : Bool := !lexLt itemOrd (keyD y) (keyD x)
def sortD (ds : List PyData) : List PyData := ds.mergeSort leD
/-- every item is an int or a text, as its place says -/
def shD (sh : Nat → Bool) : Nat → List PyData → Bool
  | _, [] => true
  | i, .int _ :: r => !sh i && shD sh (i + 1) r
  | i, .str _ :: r => sh i && shD sh (i + 1) r
  | _, _ :: _ => false
theorem sh_items {K : PySem.W.Frag} {F : Hp} {sh : Nat → Bool} : ∀ {zs : List V} {l : List PyData} {i : Nat}, DpAll K F zs l → shD sh i l = true → itemsV sh i zs = some (l.map itm)
  | _, _, _, .nil, _ => rfl
  | _, .int n :: l, i, .cons h t, e => by
    cases h
    have e' : (!sh i && shD sh (i + 1) l) = true := e
    rw [Bool.and_eq_true] at e'
    obtain ⟨e1, e2⟩ := e'
    show (if sh i = true then none else (itemsV sh (i + 1) _).map (Sum.inl n :: ·)) = _
    have : ¬ sh i = true := by cases h : sh i <;> simp [h] at e1 ⊢
    rw [if_neg this, sh_items t e2]; rfl
  | _, .str x :: l, i, .cons h t, e => by
    cases h
    have e' : (sh i && shD sh (i + 1) l) = true := e
    rw [Bool.and_eq_true] at e'
    obtain ⟨e1, e2⟩ := e'
    show (if sh i = true then (itemsV sh (i + 1) _).map (Sum.inr x.cps.toList :: ·) else none) = _
    rw [if_pos e1, sh_items t e2]; rfl
  | _, .none :: _, _, _, e => by cases e
  | _, .bool _ :: _, _, _, e => by cases e
  | _, .list _ :: _, _, _, e => by cases e
  | _, .tuple _ :: _, _, _, e => by cases e
  | _, .dict _ :: _, _, _, e => by cases e
theorem itm_inj {sh : Nat → Bool} : ∀ {l m : List PyData} {i : Nat}, shD sh i l = true → shD sh i m = true → l.map itm = m.map itm → l = m
  | [], [], _, _, _, _ => rfl
  | [], _ :: _, _, _, _, h => by cases h
  | _ :: _, [], _, _, _, h => by cases h
  | x :: l, y :: m, i, h1, h2, h => by
    rw [List.map_cons, List.map_cons] at h
    injection h with ha hb
    cases x <;> first | cases h1 | skip
    · cases y <;> first | cases h2 | skip
      · have e1 : (!sh i && shD sh (i + 1) l) = true := h1
        have e2 : (!sh i && shD sh (i + 1) m) = true := h2
        rw [Bool.and_eq_true] at e1 e2
        injection ha with ha
        rw [ha, itm_inj e1.2 e2.2 hb]
      · cases ha
    · cases y <;> first | cases h2 | skip
      · cases ha
      · have e1 : (sh i && shD sh (i + 1) l) = true := h1
        have e2 : (sh i && shD sh (i + 1) m) = true := h2
        rw [Bool.and_eq_true] at e1 e2
        injection ha with ha
        rw [itm_inj e1.2 e2.2 hb]
        congr 1
        rename_i s1 s2
        cases s1 with
        | mk c1 => cases s2 with
          | mk c2 => congr 2; exact Array.toList_inj.mp ha
/-- the one sorted arrangement -/
theorem sorted_uniq {α : Type} {R : α → α → Prop} : ∀ {l m : List α}, l.Perm m → (∀ a ∈ l, ∀ b ∈ l, R a b → R b a → a = b) → l.Pairwise R → m.Pairwise R → l = m
  | [], m, p, _, _, _ => by rw [List.nil_perm.mp p]
  | a :: l, [], p, _, _, _ => by have := p.length_eq; simp at this
  | a :: l, b :: m, p, anti, h1, h2 => by
    have e : a = b := by
      have ha : a ∈ b :: m := p.mem_iff.mp List.mem_cons_self
      have hb : b ∈ a :: l := p.mem_iff.mpr List.mem_cons_self
      rcases List.mem_cons.mp ha with e | ha
      · exact e
      · rcases List.mem_cons.mp hb with e | hb'
        · exact e.symm
        · exact anti a List.mem_cons_self b hb ((List.pairwise_cons.mp h1).1 b hb') ((List.pairwise_cons.mp h2).1 a ha)
    subst e
    rw [sorted_uniq ((List.perm_cons a).mp p) (fun x hx y hy => anti x (List.mem_cons_of_mem _ hx) y (List.mem_cons_of_mem _ hy)) (List.pairwise_cons.mp h1).2 (List.pairwise_cons.mp h2).2]
theorem leD_trans (x y z : PyData) (h1 : leD x y = true) (h2 : leD y z = true) : leD x z = true := by
  unfold leD at *
  have a1 : lexLt itemOrd (keyD y) (keyD x) = false := by simpa using h1
  have a2 : lexLt itemOrd (keyD z) (keyD y) = false := by simpa using h2
  cases h3 : lexLt itemOrd (keyD z) (keyD x) with
  | false => rfl
  | true =>
    rcases lex_negTrans (O := itemOrd) _ (keyD y) _ h3 with h | h
    · rw [a2] at h; cases h
    · rw [a1] at h; cases h
theorem leD_total (x y : PyData) : (leD x y || leD y x) = true := by
  unfold leD
  cases h1 : lexLt itemOrd (keyD y) (keyD x) with
  | false => rfl
  | true =>
    cases h2 : lexLt itemOrd (keyD x) (keyD y) with
    | false => rfl
    | true => have := lex_trans (O := itemOrd) _ _ _ h1 h2; rw [lex_irrefl] at this; cases this
theorem sortD_perm (ds : List PyData) : (sortD ds).Perm ds := List.mergeSort_perm ds leD
theorem sortD_sorted (ds : List PyData) : (sortD ds).Pairwise fun x y => leD x y = true := List.pairwise_mergeSort leD_trans leD_total ds
theorem zip_perm {α β : Type} {l m : List α} (p : l.Perm m) : ∀ {ds : List β}, ds.length = m.length → ∃ es : List β, es.length = l.length ∧ (l.zip es).Perm (m.zip ds) := by
  induction p with
  | nil => intro ds h; cases ds with
    | nil => exact ⟨[], rfl, List.Perm.refl _⟩
    | cons _ _ => simp at h
  | cons a _ ih => intro ds h; cases ds with
    | nil => simp at h
    | cons d ds =>
      obtain ⟨es, h1, h2⟩ := ih (ds := ds) (by simpa using h)
      exact ⟨d :: es, by simp [h1], h2.cons (a, d)⟩
  | swap a b l => intro ds h; match ds, h with
    | d1 :: d2 :: ds, h => exact ⟨d2 :: d1 :: ds, by simpa using h, List.Perm.swap _ _ _⟩
    | [_], h => simp at h
    | [], h => simp at h
  | trans _ _ ih1 ih2 => intro ds h; obtain ⟨es, h1, h2⟩ := ih2 (ds := ds) h
                         obtain ⟨fs, h3, h4⟩ := ih1 (ds := es) h1
                         exact ⟨fs, h3, h4.trans h2⟩
theorem trip {K : PySem.W.Frag} {F : Hp} : ∀ {us : List Addr} {Ls : List Kt} {es : List PyData}, Ls.length = us.length → es.length = us.length → (∀ t ∈ (us.zip Ls).zip es, Dp K F (.ref t.1.1) t.2 ∧ t.1.2 = keyD t.2) → DpAll K F (us.map V.ref) es ∧ Ls = es.map keyD
  | [], [], [], _, _, _ => ⟨.nil, rfl⟩
  | [], _ :: _, _, h, _, _ => by simp at h
  | [], [], _ :: _, _, h, _ => by simp at h
  | _ :: _, [], _, h, _, _ => by simp at h
  | _ :: _, _ :: _, [], _, h, _ => by simp at h
  | u :: us, k :: Ls, e :: es, h1, h2, h => by
    obtain ⟨a, b⟩ := h ((u, k), e) List.mem_cons_self
    obtain ⟨c, d⟩ := trip (us := us) (Ls := Ls) (es := es) (by simpa using h1) (by simpa using h2) fun t ht => h t (List.mem_cons_of_mem _ ht)
    exact ⟨.cons a c, by rw [List.map_cons, ← d]; exact congrArg (· :: Ls) b⟩
theorem zip3 {K : PySem.W.Frag} {F H : Hp} {sh : Nat → Bool} : ∀ {ts : List Addr} {ds : List PyData}, DpAll K F (ts.map V.ref) ds → (∀ d ∈ ds, ∃ l, d = .tuple l ∧ l ≠ [] ∧ shD sh 0 l = true) → Ex F H →
    (∀ p ∈ ts.zip (ds.map keyD), ∃ zs, SqT K H p.1 zs ∧ zs ≠ [] ∧ itemsV sh 0 zs = some p.2) ∧ (∀ t ∈ (ts.zip (ds.map keyD)).zip ds, Dp K F (.ref t.1.1) t.2 ∧ t.1.2 = keyD t.2)
  | [], [], _, _, _ => ⟨(fun p h => nomatch h), (fun p h => nomatch h)⟩
  | [], _ :: _, h, _, _ => by cases h
  | _ :: _, [], h, _, _ => by cases h
  | u :: ts, d :: ds, h, hd, e => by
    cases h with
    | cons a t =>
      obtain ⟨h1, h2⟩ := zip3 t (fun d hm => hd d (List.mem_cons_of_mem _ hm)) e
      obtain ⟨l, rfl, ne, hs⟩ := hd d List.mem_cons_self
      refine ⟨fun p hp => ?_, fun p hp => ?_⟩
      · rcases List.mem_cons.mp hp with rfl | hp
        · obtain ⟨x, ws, ex, h4, h5⟩ := dp_tq a
          cases ex
          refine ⟨ws, e.t h4, fun z => ?_, sh_items h5 hs⟩
          subst z; cases h5; exact ne rfl
        · exact h1 p hp
      · rcases List.mem_cons.mp hp with rfl | hp
        · exact ⟨a, rfl⟩
        · exact h2 p hp
theorem are_refs {K : PySem.W.Frag} {F : Hp} : ∀ {vs : List V} {ds : List PyData}, DpAll K F vs ds → (∀ d ∈ ds, ∃ l, d = PyData.tuple l) → ∃ ts : List Addr, vs = ts.map V.ref
  | _, _, .nil, _ => ⟨[], rfl⟩
  | _, _, .cons a t, hd => by
    obtain ⟨l, rfl⟩ := hd _ List.mem_cons_self
    obtain ⟨x, ws, rfl, _, _⟩ := dp_tq a
    obtain ⟨ts, rfl⟩ := are_refs t fun d hm => hd d (List.mem_cons_of_mem _ hm)
    exact ⟨x :: ts, rfl⟩
/-- sorted by data -/
theorem sort_core {K : PySem.W.Frag} {F H : Hp} {p : Addr} {vs : List V} {ds : List PyData} {Q : VK} (sh : Nat → Bool) (e : Ex F H) (h1 : SqL K H p vs) (h2 : DpAll K F vs ds) (hd : ∀ d ∈ ds, ∃ l, d = .tuple l ∧ l ≠ [] ∧ shD sh 0 l = true) (hz : ds.length ≤ 100000)
    (q : ∀ p ws, H p = none → DpAll K F ws (sortD ds) → Q (.ref p) (upd H p (.lst ws))) : rSortT K [.ref p] H Q := by
  obtain ⟨ts, rfl⟩ := are_refs h2 fun d hm => let ⟨l, h, _⟩ := hd d hm; ⟨l, h⟩
  have lts : ts.length = ds.length := by have := dps_len h2; rwa [List.length_map] at this
  obtain ⟨z1, z2⟩ := zip3 h2 hd e
  refine ⟨p, ts, sh, ds.map keyD, rfl, h1, by omega, by rw [List.length_map]; omega, z1, fun us Ls r hl hp hs hr => ?_⟩
  obtain ⟨es, le, pe⟩ := zip_perm hp (ds := ds) (by rw [List.length_zip, List.length_map]; omega)
  have lus : us.length = ds.length := by
    have := hp.length_eq
    rw [List.length_zip, List.length_zip, List.length_map] at this
    omega
  have les : es.length = us.length := by rw [le, List.length_zip]; omega
  obtain ⟨c, d⟩ := trip (K := K) (F := F) hl les fun t ht => z2 t (pe.mem_iff.mp ht)
  have pd : es.Perm ds := by
    have m := pe.map Prod.snd
    have f1 : ((us.zip Ls).zip es).map Prod.snd = es := List.map_snd_zip (by rw [List.length_zip]; omega)
    have f2 : ((ts.zip (ds.map keyD)).zip ds).map Prod.snd = ds := List.map_snd_zip (by rw [List.length_zip, List.length_map]; omega)
    rw [f1, f2] at m
    exact m
  have ee : es = sortD ds := by
    refine sorted_uniq (R := fun x y => leD x y = true) (pd.trans (sortD_perm ds).symm) (fun a ha b hb h3 h4 => ?_) ?_ (sortD_sorted ds)
    · obtain ⟨l, rfl, _, s1⟩ := hd a (pd.mem_iff.mp ha)
      obtain ⟨m, rfl, _, s2⟩ := hd b (pd.mem_iff.mp hb)
      unfold leD at h3 h4
      have k := lex_total (O := itemOrd) (keyD (.tuple l)) (keyD (.tuple m)) (by simpa using h4) (by simpa using h3)
      rw [itm_inj s1 s2 k]
    · rw [d] at hs
      exact (List.pairwise_map.mp hs).imp fun {x y} h => by unfold leD; rw [h]; rfl
  rw [← ee] at q
  exact q r _ hr c
end DW
namespace DW
open PySem PySem.Spec PyProof.Rows L2
variable [LamTabs]
/-! ### dicts with text keys, by data -/
def getK (kvs : List (Str × PyData)) (k : Str) : Option PyData := (kvs.find? fun p => decide (p.1 = k)).map (·.2)
def putD (kvs : List (Str × PyData)) (k : Str) (d : PyData) : List (Str × PyData) := if (kvs.any fun p => decide (p.1 = k)) = true then kvs.map (fun p => if p.1 = k then (p.1, d) else p) else kvs ++ [(k, d)]
section
variable {K : PySem.W.Frag} {F H : Hp}
theorem kv_nil : KvOk K F [] [] := ⟨rfl, .nil⟩
theorem kv_cons {u : Key × V} {vs : List (Key × V)} {p : Str × PyData} {kvs : List (Str × PyData)} (h : KvOk K F (u :: vs) (p :: kvs)) : u.1 = Sum.inr p.1 ∧ Dp K F u.2 p.2 ∧ KvOk K F vs kvs := by
  obtain ⟨h1, h2⟩ := h
  rw [List.map_cons, List.map_cons] at h1 h2
  injection h1 with a b
  cases h2 with
  | cons c d => exact ⟨a, c, b, d⟩
theorem kv_mk {u : Key × V} {vs : List (Key × V)} {p : Str × PyData} {kvs : List (Str × PyData)} (a : u.1 = Sum.inr p.1) (b : Dp K F u.2 p.2) (h : KvOk K F vs kvs) : KvOk K F (u :: vs) (p :: kvs) :=
  ⟨by rw [List.map_cons, List.map_cons, a, h.ks], .cons b h.ds⟩
theorem kv_len {vs : List (Key × V)} {kvs : List (Str × PyData)} (h : KvOk K F vs kvs) : vs.length = kvs.length := by
  have := congrArg List.length h.ks
  rwa [List.length_map, List.length_map] at this
theorem inr_dec {x y : Str} : decide ((Sum.inr x : Key) = Sum.inr y) = decide (x = y) := by
  by_cases h : x = y
  · rw [decide_eq_true h, decide_eq_true (by rw [h])]
  · rw [decide_eq_false h, decide_eq_false fun z => h (Sum.inr.inj z)]
theorem kv_get {k : Str} : ∀ {vs : List (Key × V)} {kvs : List (Str × PyData)}, KvOk K F vs kvs → (∀ d, getK kvs k = some d → ∃ v, valV vs (Sum.inr k : Key) = some v ∧ Dp K F v d) ∧ (getK kvs k = none → valV vs (Sum.inr k : Key) = none)
  | [], [], _ => ⟨fun d h => (by cases h), fun _ => rfl⟩
  | [], _ :: _, h => by cases h.ks
  | _ :: _, [], h => by cases h.ks
  | u :: vs, p :: kvs, h => by
    obtain ⟨a, b, c⟩ := kv_cons h
    have ih := kv_get (k := k) c
    unfold getK valV at ih ⊢
    rw [List.find?_cons, List.find?_cons, a, inr_dec]
    by_cases e : p.1 = k
    · rw [decide_eq_true e]
      refine ⟨fun d h => ?_, fun h => (by cases h)⟩
      cases h
      exact ⟨u.2, rfl, b⟩
    · rw [decide_eq_false e]
      exact ih
theorem kv_any {k : Str} : ∀ {vs : List (Key × V)} {kvs : List (Str × PyData)}, KvOk K F vs kvs → (vs.any fun kv => decide (kv.1 = (Sum.inr k : Key))) = (kvs.any fun p => decide (p.1 = k))
  | [], [], _ => rfl
  | [], _ :: _, h => by cases h.ks
  | _ :: _, [], h => by cases h.ks
  | u :: vs, p :: kvs, h => by
    obtain ⟨a, b, c⟩ := kv_cons h
    rw [List.any_cons, List.any_cons, a, inr_dec, kv_any c]
theorem kv_map {k : Str} {v : V} {d : PyData} (hd : Dp K F v d) : ∀ {vs : List (Key × V)} {kvs : List (Str × PyData)}, KvOk K F vs kvs → KvOk K F (vs.map fun kv => if kv.1 = (Sum.inr k : Key) then (kv.1, v) else kv) (kvs.map fun p => if p.1 = k then (p.1, d) else p)
  | [], [], h => h
  | [], _ :: _, h => by cases h.ks
  | _ :: _, [], h => by cases h.ks
  | u :: vs, p :: kvs, h => by
    obtain ⟨a, b, c⟩ := kv_cons h
    rw [List.map_cons, List.map_cons]
    by_cases e : p.1 = k
    · rw [if_pos e, if_pos (by rw [a, e])]
      exact kv_mk a hd (kv_map hd c)
    · rw [if_neg e, if_neg (fun z => e (Sum.inr.inj (a.symm.trans z)))]
      exact kv_mk a b (kv_map hd c)
theorem kv_app {v : V} {d : PyData} {k : Str} (hd : Dp K F v d) : ∀ {vs : List (Key × V)} {kvs : List (Str × PyData)}, KvOk K F vs kvs → KvOk K F (vs ++ [(Sum.inr k, v)]) (kvs ++ [(k, d)])
  | [], [], _ => kv_mk rfl hd kv_nil
  | [], _ :: _, h => by cases h.ks
  | _ :: _, [], h => by cases h.ks
  | u :: vs, p :: kvs, h => by
    obtain ⟨a, b, c⟩ := kv_cons h
    exact kv_mk a b (kv_app hd c)
theorem kv_put {k : Str} {v : V} {d : PyData} {vs : List (Key × V)} {kvs : List (Str × PyData)} (h : KvOk K F vs kvs) (hd : Dp K F v d) : KvOk K F (putK vs (Sum.inr k : Key) v) (putD kvs k d) := by
  unfold putK putD
  rw [kv_any h]
  by_cases e : (kvs.any fun p => decide (p.1 = k)) = true
  · rw [if_pos e, if_pos e]; exact kv_map hd h
  · rw [if_neg e, if_neg e]; exact kv_app hd h
end
/-- the dict of a slot -/
def Sl.kv : Sl → Option (List (Str × PyData))
  | .od kvs => some kvs
  | .fk kvs => some kvs
  | _ => none
section
variable {g : Gd} {G G' : List Sl} {te ta tb ty tv : TE} {tw : TS} {d x y : PyData} {ds : List PyData} {kvs : List (Str × PyData)} {i j : Nat} {D : Ends}
theorem dict_at {σ : L2.St} {F H : Hp} (hh : Holds g G σ F H) (h : (G[i]?).bind Sl.kv = some kvs) : ∃ p vs, σ[i]? = some (some (.ref p)) ∧ Rd H p (.dK vs) ∧ KvOk g.K F vs kvs := by
  cases e : G[i]? with
  | none => rw [e] at h; cases h
  | some s =>
    rw [e] at h
    obtain ⟨o, eo, ok⟩ := hh.at_ e
    cases s <;> first | cases h | skip
    · obtain ⟨p, vs, rfl, _, _, hH, hk⟩ := ok
      exact ⟨p, vs, eo, .inl hH, hk⟩
    · obtain ⟨p, vs, rfl, hr, hk⟩ := ok
      exact ⟨p, vs, eo, hh.st.i.ex.rd hr (fun _ z => by cases z), hk⟩
theorem rd_h {F H F' H' : Hp} (s : Stp F H F' H') {p : Addr} {vs : List (Key × V)} (h : Rd H p (.dK vs)) : Rd H' p (.dK vs) := s.h.rd h fun _ z => by cases z
/-- a new dict -/
theorem s_dnew (k : N g D.nx (G.set i (.od []))) : S g (tAsg tDNewK (gName i)) D G := fun σ F H hh p hp =>
  k _ F _ ((hh.mono (Stp.mine hh.st.i hp)).set (s := .od []) ⟨p, [], rfl, old_free hh.st hp, hh.st.i.free hp, upd_same, kv_nil⟩ fun _ j t _ e1 m e2 => new_ok hh hp j ⟨t, e1, m⟩ e2)
theorem q_dnew (k : S g tw D (G.set i (.od []))) : S g (tSeq (tAsg tDNewK (gName i)) tw) D G := s_dnew (D := { D with nx := tw D }) k
/-- d[k] = v -/
theorem s_dput {k : Str} (h : G[i]? = some (.od kvs)) (hk : E g ty G (.str k)) (hv : E g tv G d) (hz : kvs.length < 100000) (kk : N g D.nx (G.set i (.od (putD kvs k d)))) : S g (sDPut (tVar i) ty tv) D G := fun σ F H hh => hv σ F H hh _ fun v F1 H1 s1 d1 => by
  obtain ⟨o, e, p, vs, ev, h0, hF, hH, hd⟩ := hh.at_ h
  subst ev
  refine ⟨.ref p, e, hk σ F1 H1 (hh.mono s1) _ fun u F2 H2 s2 d2 => ?_⟩
  cases d2
  have s := s1.trans s2
  have hH1 := s.h.dk hH
  have hF1 := s.n p _ hH hF
  refine ⟨p, upd H2 p (.dK (putK vs (Sum.inr k : Key) v)), rfl, .inl ⟨vs, .inr k, hH1, rfl, Nat.lt_of_lt_of_le (by rw [kv_len hd]; exact hz) (by decide), rfl⟩, ?_⟩
  have hi : i < σ.length := (List.getElem?_eq_some_iff.mp e).1
  have hs : σ.set i (some (.ref p)) = σ := by
    apply List.ext_getElem?
    intro j
    by_cases hj : i = j
    · subst hj; rw [List.getElem?_set_self hi, e]
    · rw [List.getElem?_set_ne hj]
  have base := hh.mono s
  have h1 : Holds g (G.set i .un) σ F2 H2 := base.weak (by rw [List.length_set]) fun j s ej => by
    by_cases hj : i = j
    · subst hj; rw [List.getElem?_set_self (by rw [← hh.len]; exact hi)] at ej; cases ej; exact .inl rfl
    · rw [List.getElem?_set_ne hj] at ej; exact .inr ej
  have other : ∀ (j : Nat) (t : Sl), j ≠ i → G[j]? = some t → t.mine = true → σ[j]? ≠ some (some (.ref p)) := fun j t hj ej m z => hj (hh.apart j i t (.od kvs) p ej h m rfl z e)
  have h2 : Holds g (G.set i .un) σ F2 (upd H2 p (.dK (putK vs (Sum.inr k : Key) v))) := h1.mut h0 hF1 hH1 (fun _ z => by cases z) fun j t ej m => by
    by_cases hj : i = j
    · subst hj; rw [List.getElem?_set_self (by rw [← hh.len]; exact hi)] at ej; cases ej; cases m
    · rw [List.getElem?_set_ne hj] at ej; exact other j t (Ne.symm hj) ej m
  have h3 := h2.set (i := i) (v := .ref p) (s := .od (putD kvs k d)) ⟨p, _, rfl, h0, hF1, upd_same, kv_put (hd.mono s.f) (s2.f.dp d v d1)⟩ fun _ j t hj ej m => by
    rw [List.getElem?_set_ne (Ne.symm hj)] at ej; exact other j t hj ej m
  rw [List.set_set, hs] at h3
  exact kk σ F2 _ h3
/-! ### list(d), sorted(d) -/
def rListW (K : PySem.W.Frag) : List V → Hp → VK → Prop := fun xs H Q => rListU K xs H Q ∨ rListD xs H Q
theorem uListW {X : Cx} (hc : X.calm = true) : CallR X (.type "list") (rListW X.K) := fun pins s σ H xs us Q I vs h => by
  rcases h with h | h
  · exact uList pins s σ H xs us Q I vs h
  · exact call_list_dK hc pins s σ H xs us Q I vs h
/-! sorted: tuples, texts, a dict's keys -/
def rSortU (K : PySem.W.Frag) : List V → Hp → VK → Prop := fun vs H Q => rSortT K vs H Q ∨ (∃ (a : Addr) (kvs : List (Key × V)) (ks : List Str), vs = [.ref a] ∧ Rd H a (.dK kvs) ∧ kvs.map (·.1) = ks.map Sum.inr ∧ ks.length < 64 ∧ ∀ ys p, ys.Perm ks → sortedS ys = true → H p = none → Q (.ref p) (upd H p (.lst (ys.map V.str)))) ∨ rSortedS K vs H Q
theorem uSort {X : Cx} (hc : X.calm = true) : CallR X (.builtin "sorted") (rSortU X.K) := fun pins s σ H xs us Q I vs h => by
  rcases h with h | h | h
  · exact cr_sortT5 pins s σ H xs us Q I vs h
  · exact call_sortedD hc pins s σ H xs us Q I vs h
  · exact cr_sortedS pins s σ H xs us Q I vs h
theorem so_own {j : Nat} (sh : Nat → Bool) (h : G[j]? = some (.ow ds)) (hd : ∀ d ∈ ds, ∃ l, d = .tuple l ∧ l ≠ [] ∧ shD sh 0 l = true) (hz : ds.length ≤ 100000) : EL g (tCB (rSortU g.K) (tCons (tVar j) tNil)) G (sortD ds) := fun σ F H hh Q q => by
  obtain ⟨o, e, p, vs, ev, h0, hF, hH, hv⟩ := hh.at_ h
  subst ev
  exact ⟨.ref p, e, .inl (sort_core sh hh.st.i.ex (.inl (.inl hH)) hv hd hz fun r ws hr hw => q r ws F _ (Stp.mine hh.st.i hr) hr (hh.st.i.free hr) upd_same hw)⟩
/-! ### isinstance, a range with a step -/
theorem e_isiT (h : B g te G (.tuple ds)) : E g (tCB (rIsi g.K) (tCons te (tCons (tC (.ty "tuple")) tNil))) G (.bool true) := fun σ F H hh Q q => h σ F H hh _ fun v F1 H1 s1 d1 => by
  obtain ⟨a, vs, rfl, h1, h2⟩ := dp_tq d1
  refine ⟨.ref a, .ty "tuple", .type "tuple", .type "tuple", true, rfl, .ty "tuple", ?_, by unfold PySem.W.kitOne; rw [if_pos (by decide +kernel)], q _ F1 H1 s1 (.bl true)⟩
  rcases h1 with (h1 | ⟨o, h1⟩) | ⟨o, its, n, e1, e2, _⟩
  · exact .base (.tup h1)
  · exact .fTuple h1
  · exact .kTuple e1 e2
theorem e_isiL (h : B g te G (.list ds)) : E g (tCB (rIsi g.K) (tCons te (tCons (tC (.ty "list")) tNil))) G (.bool true) := fun σ F H hh Q q => h σ F H hh _ fun v F1 H1 s1 d1 => by
  obtain ⟨a, vs, rfl, h1, h2⟩ := dp_sq d1
  refine ⟨.ref a, .ty "list", .type "list", .type "list", true, rfl, .ty "list", ?_, by unfold PySem.W.kitOne; rw [if_pos (by decide +kernel)], q _ F1 H1 s1 (.bl true)⟩
  rcases h1 with (h1 | ⟨o, h1⟩) | ⟨o, its, n, e1, e2, _⟩
  · exact .base (.lst h1)
  · exact .base (.frz h1)
  · exact .kList e1 e2
/-- the ints from lo on, by steps -/
def rngC (lo c : Int) (n : Nat) : List PyData := (List.range n).map fun i => .int (lo + (i : Nat) * c)
theorem rngC_len (lo c : Int) (n : Nat) : (rngC lo c n).length = n := by unfold rngC; rw [List.length_map, List.length_range]
theorem rngC_get {lo c : Int} {n i : Nat} {d : PyData} (h : (rngC lo c n)[i]? = some d) : i < n ∧ d = .int (lo + (i : Nat) * c) := by
  unfold rngC at h
  rw [List.getElem?_map] at h
  by_cases hi : i < n
  · rw [List.getElem?_range hi] at h; exact ⟨hi, (Option.some.inj h).symm⟩
  · rw [List.getElem?_eq_none (by rw [List.length_range]; omega)] at h; cases h
theorem it_rng3 {ta : TA} {lo hi c : Int} {n : Nat} (h : A g ta G [.int lo, .int hi, .int c]) (hr : RgC lo hi c n) : IT g (iRng3 ta) G (rngC lo c n) := fun σ F H hh R r => h σ F H hh _ fun vs F1 H1 s1 d1 => by
  cases d1 with
  | cons a t =>
    cases t with
    | cons b t =>
      cases t with
      | cons d t =>
        cases t; cases a; cases b; cases d
        exact ⟨lo, hi, c, n, rfl, hr, r _ F1 H1 s1 ⟨fun i F H _ _ hi => by rw [rngC_len] at hi; exact hi, fun F H _ _ => by rw [rngC_len]; exact Nat.le_refl _, fun i F H x H' d _ sb hd hy => by
          obtain ⟨rfl, rfl⟩ := hy
          obtain ⟨_, rfl⟩ := rngC_get hd
          exact ⟨F, Stp.refl sb, .int _⟩⟩⟩
end
/-! == and != -/
def rEqU (K : PySem.W.Frag) : R2 := fun x y H Q => rEq x y H Q ∨ rEqD K x y H Q
def rNeU (K : PySem.W.Frag) : R2 := fun x y H Q => rNe x y H Q ∨ rNeD K x y H Q
theorem uEq {X : Cx} (hu : X.A.units + 64 < cLine) : OpR X (compareOp .Eq) (rEqU X.K) := op_eq.or (op_eqD hu)
theorem uNe {X : Cx} (hu : X.A.units + 64 < cLine) : OpR X (compareOp .NotEq) (rNeU X.K) := op_ne.or (op_neD hu)
section
variable {g : Gd} {x y : PyData}
theorem eqd (hx : SeqAt.shaped x = true) (hy : SeqAt.shaped y = true) : RB g (rEqU g.K) x y (.bool (PyData.eqv x y)) := fun u v H hu hv Q q => .inr ⟨x, y, hu, hv, hx, hy, q _ (.bl _)⟩
theorem ned (hx : SeqAt.shaped x = true) (hy : SeqAt.shaped y = true) : RB g (rNeU g.K) x y (.bool (!PyData.eqv x y)) := fun u v H hu hv Q q => .inr ⟨x, y, hu, hv, hx, hy, q _ (.bl _)⟩
theorem dec_inj {α β : Type} [DecidableEq α] [DecidableEq β] (f : α → β) (hf : ∀ a b, f a = f b → a = b) (a b : α) : decide (f a = f b) = decide (a = b) := by
  by_cases h : a = b
  · rw [decide_eq_true h, decide_eq_true (by rw [h])]
  · rw [decide_eq_false h, decide_eq_false fun z => h (hf a b z)]
theorem eq_i {a b : Int} : RB g (rEqU g.K) (.int a) (.int b) (.bool (decide (a = b))) := fun u v H hu hv Q q => by
  cases hu; cases hv
  refine .inl ⟨rfl, ?_⟩
  rw [dec_inj V.int fun a b z => V.int.inj z]; exact q _ (.bl _)
theorem ne_i {a b : Int} : RB g (rNeU g.K) (.int a) (.int b) (.bool (!decide (a = b))) := fun u v H hu hv Q q => by
  cases hu; cases hv
  refine .inl ⟨rfl, ?_⟩
  rw [dec_inj V.int fun a b z => V.int.inj z]; exact q _ (.bl _)
theorem eq_s {a b : Str} : RB g (rEqU g.K) (.str a) (.str b) (.bool (decide (a = b))) := fun u v H hu hv Q q => by
  cases hu; cases hv
  refine .inl ⟨rfl, ?_⟩
  rw [dec_inj V.str fun a b z => V.str.inj z]; exact q _ (.bl _)
theorem ne_s {a b : Str} : RB g (rNeU g.K) (.str a) (.str b) (.bool (!decide (a = b))) := fun u v H hu hv Q q => by
  cases hu; cases hv
  refine .inl ⟨rfl, ?_⟩
  rw [dec_inj V.str fun a b z => V.str.inj z]; exact q _ (.bl _)
end
/-! ### defs that take dicts -/
inductive Ag where
  | d (x : PyData)
  | k (kvs : List (Str × PyData))
def AgOk (K : PySem.W.Frag) (F : Hp) (v : V) : Ag → Prop
  | .d x => Dp K F v x
  | .k kvs => ∃ p vs, v = .ref p ∧ Rd F p (.dK vs) ∧ KvOk K F vs kvs
def Ag.sl : Ag → Sl
  | .d x => .fz x
  | .k kvs => .fk kvs
inductive AgAll (K : PySem.W.Frag) (F : Hp) : List V → List Ag → Prop
  | nil : AgAll K F [] []
  | cons {v : V} {a : Ag} {vs : List V} {as : List Ag} (h : AgOk K F v a) (t : AgAll K F vs as) : AgAll K F (v :: vs) (a :: as)
theorem AgOk.mono {K : PySem.W.Frag} {F H : Hp} {v : V} (e : Ex F H) : ∀ {a : Ag}, AgOk K F v a → AgOk K H v a
  | .d x, h => e.dp x v h
  | .k kvs, ⟨p, vs, ev, hr, hk⟩ => ⟨p, vs, ev, e.rd hr (fun _ z => by cases z), hk.mono e⟩
theorem AgAll.mono {K : PySem.W.Frag} {F H : Hp} (e : Ex F H) : ∀ {vs : List V} {as : List Ag}, AgAll K F vs as → AgAll K H vs as
  | _, _, .nil => .nil
  | _, _, .cons h t => .cons (h.mono e) (AgAll.mono e t)
theorem AgAll.len {K : PySem.W.Frag} {F : Hp} : ∀ {vs : List V} {as : List Ag}, AgAll K F vs as → vs.length = as.length
  | _, _, .nil => rfl
  | _, _, .cons _ t => by rw [List.length_cons, List.length_cons, AgAll.len t]
theorem AgAll.get {K : PySem.W.Frag} {F : Hp} : ∀ {vs : List V} {as : List Ag} {i : Nat} {a : Ag}, AgAll K F vs as → as[i]? = some a → ∃ v, vs[i]? = some v ∧ AgOk K F v a
  | _, _, _, _, .nil, e => by simp at e
  | _, _, 0, _, .cons h _, e => by simp at e; subst e; exact ⟨_, rfl, h⟩
  | _, _, i + 1, a, .cons _ t, e => by
    obtain ⟨v, h1, h2⟩ := AgAll.get (i := i) (a := a) t (by simpa using e)
    exact ⟨v, by simpa using h1, h2⟩
section
variable {g : Gd} {G : List Sl} {te : TE} {ta : TA} {d x : PyData} {as : List Ag} {kvs : List (Str × PyData)} {i : Nat}
def AX (g : Gd) (ta : TA) (G : List Sl) (as : List Ag) : Prop := ∀ σ F H, Holds g G σ F H → ∀ Q : List V → Hp → Prop, (∀ vs F' H', Stp F H F' H' → AgAll g.K H' vs as → Q vs H') → ta σ H Q
theorem ax_nil : AX g tNil G [] := fun σ F H hh Q q => q [] F H (Stp.refl hh.st.i) .nil
theorem ax_d {tr : TA} (h : B g te G x) (hr : AX g tr G as) : AX g (tCons te tr) G (.d x :: as) := fun σ F H hh Q q =>
  h σ F H hh _ fun v F1 H1 s1 d1 => hr σ F1 H1 (hh.mono s1) _ fun vs F2 H2 s2 d2 => q (v :: vs) F2 H2 (s1.trans s2) (.cons (show AgOk g.K H2 v (.d x) from s2.h.dp x v d1) d2)
theorem ax_k {tr : TA} (h : (G[i]?).bind Sl.kv = some kvs) (hr : AX g tr G as) : AX g (tCons (tVar i) tr) G (.k kvs :: as) := fun σ F H hh Q q => by
  obtain ⟨p, vs, ev, hd, hv⟩ := dict_at hh h
  exact ⟨.ref p, ev, hr σ F H hh _ fun ws F2 H2 s2 d2 => q (.ref p :: ws) F2 H2 s2 (.cons (show AgOk g.K H2 (.ref p) (.k kvs) from ⟨p, vs, rfl, rd_h s2 hd, (hv.mono hh.st.i.ex).mono s2.h⟩) d2)⟩
end
end DW
/-! the operators with the written part named (for comprehensions) -/
namespace DW
open PySem PySem.Spec PyProof.Rows L2
variable [LamTabs]
theorem uAddK {X : Cx} (K : PySem.W.Frag) (h : X.K = K := by rfl) : OpR X (binaryOp .Add) (rAddU K) := h ▸ uAdd
theorem uInK {X : Cx} (K : PySem.W.Frag) (h : X.K = K := by rfl) : OpR X (compareOp .In) (rInU K) := h ▸ uIn
theorem uNiK {X : Cx} (K : PySem.W.Frag) (h : X.K = K := by rfl) : OpR X (compareOp .NotIn) (rNiU K) := h ▸ uNi
theorem uEqK {X : Cx} (K : PySem.W.Frag) (hu : X.A.units + 64 < cLine) (h : X.K = K := by rfl) : OpR X (compareOp .Eq) (rEqU K) := h ▸ uEq hu
theorem uNeK {X : Cx} (K : PySem.W.Frag) (hu : X.A.units + 64 < cLine) (h : X.K = K := by rfl) : OpR X (compareOp .NotEq) (rNeU K) := h ▸ uNe hu
theorem ix_seqK {X : Cx} (K : PySem.W.Frag) (h : X.K = K := by rfl) : IxR X (rIx K) := h ▸ ix_seq
theorem uLenK {X : Cx} (K : PySem.W.Frag) (h : X.K = K := by rfl) : CallR X (.builtin "len") (rLenU K) := h ▸ uLen
theorem uListK {X : Cx} (K : PySem.W.Frag) (hc : X.calm = true) (h : X.K = K := by rfl) : CallR X (.type "list") (rListW K) := h ▸ uListW hc
theorem uTupK {X : Cx} (K : PySem.W.Frag) (h : X.K = K := by rfl) : CallR X (.type "tuple") (rTupU K) := h ▸ uTup
theorem uSortK {X : Cx} (K : PySem.W.Frag) (hc : X.calm = true) (h : X.K = K := by rfl) : CallR X (.builtin "sorted") (rSortU K) := h ▸ uSort hc
theorem call_isiK {X : Cx} (K : PySem.W.Frag) (h : X.K = K := by rfl) : CallR X (.builtin "isinstance") (rIsi K) := h ▸ call_isi
theorem uSlK {X : Cx} (K : PySem.W.Frag) (h : X.K = K := by rfl) : SlR X (rSlU K) := h ▸ uSl
def tTru (K : PySem.W.Frag) (te : TE) : TT := fun σ H Q => te σ H fun x H' => ∃ k, TruV K x H' k ∧ Q k H'
theorem pt_truthK {X : Cx} {a : Expr} {ta : TE} (K : PySem.W.Frag) (ha : PE X a ta) (hw : ∀ whole : Sem Value, PySem.isTrue a X.env whole = do let v ← whole; standAt a.pos; holding [v] (truthy v)) (h : X.K = K := by rfl) : PT X a (tTru K ta) := h ▸ pt_truth ha hw
theorem t_tru {g : Gd} {G : List Sl} {te : TE} {d : PyData} {b : Bool} (h : B g te G d) (e : truD d = some b) : T g (tTru g.K te) G b := t_truth h e
theorem pg_tupK {X : Cx} {pos : Pos} {es : List Expr} {k n : Nat} {t : TGs} (K : PySem.W.Frag) (hc : X.calm = true) (ht : PGs X es t) (h1 : (assignEach es X.env).length = n := by rfl) (h2 : List.findIdx? (fun x => x.fst) (assignEach es X.env) = none := by rfl) (h : X.K = K := by rfl) : PG X (.Tuple es k pos) (gTup K n t) := h ▸ pg_tup hc ht h1 h2
end DW
namespace DW
open PySem PySem.Spec PyProof.Rows L2
variable [LamTabs]
section
variable {g : Gd} {G : List Sl} {te : TE} {ds : List PyData}
theorem e_tupE (h : E g te G (.list ds)) : E g (tCB (rTupU g.K) (tCons te tNil)) G (.tuple ds) := fun σ F H hh Q q => h σ F H hh _ fun v F1 H1 s1 d1 => by
  obtain ⟨a, vs, rfl, h1, h2⟩ := dp_sq d1
  exact ⟨a, vs, rfl, .inl ⟨s1.i.ex.l h1, fun l hl => by
    have st := Stp.new (o := .tup vs) s1.i hl fun _ z => by cases z
    exact q (.ref l) _ _ (s1.trans st) (.tup (.inl (.inl upd_same)) (st.f.dps ds vs h2))⟩⟩
end
section
variable {P : Program} {w : World} {K : PySem.W.Frag} {mg : Str → Option Value} {base : Heap} {x qual : Str} {st : Stmt} {f : Addr} {fd : FuncData} {Nn ps : List Str} {k : Nat} {Tb : List Addr}
/-- the law itself -/
theorem fn_D (F : Fun K x qual st f fd) (Sc : FnScope Nn ps (defScope st)) {R : List PyData → PyData → Prop} (hlen : ∀ ds d, R ds d → ds.length = ps.length)
    (body : ∀ (cdv : Value) (A : Around) (outer : List Env) (s : Shared) (H : Hp) (E : XK), Room k (A.deeper (envOfC qual (defScope st) s.heap.objs.size f cdv)) →
      ∃ t, PSs (cxOf CX0 P w K mg base Nn qual (defScope st) f cdv A outer s H E).nox (defBody st) t ∧ ∀ (ds : List PyData) (d : PyData) (F0 H0 : Hp) (Q : VK), R ds d → Rt ⟨K, Tb, F0, H0, F0⟩ Q d → S ⟨K, Tb, F0, H0, F0⟩ t { nx := fun _ H' => Q .non H', rt := Q } (startG Nn.length ds)) :
    FnOk P w K mg base CX0 (k + 1) f fd ps (spD K Tb R) := by
  refine F.ok Sc (fun vs H Q E h => ?_) (fun cdv A outer s H vs Q E hr h => ?_)
  · obtain ⟨F, ds, d, _, _, hd, r, _⟩ := h
    exact (dps_len hd).trans (hlen ds d r)
  · obtain ⟨F1, ds, d, sb, ht, hd, r, q⟩ := h
    obtain ⟨t, h1, h2⟩ := body cdv A outer s H E hr
    exact ⟨t, h1, h2 ds d F1 H Q r q _ F1 H (holds_start sb ht hd)⟩
end
theorem dps_ints {K : PySem.W.Frag} {F : Hp} : ∀ (xs : List Int), DpAll K F (xs.map V.int) (xs.map PyData.int)
  | [] => .nil
  | x :: xs => .cons (.int x) (dps_ints xs)
/-- the script as data -/
theorem dp_script {K : PySem.W.Frag} {H : Hp} {a : Addr} {xs : List Int} (h : SqL K H a (xs.map V.int)) : DpAll K (cut H) [.ref a] [.list (xs.map .int)] := .cons (.lst ((ex_cut H).l h) (dps_ints xs)) .nil
end DW
/-! answers known by a property only; None; pop; the end of a recursion -/
namespace DW
open PySem PySem.Spec PyProof.Rows L2
variable [LamTabs]
/-- te gives some d with P d -/
def EP (g : Gd) (te : TE) (G : List Sl) (P : PyData → Prop) : Prop := ∀ σ F H, Holds g G σ F H → ∀ Q : VK, (∀ v F' H' d, Stp F H F' H' → P d → Dp g.K F' v d → Q v H') → te σ H Q
def AP (g : Gd) (ta : TA) (G : List Sl) (P : List PyData → Prop) : Prop := ∀ σ F H, Holds g G σ F H → ∀ Q : List V → Hp → Prop, (∀ vs F' H' ds, Stp F H F' H' → P ds → DpAll g.K F' vs ds → Q vs H') → ta σ H Q
def RtP (g : Gd) (rt : VK) (P : PyData → Prop) : Prop := ∀ v F H d, Stp g.F0 g.H0 F H → P d → Dp g.K F v d → rt v H
section
variable {g : Gd} {G : List Sl} {te : TE} {ta tr : TA} {tw : TS} {d x y : PyData} {ds : List PyData} {i j : Nat} {D : Ends} {P P1 : PyData → Prop} {PP : List PyData → Prop}
theorem E.p (h : E g te G d) (p : P d) : EP g te G P := fun σ F H hh Q q => h σ F H hh Q fun v F' H' s hd => q v F' H' d s p hd
theorem EP.mono (h : EP g te G P1) (m : ∀ d, P1 d → P d) : EP g te G P := fun σ F H hh Q q => h σ F H hh Q fun v F' H' d s p hd => q v F' H' d s (m d p) hd
theorem A.p (h : A g ta G ds) (p : PP ds) : AP g ta G PP := fun σ F H hh Q q => h σ F H hh Q fun vs F' H' s hd => q vs F' H' ds s p hd
theorem s_asgP (h : EP g te G P) (k : ∀ d, P d → N g D.nx (G.set i (.fz d))) : S g (tAsg te (gName i)) D G := fun σ F H hh => h σ F H hh _ fun v F1 H1 d s1 p d1 => k d p _ F1 H1 ((hh.mono s1).setF d1)
theorem q_asgP (h : EP g te G P) (k : ∀ d, P d → S g tw D (G.set i (.fz d))) : S g (tSeq (tAsg te (gName i)) tw) D G := s_asgP (D := { D with nx := tw D }) h k
theorem s_retP (h : EP g te G P) (k : RtP g D.rt P) : S g (tRet te) D G := fun σ F H hh => h σ F H hh _ fun v F1 H1 d s1 p d1 => k v F1 H1 d (hh.st.trans s1) p d1
/-- our list at slot i changes -/
theorem own_set {σ : L2.St} {F H F1 H1 : Hp} {p : Addr} {vs ws : List V} {es : List PyData} (hh : Holds g G σ F H) (h : G[i]? = some (.ow ds)) (e : σ[i]? = some (some (.ref p))) (h0 : g.H0 p = none) (hF : F p = none) (hH : H p = some (.lst vs)) (s1 : Stp F H F1 H1) (hw : DpAll g.K F1 ws es) :
    Holds g (G.set i (.ow es)) σ F1 (upd H1 p (.lst ws)) := by
  have hH1 := s1.h.lst hH
  have hF1 := s1.n p _ hH hF
  have hi : i < σ.length := (List.getElem?_eq_some_iff.mp e).1
  have hs : σ.set i (some (.ref p)) = σ := by
    apply List.ext_getElem?
    intro j
    by_cases hj : i = j
    · subst hj; rw [List.getElem?_set_self hi, e]
    · rw [List.getElem?_set_ne hj]
  have base := hh.mono s1
  have h1 : Holds g (G.set i .un) σ F1 H1 := base.weak (by rw [List.length_set]) fun j s ej => by
    by_cases hj : i = j
    · subst hj; rw [List.getElem?_set_self (by rw [← hh.len]; exact hi)] at ej; cases ej; exact .inl rfl
    · rw [List.getElem?_set_ne hj] at ej; exact .inr ej
  have other : ∀ (j : Nat) (t : Sl), j ≠ i → G[j]? = some t → t.mine = true → σ[j]? ≠ some (some (.ref p)) := fun j t hj ej m z => hj (hh.apart j i t (.ow ds) p ej h m rfl z e)
  have h2 : Holds g (G.set i .un) σ F1 (upd H1 p (.lst ws)) := h1.mut h0 hF1 hH1 (fun _ z => by cases z) fun j t ej m => by
    by_cases hj : i = j
    · subst hj; rw [List.getElem?_set_self (by rw [← hh.len]; exact hi)] at ej; cases ej; cases m
    · rw [List.getElem?_set_ne hj] at ej; exact other j t (Ne.symm hj) ej m
  have h3 := h2.setO (i := i) (ds := es) h0 hF1 upd_same hw fun j hj ⟨t, ej, m⟩ => by
    rw [List.getElem?_set_ne (Ne.symm hj)] at ej; exact other j t hj ej m
  rw [List.set_set, hs] at h3
  exact h3
/-- xs.append(e) -/
theorem s_appP (h : G[i]? = some (.ow ds)) (he : EP g te G P) (hz : ds.length < 100000) (k : ∀ d, P d → N g D.nx (G.set i (.ow (ds ++ [d])))) : S g (tDrop (tBM g.K "list" rAppend (tVar i) (tCons te tNil))) D G := fun σ F H hh => by
  obtain ⟨o, e, p, vs, ev, h0, hF, hH, hd⟩ := hh.at_ h
  subst ev
  refine ⟨.ref p, e, .inl ⟨rfl, vs, .inl (.inl hH)⟩, he σ F H hh _ fun v F1 H1 d s1 p1 d1 => ?_⟩
  exact ⟨p, vs, v, rfl, rfl, s1.h.lst hH, Nat.lt_of_lt_of_le (by rw [dps_len hd]; exact hz) (by decide), k d p1 σ F1 _ (own_set hh h e h0 hF hH s1 (dps_app (s1.f.dps ds vs hd) (.cons d1 .nil)))⟩
/-- x is None -/
def isND : PyData → Bool
  | .none => true
  | _ => false
def rIsNn : R2 := fun x y H Q => y = .non ∧ Q (.bl (decide (x = .non))) H
theorem is_n : RB g rIsNn x .none (.bool (isND x)) := fun u v H hu hv Q q => by
  cases hv
  refine ⟨rfl, ?_⟩
  have e : decide (u = V.non) = isND x := by
    cases hu with
    | non => exact decide_eq_true rfl
    | bl b => exact decide_eq_false fun z => by cases z
    | int b => exact decide_eq_false fun z => by cases z
    | str b => exact decide_eq_false fun z => by cases z
    | lst _ _ => exact decide_eq_false fun z => by cases z
    | tup _ _ => exact decide_eq_false fun z => by cases z
  rw [e]; exact q _ (.bl _)
end
/-- tuple(xs), xs ours -/
theorem e_tupO {g : Gd} {G : List Sl} {ds : List PyData} {j : Nat} (h : G[j]? = some (.ow ds)) : E g (tCB (rTupU g.K) (tCons (tVar j) tNil)) G (.tuple ds) := fun σ F H hh Q q => by
  obtain ⟨o, e, p, vs, ev, h0, hF, hH, hd⟩ := hh.at_ h
  subst ev
  exact ⟨.ref p, e, p, vs, rfl, .inl ⟨.inl (.inl hH), fun l hl => by
    have st := Stp.new (o := .tup vs) hh.st.i hl fun _ z => by cases z
    exact q (.ref l) _ _ st (.tup (.inl (.inl upd_same)) (st.f.dps ds vs hd))⟩⟩
theorem uIsN {X : Cx} : OpR X (compareOp .Is) rIsNn := op_isN
/-! a def whose answer is known by a property -/
def spA (K : PySem.W.Frag) (Tb : List Addr) (Ad : List PyData → Prop) (R : List PyData → PyData → Prop) : Sp := fun vs H Q _ => ∃ F ds, Sub F H ∧ (∀ P ∈ Tb, TabQ H P) ∧ DpAll K F vs ds ∧ Ad ds ∧ ∀ v F' H' d, Stp F H F' H' → R ds d → Dp K F' v d → Q v H'
theorem p_call {g : Gd} {G : List Sl} {ta : TA} {ds : List PyData} {Ad : List PyData → Prop} {R : List PyData → PyData → Prop} {Ek : XK} (h : A g ta G ds) (a : Ad ds) : EP g (tCall (spA g.K g.T Ad R) [] Ek ta) G (R ds) := fun σ F H hh Q q => h σ F H hh _ fun vs F1 H1 s1 d1 => by
  rw [List.append_nil]
  exact ⟨F1, ds, s1.i, (hh.mono s1).tab, d1, a, fun v F2 H2 d s2 r d2 => q v F2 H2 d (s1.trans s2) r d2⟩
section
variable {P : Program} {w : World} {K : PySem.W.Frag} {mg : Str → Option Value} {base : Heap} {x qual : Str} {st : Stmt} {f : Addr} {fd : FuncData} {Nn ps : List Str} {k : Nat} {Tb : List Addr}
theorem df_A (F : Fun K x qual st f fd) (Sc : FnScope Nn ps (defScope st)) (hm : mg x = some (.ref f)) (hb : Binds K fd ps []) {Ad : List PyData → Prop} {R : List PyData → PyData → Prop} (hlen : ∀ ds, Ad ds → ds.length = ps.length)
    (body : ∀ (cdv : Value) (A : Around) (outer : List Env) (s : Shared) (H : Hp) (E : XK), Room k (A.deeper (envOfC qual (defScope st) s.heap.objs.size f cdv)) →
      ∃ t, PSs (cxOf CX0 P w K mg base Nn qual (defScope st) f cdv A outer s H E).nox (defBody st) t ∧ ∀ (ds : List PyData) (F0 H0 : Hp) (Q : VK), Ad ds → RtP ⟨K, Tb, F0, H0, F0⟩ Q (R ds) → S ⟨K, Tb, F0, H0, F0⟩ t { nx := fun _ H' => Q .non H', rt := Q } (startG Nn.length ds)) :
    Df P w K mg base (k + 1) x ps (spA K Tb Ad R) := by
  refine ⟨f, fd, F.ok Sc (fun vs H Q E h => ?_) (fun cdv A outer s H vs Q E hr h => ?_), hm, F.kp, hb⟩
  · obtain ⟨F, ds, _, _, hd, r, _⟩ := h
    exact (dps_len hd).trans (hlen ds r)
  · obtain ⟨F1, ds, sb, ht, hd, r, q⟩ := h
    obtain ⟨t, h1, h2⟩ := body cdv A outer s H E hr
    exact ⟨t, h1, h2 ds F1 H Q r (fun v F H d s r hd => q v F H d s r hd) _ F1 H (holds_start sb ht hd)⟩
/-- nothing promised: a recursion's end -/
theorem df_no (F : Fun K x qual st f fd) (hm : mg x = some (.ref f)) (hb : Binds K fd ps []) {R : List PyData → PyData → Prop} (no : ∀ ds d, ¬ R ds d) : Df P w K mg base k x ps (spD K Tb R) :=
  ⟨f, fd, ⟨fun vs H Q E h => by obtain ⟨_, _, _, _, _, _, r, _⟩ := h; exact absurd r (no _ _), fun A outer s H args us vs Q E _ _ _ _ h => by obtain ⟨_, _, _, _, _, _, r, _⟩ := h; exact absurd r (no _ _)⟩, hm, F.kp, hb⟩
end
end DW
/-! a held exception with fields of its own: isinstance of a class above its own -/
namespace DW
open PySem PySem.Spec PyProof.Rows L2
end DW
/-! ### exceptions by data -/
namespace DW
open PySem PySem.Spec PyProof.Rows L2
variable [LamTabs]
/-- what a call comes to -/
inductive Out where
  | val (d : PyData)
  | exc (C : Addr) (fs : List (Str × PyData))
/-- the fields of an exception -/
structure FsOk (K : PySem.W.Frag) (F : Hp) (ws : List (Str × V)) (fs : List (Str × PyData)) : Prop where
  ns : ws.map (·.1) = fs.map (·.1)
  ds : DpAll K F (ws.map (·.2)) (fs.map (·.2))
theorem FsOk.mono {K : PySem.W.Frag} {F H : Hp} {ws : List (Str × V)} {fs : List (Str × PyData)} (e : Ex F H) (h : FsOk K F ws fs) : FsOk K H ws fs := ⟨h.ns, e.dps _ _ h.ds⟩
theorem FsOk.get {K : PySem.W.Frag} {F : Hp} {n : Str} {d : PyData} : ∀ {ws : List (Str × V)} {fs : List (Str × PyData)}, FsOk K F ws fs → fs.lookup n = some d → ∃ v, ws.lookup n = some v ∧ Dp K F v d
  | [], [], _, e => by cases e
  | [], _ :: _, h, _ => by cases h.ns
  | _ :: _, [], h, _ => by cases h.ns
  | (a, v) :: ws, (b, x) :: fs, h, e => by
    obtain ⟨h1, h2⟩ := h
    rw [List.map_cons, List.map_cons] at h1 h2
    injection h1 with e1 e2
    cases h2 with
    | cons c t =>
      have e1' : a = b := e1
      subst e1'
      rw [List.lookup_cons] at e ⊢
      cases q : n == a with
      | true => rw [q] at e; cases e; exact ⟨v, rfl, c⟩
      | false => rw [q] at e; exact FsOk.get ⟨e2, t⟩ e
def XtOk (g : Gd) (Ek : XK) (C : Addr) (fs : List (Str × PyData)) : Prop := ∀ dx ws F H, Stp g.F0 g.H0 F H → g.H0 dx = none → F dx = none → H dx = some (.xd ws) → FsOk g.K F ws fs → Ek (.ref C) (some dx) H
def OutOk (g : Gd) (Q : VK) (Ek : XK) : Out → Prop
  | .val d => Rt g Q d
  | .exc C fs => XtOk g Ek C fs
/-- a promise that tells what is raised too -/
def spX (K : PySem.W.Frag) (Tb : List Addr) (R : List PyData → Out → Prop) : Sp := fun vs H Q Ek => ∃ F ds o, Sub F H ∧ (∀ P ∈ Tb, TabQ H P) ∧ DpAll K F vs ds ∧ R ds o ∧ OutOk ⟨K, Tb, F, H, F⟩ Q Ek o
/-- __init__(self, x): self.f = x -/
def spI1 (C : Addr) (f : Str) : Sp := fun vs H Q _ => ∃ (a : Addr) (v : V), vs = [.ref a, v] ∧ H a = some (exo a C none) ∧ ∀ dx, H dx = none → dx ≠ a → Q .non (upd (upd H dx (exd dx [(f, v)])) a (exo a C (some dx)))
/-- __init__(self, x, y): self.f = x; self.h = y -/
def spI2 (C : Addr) (f h : Str) : Sp := fun vs H Q _ => ∃ (a : Addr) (v u : V), vs = [.ref a, v, u] ∧ H a = some (exo a C none) ∧ ∀ dx, H dx = none → dx ≠ a → Q .non (upd (upd (upd H dx (exd dx [(f, v)])) a (exo a C (some dx))) dx (exd dx [(h, u), (f, v)]))
theorem init1_t {K : PySem.W.Frag} {C : Addr} {f n1 n2 : Str} {vs : List V} {H : Hp} {Q : VK} {Ek : XK} (hC : OexC K C) (hf : PySem.W.findIn K (.ref C) f = some none) (h : spI1 C f vs H Q Ek) : tOst K f (tVar 0) (tVar 1) { nx := fun _ H' => Q .non H', rt := Q } (L2.start [n1, n2] vs) H := by
  obtain ⟨a, v, rfl, ha, q⟩ := h
  exact ⟨v, rfl, .ref a, rfl, a, C, rfl, hC, hf, .inl ⟨ha, fun dx h1 h2 => q dx h1 h2⟩⟩
theorem init2_t {K : PySem.W.Frag} {C : Addr} {f h n1 n2 n3 : Str} {vs : List V} {H : Hp} {Q : VK} {Ek : XK} (hC : OexC K C) (hf : PySem.W.findIn K (.ref C) f = some none) (hh : PySem.W.findIn K (.ref C) h = some none) (hp : spI2 C f h vs H Q Ek) : tSeq (tOst K f (tVar 0) (tVar 1)) (tOst K h (tVar 0) (tVar 2)) { nx := fun _ H' => Q .non H', rt := Q } (L2.start [n1, n2, n3] vs) H := by
  obtain ⟨a, v, u, rfl, ha, q⟩ := hp
  refine ⟨v, rfl, .ref a, rfl, a, C, rfl, hC, hf, .inl ⟨ha, fun dx h1 h2 => ?_⟩⟩
  refine ⟨u, rfl, .ref a, rfl, a, C, rfl, hC, hh, .inr ⟨dx, [(f, v)], upd_same, ?_, Nat.le_of_ble_eq_true rfl, q dx h1 h2⟩⟩
  rw [upd_ne h2]; exact upd_same
section
variable {g : Gd} {G : List Sl} {te tf : TE} {ta : TA} {d x : PyData} {ds : List PyData} {i j : Nat} {D : Ends} {Ek : XK} {C : Addr} {f h : Str}
theorem heap1 {H : Hp} {a dx : Addr} {o1 o2 o3 o4 : HO} (ha : H a = none) (hne : dx ≠ a) : upd (del (upd (upd (upd H a o1) dx o2) a o3) a) dx o4 = upd H dx o4 := by
  funext b
  by_cases hb : b = dx
  · subst hb; rw [upd_same, upd_same]
  · rw [upd_ne hb, upd_ne hb]
    show (if b = a then none else _) = _
    by_cases hba : b = a
    · rw [if_pos hba, hba, ha]
    · rw [if_neg hba, upd_ne hba, upd_ne hb, upd_ne hba]
/-- raise C(e) -/
theorem s_raise1 (he : E g te G d) (k : XtOk g Ek C [(f, d)]) : S g (fun _ σ H => tMkO C (spI1 C f) [] (tCons te tNil) σ H fun cls dd H' => Ek cls dd H') D G := fun σ F H hh => he σ F H hh _ fun v F1 H1 s1 d1 =>
  ⟨by show 1 ≤ 1000; decide, fun a ha => ⟨a, v, rfl, upd_same, fun dx hdx hne => by
    have hd0 : H1 dx = none := by rw [upd_ne hne] at hdx; exact hdx
    refine ⟨rfl, dx, [(f, v)], upd_same, by rw [upd_ne hne]; exact upd_same, hd0, ?_⟩
    rw [heap1 ha hne]
    exact k dx [(f, v)] F1 _ (hh.st.trans (s1.trans (Stp.mine s1.i hd0))) (old_free (hh.st.trans s1) hd0) (s1.i.free hd0) upd_same ⟨rfl, .cons d1 .nil⟩⟩⟩
theorem heap2 {H : Hp} {a dx : Addr} {o1 o2 o3 o4 o5 : HO} (ha : H a = none) (hne : dx ≠ a) : upd (del (upd (upd (upd (upd H a o1) dx o2) a o3) dx o5) a) dx o4 = upd H dx o4 := by
  funext b
  by_cases hb : b = dx
  · subst hb; rw [upd_same, upd_same]
  · rw [upd_ne hb, upd_ne hb]
    show (if b = a then none else _) = _
    by_cases hba : b = a
    · rw [if_pos hba, hba, ha]
    · rw [if_neg hba, upd_ne hb, upd_ne hba, upd_ne hb, upd_ne hba]
/-- raise C(e, e') -/
theorem s_raise2 (he : E g te G d) (hf : E g tf G x) (k : XtOk g Ek C [(h, x), (f, d)]) : S g (fun _ σ H => tMkO C (spI2 C f h) [] (tCons te (tCons tf tNil)) σ H fun cls dd H' => Ek cls dd H') D G := fun σ F H hh => he σ F H hh _ fun v F0 H0 s0 d0 => hf σ F0 H0 (hh.mono s0) _ fun u F1 H1 s2 d1 =>
  ⟨by show 2 ≤ 1000; decide, fun a ha => ⟨a, v, u, rfl, upd_same, fun dx hdx hne => by
    have s1 := s0.trans s2
    have hd0 : H1 dx = none := by rw [upd_ne hne] at hdx; exact hdx
    refine ⟨rfl, dx, [(h, u), (f, v)], ?_, upd_same, hd0, ?_⟩
    · rw [upd_ne (Ne.symm hne)]; exact upd_same
    · rw [heap2 ha hne]
      exact k dx [(h, u), (f, v)] F1 _ (hh.st.trans (s1.trans (Stp.mine s1.i hd0))) (old_free (hh.st.trans s1) hd0) (s1.i.free hd0) upd_same ⟨rfl, .cons d1 (.cons (s2.f.dp d v d0) .nil)⟩⟩⟩
end
/-- a def at hand that may raise -/
structure DfX (P : Program) (w : World) (K : PySem.W.Frag) (mg : Str → Option Value) (base : Heap) (k : Nat) (x : Str) (ps : List Str) (sp : Sp) : Prop where
  ex : ∃ f fd, FnOk P w K mg base (L2.CX P w) k f fd ps sp ∧ mg x = some (.ref f) ∧ PySem.W.keepIn K (.ref f) = true ∧ Binds K fd ps []
section
variable {P : Program} {w : World} {K : PySem.W.Frag} {mg : Str → Option Value} {base : Heap} {x qual : Str} {st : Stmt} {f : Addr} {fd : FuncData} {Nn ps : List Str} {k : Nat} {Tb : List Addr}
theorem df_X (F : Fun K x qual st f fd) (Sc : FnScope Nn ps (defScope st)) (hm : mg x = some (.ref f)) (hb : Binds K fd ps []) {R : List PyData → Out → Prop} (hlen : ∀ ds o, R ds o → ds.length = ps.length)
    (body : ∀ (cdv : Value) (A : Around) (outer : List Env) (s : Shared) (H : Hp) (E : XK), Room k (A.deeper (envOfC qual (defScope st) s.heap.objs.size f cdv)) →
      ∃ t, PSs (cxOf (L2.CX P w) P w K mg base Nn qual (defScope st) f cdv A outer s H E) (defBody st) t ∧ ∀ (ds : List PyData) (o : Out) (F0 H0 : Hp) (Q : VK), R ds o → OutOk ⟨K, Tb, F0, H0, F0⟩ Q E o → S ⟨K, Tb, F0, H0, F0⟩ t { nx := fun _ H' => Q .non H', rt := Q } (startG Nn.length ds)) :
    DfX P w K mg base (k + 1) x ps (spX K Tb R) := by
  refine ⟨f, fd, F.okX Sc (fun vs H Q E h => ?_) (fun cdv A outer s H vs Q E hr h => ?_), hm, F.kp, hb⟩
  · obtain ⟨F, ds, o, _, _, hd, r, _⟩ := h
    exact (dps_len hd).trans (hlen ds o r)
  · obtain ⟨F1, ds, o, sb, ht, hd, r, q⟩ := h
    obtain ⟨t, h1, h2⟩ := body cdv A outer s H E hr
    exact ⟨t, h1, h2 ds o F1 H Q r q _ F1 H (holds_start sb ht hd)⟩
end
end DW
/-! the class of a held exception with fields of its own, at the library's level -/
namespace DW
open PySem PySem.Spec PyProof.Rows L2
end DW
/-! isinstance of a held exception with fields of its own, both answers -/
namespace DW
open PySem PySem.Spec PyProof.Rows L2
end DW
/-! list(range(a, b, c)), max and min of two ints, isinstance of ints and bools, == of bools -/
namespace DW
open PySem PySem.Spec PyProof.Rows L2
variable [LamTabs]
def rMax2 : List V → Hp → VK → Prop := fun xs H Q => ∃ i j, xs = [.int i, .int j] ∧ Q (.int (if j > i then j else i)) H
def rMin2 : List V → Hp → VK → Prop := fun xs H Q => ∃ i j, xs = [.int i, .int j] ∧ Q (.int (if j < i then j else i)) H
theorem uMax2 {X : Cx} (hc : X.calm = true) : CallR X (.builtin "max") rMax2 := call_max2 hc
/-- a range with a positive step -/
def nR3 (a b c : Int) : Nat := if a < b then ((b - a - 1) / c + 1).toNat else 0
theorem rgC_pos {a b c : Int} (h0 : 0 < c) (h1 : c ≤ 1000000) (h2 : -1000000000 ≤ a) (h3 : a ≤ 1000000000) (h4 : -1000000000 ≤ b) (h5 : b ≤ 1000000000) : RgC a b c (nR3 a b c) ∧ nR3 a b c ≤ (b - a).toNat := by
  have z : a < b → 0 ≤ (b - a - 1) / c ∧ (b - a - 1) / c ≤ b - a - 1 := fun h => ⟨Int.ediv_nonneg (by omega) (by omega), Int.ediv_le_self _ (by omega)⟩
  have e : Builtin.Range.rangeSize a b c = (nR3 a b c : Int) := by
    unfold Builtin.Range.rangeSize nR3
    rw [if_pos (by omega : c > 0)]
    split
    · rename_i h; have := z h; omega
    · rfl
  have l : nR3 a b c ≤ (b - a).toNat := by
    unfold nR3
    split
    · rename_i h; have := z h; omega
    · omega
  refine ⟨⟨by omega, by omega, ?_, e⟩, l⟩
  unfold Builtin.Range.small
  rw [e]
  simp only [Builtin.Range.rangeFitsLong, Bool.and_eq_true, Bool.or_eq_true, decide_eq_true_eq, beq_iff_eq, if_pos (show c > 0 by omega)]
  omega
section
variable {g : Gd} {G : List Sl} {te ta tb tc : TE} {tt tu : TT} {d x y z : PyData} {ds es : List PyData} {i : Nat}
theorem max_i {a b : Int} : C1 g rMax2 [.int a, .int b] (.int (if b > a then b else a)) := fun vs H h Q q => by
  cases h with
  | cons h1 h => cases h with
    | cons h2 h => cases h; cases h1; cases h2; exact ⟨a, b, rfl, q _ (.int _)⟩
theorem min_i {a b : Int} : C1 g rMin2 [.int a, .int b] (.int (if b < a then b else a)) := fun vs H h Q q => by
  cases h with
  | cons h1 h => cases h with
    | cons h2 h => cases h; cases h1; cases h2; exact ⟨a, b, rfl, q _ (.int _)⟩
theorem isi_ib {K : PySem.W.Frag} : PySem.W.kitOne K (.type "int") (.type "bool") = some false := by
  unfold PySem.W.kitOne; rw [if_neg (by decide +kernel)]; rfl
theorem e_isiI {n : Int} (h : B g te G (.int n)) : E g (tCB (rIsi g.K) (tCons te (tCons (tC (.ty "int")) tNil))) G (.bool true) := fun σ F H hh Q q => h σ F H hh _ fun v F1 H1 s1 d1 => by
  cases d1
  exact ⟨.int n, .ty "int", .type "int", .type "int", true, rfl, .ty "int", .base (.int n), by unfold PySem.W.kitOne; rw [if_pos (by decide +kernel)], q _ F1 H1 s1 (.bl true)⟩
theorem e_isiIb {n : Int} (h : B g te G (.int n)) : E g (tCB (rIsi g.K) (tCons te (tCons (tC (.ty "bool")) tNil))) G (.bool false) := fun σ F H hh Q q => h σ F H hh _ fun v F1 H1 s1 d1 => by
  cases d1
  exact ⟨.int n, .ty "bool", .type "int", .type "bool", false, rfl, .ty "bool", .base (.int n), isi_ib, q _ F1 H1 s1 (.bl false)⟩
theorem e_isiBb {b : Bool} (h : B g te G (.bool b)) : E g (tCB (rIsi g.K) (tCons te (tCons (tC (.ty "bool")) tNil))) G (.bool true) := fun σ F H hh Q q => h σ F H hh _ fun v F1 H1 s1 d1 => by
  cases d1
  exact ⟨.bl b, .ty "bool", .type "bool", .type "bool", true, rfl, .ty "bool", .base (.bl b), by unfold PySem.W.kitOne; rw [if_pos (by decide +kernel)], q _ F1 H1 s1 (.bl true)⟩
theorem eqv_bool (a b : Bool) : PyData.eqv (.bool a) (.bool b) = decide (a = b) := by cases a <;> cases b <;> rfl
theorem shp_bool (a : Bool) : SeqAt.shaped (.bool a) = true := by cases a <;> decide +kernel
theorem eq_b {a b : Bool} : RB g (rEqU g.K) (.bool a) (.bool b) (.bool (decide (a = b))) := eqv_bool a b ▸ eqd (shp_bool a) (shp_bool b)
theorem ne_b {a b : Bool} : RB g (rNeU g.K) (.bool a) (.bool b) (.bool (!decide (a = b))) := eqv_bool a b ▸ ned (shp_bool a) (shp_bool b)
end
end DW
/-! slices of tuples, is not None, options as data -/
namespace DW
open PySem PySem.Spec PyProof.Rows L2
variable [LamTabs]
def rNotN : R2 := fun x y H Q => y = .non ∧ Q (.bl (!decide (x = .non))) H
theorem uNotN {X : Cx} : OpR X (compareOp .IsNot) rNotN := op_notN
section
variable {g : Gd} {G : List Sl} {te ta tb tc : TE} {tt tu : TT} {d x y z : PyData} {ds es : List PyData} {i : Nat}
theorem nis_n : RB g rNotN x .none (.bool (!isND x)) := fun u v H hu hv Q q => by
  cases hv
  refine ⟨rfl, ?_⟩
  have e : decide (u = V.non) = isND x := by
    cases hu with
    | non => exact decide_eq_true rfl
    | bl b => exact decide_eq_false fun z => by cases z
    | int b => exact decide_eq_false fun z => by cases z
    | str b => exact decide_eq_false fun z => by cases z
    | lst _ _ => exact decide_eq_false fun z => by cases z
    | tup _ _ => exact decide_eq_false fun z => by cases z
  rw [e]; exact q _ (.bl _)
end
def oD : Option Int → PyData
  | none => .none
  | some x => .int x
theorem isND_oD (x : Option Int) : isND (oD x) = x.isNone := by cases x <;> rfl
end DW
/-! [x] * n -/
namespace DW
open PySem PySem.Spec PyProof.Rows L2
end DW
/-! all([..]), any([..]) of bools -/
namespace DW
open PySem PySem.Spec PyProof.Rows L2
end DW
/-! all, any of a generator expression whose element calls: the body runs in a context of its own -/
namespace GA
open PySem PySem.Spec PyProof.Rows L2 GxR GenW
/-- the context of a generator expression's body -/
abbrev gblk (X : Cx) (s : Shared) (H : Hp) (cenv : Env) (fp : List Addr) (A : Around) (pn : List (Addr × Obj)) : Cx :=
  { X with s_0 := s, H_0 := H, env := cenv, outer := X.stack, stack := cenv :: X.stack, A := A, ex := fp, fn := fun _ => false, pn := pn, xe := fun _ _ => False }
abbrev genv (X : Cx) (scope : Scope) (C : Addr) (code : Value) : Env := genEnv scope (cloFrom X.env.cells scope.names []) C code builtinsNs X.env
section
variable {X : Cx} {pins : List (Addr × Obj)} {σ : L2.St} {H : Hp} {s : Shared}
theorem gen_start {scope : Scope} {own : List (Str × Nat)} {fp : List Addr} {A : Around} {code : Value} {a : Addr} {gobj : Obj} {h6 : Heap} {g6 : Array GenState} {t6 : Nat} {m0 : Str → Option Value} (I : Inv X pins σ H s) (ok : BlkOk X.N X.env.scope scope own) (hN : X.N.Nodup) (hcell : ∀ y ∈ scope.names, y.2 ≠ .cell)
    (hfp : ∀ b ∈ fp, FpOk X pins H b ∧ b < s.heap.objs.size) (hhd : A.handled = none) (hfr : A.frames = some (genv X scope s.heap.objs.size code :: X.stack)) (kp : ∀ b o, s.heap.get? b = some o → h6.get? b = some o) (hns : h6.Ns s.heap.objs.size m0) (ha : s.heap.objs.size < a) (hga : h6.get? a = some gobj)
    (hgd : ∀ v, gobj.data ≠ .cell v) (hg6 : AllBare g6) :
    Inv (gblk X s H (genv X scope s.heap.objs.size code) fp A [(a, gobj)]) [] (wipe σ (own.map (·.2))) H { s with heap := h6, gens := g6, toks := t6 } := by
  have hfree : ∀ y ∈ scope.names, y.2 = .free → ∃ c, X.env.cells.lookup y.1 = some c := fun y hy e => by
    rcases ok.free y hy e with k | k
    · exact I.ok.has _ (.inl k)
    · exact I.ok.has _ (.inr k)
  generalize hcenv : genv X scope s.heap.objs.size code = cenv at hfr ⊢
  have hL : cenv.locals = s.heap.objs.size := by rw [← hcenv]; rfl
  have hcl : cenv.cells = cloFrom X.env.cells scope.names [] := by rw [← hcenv]; rfl
  have hsc : cenv.scope = scope := by rw [← hcenv]; rfl
  have cm : ∀ {y c}, (y, c) ∈ cloFrom X.env.cells scope.names [] → X.env.cells.lookup y = some c ∧ c < s.heap.objs.size := fun {y c} hm => by
    rcases cloFrom_mem hm with hm | ⟨h1, rfl⟩
    · cases hm
    · obtain ⟨c, hc⟩ := hfree _ h1 rfl
      rw [hc]
      obtain ⟨w, z⟩ := I.cell _ _ hc
      exact ⟨rfl, z.lt⟩
  have mem : ∀ {y c}, cenv.cells.lookup y = some c → X.env.cells.lookup y = some c ∧ c < s.heap.objs.size := fun {y c} e => by
    rw [hcl] at e
    exact cm (PySem.mem_of_lookup e)
  have look : ∀ {y}, scope.names.lookup y = some .free → ∃ c, cenv.cells.lookup y = some c ∧ X.env.cells.lookup y = some c := fun {y} hl => by
    obtain ⟨c', e'⟩ := L2.mem_lookup (cloFrom_has (cells := X.env.cells) (acc := []) (PySem.mem_of_lookup hl))
    rw [← hcl] at e'
    exact ⟨c', e', (mem e').1⟩
  have vis : ∀ {y}, Vis cenv.scope y → scope.names.lookup y = some .local ∨ scope.names.lookup y = some .free := fun {y} h => by
    rw [hsc] at h
    rcases h with h | h | h
    · exact .inl h
    · exact absurd rfl (hcell _ (PySem.mem_of_lookup h))
    · exact .inr h
  have okB : (gblk X s H cenv fp A [(a, gobj)]).Ok := by
    refine ⟨I.ok.mod, by show cenv.scope.kind = _; rw [hsc]; exact ok.kind, by show cenv.globals = _; rw [← hcenv]; exact I.ok.glob, by show cenv.builtins = _; rw [← hcenv]; rfl, by show s.heap.objs.size ≤ cenv.locals; rw [hL]; exact Nat.le_refl _,
      fun y z c e1 e2 => I.ok.inj y z c (mem e1).1 (mem e2).1, fun y hy => ?_, fun y c z e => ?_, fun _ => hhd, hfr, .inr ⟨rfl, by show cenv.frame = some cenv.locals; rw [← hcenv]; rfl⟩, fun b hb => ⟨?_, fun y c e z => ?_⟩, I.bs, Nat.le_trans I.ok.bsz I.sz, fun b o e hb => ?_, fun b hb z => ?_, I.stack, I.stkFree⟩
    · show ∃ c, cenv.cells.lookup y = some c
      rcases hy with hy | hy
      · have hy : cenv.scope.names.lookup y = some .cell := hy
        rw [hsc] at hy
        exact absurd rfl (hcell _ (PySem.mem_of_lookup hy))
      · have hy : cenv.scope.names.lookup y = some .free := hy
        rw [hsc] at hy
        obtain ⟨c, h1, _⟩ := look hy
        exact ⟨c, h1⟩
    · cases z
    · show b ≠ cenv.locals
      rw [hL]; exact Nat.ne_of_lt (hfp b hb).2
    · exact (hfp b hb).1.2.2.2.2.1 y c (mem e).1 z
    · rcases (hfp b hb).1.2.2.2.1 with z | z
      · exact I.ok.noex b o e z
      · exact absurd (Nat.lt_of_lt_of_le (Heap.lt_size e) (Nat.le_trans I.ok.bsz z)) (Nat.lt_irrefl _)
    · rcases List.mem_cons.mp (I.stkSub b z) with z | z
      · exact (hfp b hb).1.2.1 z
      · exact (hfp b hb).1.2.2.1 z
  refine ⟨okB, rfl, hg6, Un.kept kp, ⟨m0, by show Heap.Ns _ cenv.locals _; rw [hL]; exact hns, fun i y av e1 e2 e3 => ?_⟩, fun y c e => ?_, ?_, fun y c e => I.freeC y c (mem e).1, fun p hp => ?_, I.hok.kept kp, by rw [wipe_length]; exact I.len⟩
  · obtain ⟨e2, hne⟩ := wipe_some e2
    have hfr : scope.names.lookup y = some .free := by
      rcases vis e3 with e | e
      · rcases ok.own _ (PySem.mem_of_lookup e) (.inl rfl) with e' | e'
        · obtain ⟨p, hp, hpy⟩ := List.mem_map.mp e'
          have e3 := ok.ix p hp
          have : p.1 = y := hpy
          rw [this] at e3
          exact absurd (List.mem_map.mpr ⟨p, hp, nodup_ix hN e3 e1⟩) hne
        · exact absurd (List.mem_of_getElem? e1) e'
      · exact e
    obtain ⟨m, hn, hl⟩ := I.loc
    have hvis : Vis X.env.scope y := (ok.free _ (PySem.mem_of_lookup hfr) rfl).elim (fun k => .inr (.inl k)) (fun k => .inr (.inr k))
    obtain ⟨w, r, q⟩ := hl i y av e1 e2 hvis
    refine ⟨w, r, .inr ⟨.inr (by show cenv.scope.names.lookup y = _; rw [hsc]; exact hfr), ?_⟩⟩
    obtain ⟨c, h1, h2⟩ := look hfr
    rcases q with ⟨k, _⟩ | ⟨_, c', e', z⟩
    · have k : X.env.scope.names.lookup y = some .local := k
      rcases ok.free _ (PySem.mem_of_lookup hfr) rfl with k' | k' <;> rw [show X.env.scope.names.lookup y = _ from k'] at k <;> cases k
    · rw [h2] at e'; cases e'
      exact ⟨c, h1, z.keeps kp⟩
  · obtain ⟨w, z⟩ := I.cell y c (mem e).1
    exact ⟨w, z.keeps kp⟩
  · show H cenv.locals = none
    rw [hL]; exact I.hok.fresh (Nat.le_refl _)
  · have hp : p = (a, gobj) := by simpa using hp
    subst hp
    refine ⟨hga, I.hok.fresh (Nat.le_of_lt ha), by show a ≠ cenv.locals; rw [hL]; exact Nat.ne_of_gt ha, fun hb => ?_, hgd⟩
    have hb : a ∈ frs X.stack := hb
    rcases List.mem_cons.mp (I.stkSub a hb) with z | z
    · have := I.lt; rw [← z] at this; exact absurd (Nat.lt_trans this ha) (Nat.lt_irrefl _)
    · exact I.nofs (Nat.le_of_lt ha) z
/-- the generators have changed -/
theorem inv_gens {s' : Shared} (I : Inv X pins σ H s) (hh : s'.heap = s.heap) (ho : s'.os = s.os) (hb : AllBare s'.gens) : Inv X pins σ H s' :=
  ⟨I.ok, ho.trans I.os, hb, hh ▸ I.base, hh ▸ I.loc, hh ▸ I.cell, I.free, I.freeC, hh ▸ I.pin, hh ▸ I.hok, I.len⟩
end
theorem over_comp {A : Around} {elt tg iter : Expr} {scope : Scope} {pos : Pos} {it acc : Value} {cenv : Env} : A.over (.compLoop (.GeneratorExp elt [⟨tg, iter, [], 0⟩] scope pos) 0 it acc cenv) [] = A.deeper cenv := by
  first
    | rfl
    | (obtain ⟨hd, d, fr, gs, u⟩ := A; simp [Around.over, Around.deeper, marksOver, frameCount, unitsOf, envsOf, guardsOf, pushEnvs, pushGuards, Code.envs, Code.env?, Code.isFrame, Code.guards, Code.isGuard, Code.weight, Code.frames, Code.isCreation, Code.isCaller, Code.cUnits])
end GA
namespace GA
open PySem PySem.Spec PyProof.Rows L2 GxR GenW
/-- an item has come: it ends the walk, or the walk goes on -/
def Yp (Xg : Cx) (e : Bool) (Q : VK) : Protocol := fun _ _ v s1 kap => ∃ (b : Bool) (σ' : L2.St) (H' : Hp), v = .bool b ∧ L2.Inv Xg [] σ' H' s1 ∧ (b = e → Q (.bl e) H') ∧ (b ≠ e → ∀ s', s'.heap = s1.heap → s'.os = s1.os → AllBare s'.gens → kap (.send .none) s')
def Fp (Xg : Cx) (e : Bool) (Q : VK) : Nat → Shared → Shared → Prop := fun _ _ s1 => ∃ (σ' : L2.St) (H' : Hp), L2.Inv Xg [] σ' H' s1 ∧ Q (.bl (!e)) H'
def Rp (Xg : Cx) (e : Bool) (Q : VK) : GenEnd := fun n s₀ r s1 => ((r = .ok (.ret .none) ∨ r = .ok .next) ∧ Fp Xg e Q n s₀ s1) ∨ ∃ x, r = .error x ∧ (fun (_ : Value) (_ : Shared) => False) x s1
/-- what a turn must do -/
def Turns (J : It) (g : TG) (te : TE) (vs : List Nat) (σ : L2.St) (e : Bool) (Q : VK) (n : Nat) (W : Nat → Hp → Prop) : Prop :=
  ∀ i H, W i H → (i = n ∧ J.stop i H ∧ Q (.bl (!e)) H) ∨ (i < n ∧ J.go i H ∧ ∀ x H', J.yld i H x H' → g x (wipe σ vs) H' fun σ2 H2 => wipe σ2 vs = wipe σ vs ∧ te σ2 H2 fun y H3 => ∃ b, y = .bl b ∧ ((b = e ∧ Q (.bl e) H3) ∨ (b ≠ e ∧ W (i + 1) H3)))
theorem seg_loop {X : Cx} {s4 : Shared} {H4 : Hp} {cenv : Env} {fp : List Addr} {Aq : Around} {it : Addr} {pn : List (Addr × Obj)} {elt tg iter : Expr} {scope : Scope} {pos : Pos} {J : It} {tn : Nat → Heap → Prop} {g : TG} {te : TE} {vs : List Nat} {σ : L2.St} {e : Bool} {Q : VK} {n : Nat} {W : Nat → Hp → Prop}
    (hc : X.calm = true) (hco : cenv.scope.isCoroutine = false) (hpn : ∀ b ∈ fp, ∀ p ∈ pn, p.1 ≠ b) (T : Turn X.prog X.w X.K tg J fp it tn)
    (pg : PG (gblk X s4 H4 cenv fp (Aq.over (.compLoop (.GeneratorExp elt [⟨tg, iter, [], 0⟩] scope pos) 0 (.ref it) .none cenv) []) pn) tg g)
    (pe : PE (gblk X s4 H4 cenv fp (Aq.over (.compLoop (.GeneratorExp elt [⟨tg, iter, [], 0⟩] scope pos) 0 (.ref it) .none cenv) []) pn) elt te)
    (turn : Turns J g te vs σ e Q n W) :
    ∀ (k i : Nat) (s₀ s : Shared) (H : Hp), n - i = k → L2.Inv (gblk X s4 H4 cenv fp (Aq.over (.compLoop (.GeneratorExp elt [⟨tg, iter, [], 0⟩] scope pos) 0 (.ref it) .none cenv) []) pn) [] (wipe σ vs) H s → tn i s.heap → (∀ b ∈ fp, H b = none) → W i H →
      Seg (model X.prog X.w) Aq (Rp (gblk X s4 H4 cenv fp (Aq.over (.compLoop (.GeneratorExp elt [⟨tg, iter, [], 0⟩] scope pos) 0 (.ref it) .none cenv) []) pn) e Q) (Yp (gblk X s4 H4 cenv fp (Aq.over (.compLoop (.GeneratorExp elt [⟨tg, iter, [], 0⟩] scope pos) 0 (.ref it) .none cenv) []) pn) e Q) k s₀
        (.compLoop (.GeneratorExp elt [⟨tg, iter, [], 0⟩] scope pos) 0 (.ref it) .none cenv) ((model X.prog X.w).den (.compLoop (.GeneratorExp elt [⟨tg, iter, [], 0⟩] scope pos) 0 (.ref it) .none cenv)) [] s := by
  generalize hXg : gblk X s4 H4 cenv fp (Aq.over (.compLoop (.GeneratorExp elt [⟨tg, iter, [], 0⟩] scope pos) 0 (.ref it) .none cenv) []) pn = Xg at pg pe ⊢
  have hA : Xg.A = Aq.over (.compLoop (.GeneratorExp elt [⟨tg, iter, [], 0⟩] scope pos) 0 (.ref it) .none cenv) [] := by rw [← hXg]
  have hP : Xg.prog = X.prog := by rw [← hXg]
  have hW : Xg.w = X.w := by rw [← hXg]
  have hK : Xg.K = X.K := by rw [← hXg]
  have hC : Xg.calm = true := by rw [← hXg]; exact hc
  have hE : Xg.env = cenv := by rw [← hXg]
  have hxe : Xg.xe = fun _ _ => False := by rw [← hXg]
  have stat : ∀ {σ' : L2.St} {H' : Hp} {s' : Shared}, L2.Inv Xg [] σ' H' s' → (∀ b ∈ fp, H' b = none) → ∀ b ∈ fp, FpOk Xg [] H' b := fun {σ' H' s'} I' hn b hb => by
    subst hXg
    exact ⟨hn b hb, (I'.ok.exf b hb).1, I'.ok.exfs b hb, .inl hb, fun x c e => (I'.ok.exf b hb).2 x c e, fun p hp => by
      rcases List.mem_append.mp hp with z | z
      · exact hpn b hb p z
      · cases z⟩
  intro k
  induction k with
  | zero =>
    intro i s₀ s H hk I st hn w
    rcases turn i H w with ⟨hi, stop, q⟩ | ⟨hi, _⟩
    · show Seg _ Aq _ _ _ s₀ _ ((compTurn (.GeneratorExp elt [⟨tg, iter, [], 0⟩] scope pos) 0 (.ref it) .none cenv).onRaise (leaving cenv)) [] s
      rw [compTurn_gen, Sem.onRaise_eq_wrap]
      refine seg_bind_wrap (wpAny_standAt ?_)
      have td := T.done Xg hP hW hK hC i [] s _ H (fun _ _ => False) I (stat I hn) st stop
      rw [hA] at td
      refine seg_bind_wrap (thnF td fun r s1 ⟨hr, I1⟩ => ?_)
      subst hr
      exact seg_end (.ok .next) (.inl ⟨.inr rfl, _, H, I1, q⟩)
    · omega
  | succ k ih =>
    intro i s₀ s H hk I st hn w
    rcases turn i H w with ⟨hi, _⟩ | ⟨hi, go, step⟩
    · omega
    · show Seg _ Aq _ _ _ s₀ _ ((compTurn (.GeneratorExp elt [⟨tg, iter, [], 0⟩] scope pos) 0 (.ref it) .none cenv).onRaise (leaving cenv)) [] s
      rw [compTurn_gen, Sem.onRaise_eq_wrap]
      refine seg_bind_wrap (wpAny_standAt ?_)
      have ti := T.item Xg hP hW hK hC i [] s _ H (fun _ _ => False) I (stat I hn) st go
      rw [hA] at ti
      refine seg_bind_wrap (thnF ti fun r s6 ⟨u, hr, h6⟩ => ?_)
      subst hr
      refine seg_bind_wrap (thnF h6 fun _ s7 ⟨x, H7, I7, r7, y7, st7, n7⟩ => ?_)
      have I7' := I7.pinned (stat I7 n7) (T.obj _ _ st7)
      have pgr := pg.run _ s7 _ H7 x u _ I7' r7 (step x H7 y7)
      rw [hxe, hA, hP, hW, hE] at pgr
      refine seg_bind_wrap (thnF pgr fun _ s8 ⟨σ8, H8, I8, hw8, q8⟩ => ?_)
      refine seg_bind_wrap (wpAny_tests_nil ?_)
      simp only [if_true]
      have hy : ∀ v, yieldOut cenv v = yieldValue v := fun v => by simp only [yieldOut, hco, Bool.false_eq_true, if_false]
      simp only [hy]
      rw [Sem.bind_eq_wrap', Sem.bind_eq_wrap', Sem.wrap_wrap, Sem.wrap_wrap]
      have per := pe.run _ s8 σ8 H8 _ I8 q8
      rw [hxe, hA, hP, hW, hE] at per
      refine seg_wrap (thnF per fun v s10 ⟨yv, H10, I10, r10, b, hyb, nx⟩ => ?_)
      subst hyb
      obtain rfl : v = Value.bool b := r10
      have pin' : ∀ b ∈ fp, ∀ o, s7.heap.get? b = some o → s10.heap.get? b = some o ∧ H10 b = none := fun b hb o e =>
        let z := I10.pin (b, o) (List.mem_append_right _ (List.mem_append_right _ (mem_pinsAt hb e)))
        ⟨z.1, z.2.1⟩
      have hl : (wipe σ vs).length = σ8.length := by rw [← hw8, wipe_length]
      have I11 : L2.Inv Xg [] (wipe σ vs) H10 s10 := (I10.unpinned (pins := [])).weak hl fun j v e => by
        rw [← hw8] at e
        exact (wipe_some e).1
      refine seg_at (seg_yield rfl rfl rfl ⟨b, _, H10, rfl, I11, fun hb => ?_, fun hb s' hs' ho' hg' => ?_⟩)
      · rcases nx with ⟨_, q⟩ | ⟨hne, _⟩
        · exact q
        · exact absurd hb hne
      · rcases nx with ⟨he, _⟩ | ⟨_, w'⟩
        · exact absurd he hb
        · refine seg_again rfl (ih (i + 1) s' s' H10 (by omega) (inv_gens I11 hs' ho' hg') (by rw [hs']; exact T.keep _ _ _ st7 fun b hb o e => (pin' b hb o e).1) (fun b hb => ?_) w')
          obtain ⟨o, e, _⟩ := T.obj _ _ st7 b hb
          exact (pin' b hb o e).2
end GA
namespace GA
open PySem PySem.Spec PyProof.Rows L2 GxR GenW
theorem seg_start {P : Program} {w : World} {K : PySem.W.Frag} {A : Around} {fp : List Addr} {it : Addr} {elt tg iter : Expr} {scope : Scope} {pos : Pos} {J : It} {tn : Nat → Heap → Prop} {cenv : Env} {R : GenEnd} {Y : Protocol} {n : Nat} {s₀ s : Shared} (T : Turn P w K tg J fp it tn) (st : tn 0 s.heap)
    (loop : Seg (model P w) A R Y n s₀ (.compLoop (.GeneratorExp elt [⟨tg, iter, [], 0⟩] scope pos) 0 (.ref it) .none cenv) ((model P w).den (.compLoop (.GeneratorExp elt [⟨tg, iter, [], 0⟩] scope pos) 0 (.ref it) .none cenv)) [] s) :
    Seg (model P w) A R Y n s₀ (.compStart (.GeneratorExp elt [⟨tg, iter, [], 0⟩] scope pos) 0 (.ref it) .none cenv) ((model P w).den (.compStart (.GeneratorExp elt [⟨tg, iter, [], 0⟩] scope pos) 0 (.ref it) .none cenv)) [] s := by
  show Seg _ A _ _ _ s₀ _ ((compStart (.GeneratorExp elt [⟨tg, iter, [], 0⟩] scope pos) 0 (.ref it) .none cenv).onRaise (leaving cenv)) [] s
  unfold compStart
  rw [Sem.onRaise_eq_wrap]
  show Seg _ A _ _ _ s₀ _ ((ask >>= _).wrap _ _ _ _) [] s
  refine seg_bind_wrap (wpAny_askSetting ?_)
  split
  · exact seg_again rfl loop
  · first
      | exact seg_bind_wrap (wpAny_rule (seg_bind_wrap (wpAny_standAt (seg_bind_wrap (T.self _ 0 s _ _ st (seg_again rfl loop))))))
      | (refine seg_bind_wrap (wpAny_rule ?_); show Seg _ A _ _ _ s₀ _ ((standAt iter.pos >>= _).wrap _ _ _ _) [] s; exact seg_bind_wrap (wpAny_standAt (seg_bind_wrap (T.self _ 0 s _ _ st (seg_again rfl loop)))))
/-- the walk of all -/
theorem all_loop {P : Program} {w : World} {A : Around} {Xg : Cx} {Q : VK} {a : Addr} {g : Nat} {R : Result → Shared → Prop} (hh : A.handled = none) (hd : A.depth < recursionLimit) (isg : ∀ {σ' H' s'}, L2.Inv Xg [] σ' H' s' → s'.heap.IsGen a g)
    (hR : ∀ b (σ' : L2.St) H' s', L2.Inv Xg [] σ' H' s' → Q (.bl b) H' → R (.ok (.ret (.bool b))) s') :
    ∀ (m : Nat) (s : Shared) (σ' : L2.St) (H' : Hp), L2.Inv Xg [] σ' H' s → (∃ gs, s.gens[g]? = some gs ∧ gs.Goes (model P w) A.in1.in1 (Rp Xg false Q) (Yp Xg false Q) m (.send .none) (s.setGen g .running)) →
      codeAny (model P w) A (.builtin "all.loop" ⟨[.ref a], []⟩) R s := by
  intro m
  induction m with
  | zero =>
    intro s σ' H' I ⟨gs, hgs, hgo⟩
    refine codeAny_builtin F.entry_all_loop ?_
    rw [Around.under_plainId F.plain_all_loop _]
    show wpAny _ A.in1 (pyNext (.ref a) >>= _) _ _ s
    refine wpAny_bind (next_genG (A := A.in1) hh I.nolimit hd (isg I) hgs hgo (fun v s₁ gs' hbare hv => ?_) (fun s₁ hp h' hk => ?_) fun e s₁ he => he.elim)
    · obtain ⟨b, σ1, H1, rfl, I1, h1, h2⟩ := hv
      refine wpAny_bind (wpAny_holding (wpAny_truthy_bool ?_))
      refine wpAny_bind (wpAny_letGo ?_)
      cases b with
      | true => exact False.elim (h2 (by decide) s₁ rfl rfl I1.bare)
      | false =>
        simp only [Bool.false_eq_true, if_false]
        refine wpAny_bind (wpAny_rule (wpAny_pure ?_))
        exact hR false σ1 H1 _ (inv_gens I1 rfl rfl (allBare_setGen I1.bare hbare)) (h1 rfl)
    · obtain ⟨σ1, H1, I1, q⟩ := hp
      refine wpAny_bind (wpAny_rule (wpAny_pure ?_))
      have I2 := inv_gens (s' := s₁.setGen g .finished) I1 rfl rfl (allBare_setGen I1.bare rfl)
      exact hR true σ1 H1 _ (I2.kept (t' := (s₁.setGen g .finished).toks) hk) q
  | succ m ih =>
    intro s σ' H' I ⟨gs, hgs, hgo⟩
    have hgl : g < s.gens.size := (Array.getElem?_eq_some_iff.mp hgs).1
    refine codeAny_builtin F.entry_all_loop ?_
    rw [Around.under_plainId F.plain_all_loop _]
    show wpAny _ A.in1 (pyNext (.ref a) >>= _) _ _ s
    refine wpAny_bind (wpAny_gsz (n := g + 1) hgl (next_genG (A := A.in1) hh I.nolimit hd (isg I) hgs hgo (fun v s₁ gs' hbare hv => ?_) (fun s₁ hp h' hk => ?_) fun e s₁ he => he.elim))
    · intro hsz
      obtain ⟨b, σ1, H1, rfl, I1, h1, h2⟩ := hv
      refine wpAny_bind (wpAny_holding (wpAny_truthy_bool ?_))
      refine wpAny_bind (wpAny_letGo ?_)
      have I2 := inv_gens (s' := s₁.setGen g gs') I1 rfl rfl (allBare_setGen I1.bare hbare)
      cases b with
      | true =>
        simp only [if_true]
        have hsz1 : g < s₁.gens.size := by
          have q : (s₁.setGen g gs').gens.size = s₁.gens.size := setGen_size _ _ _
          have hsz' : g + 1 ≤ (s₁.setGen g gs').gens.size := hsz
          omega
        refine wpAny_pure ⟨plainId_quiet F.plain_all_loop _, ih (s₁.setGen g gs') σ1 H1 I2 ⟨gs', setGen_at hsz1, ?_⟩⟩
        exact h2 (by decide) _ rfl rfl (allBare_setGen I2.bare rfl)
      | false =>
        simp only [Bool.false_eq_true, if_false]
        refine wpAny_bind (wpAny_rule (wpAny_pure ?_))
        exact hR false σ1 H1 _ I2 (h1 rfl)
    · intro _
      obtain ⟨σ1, H1, I1, q⟩ := hp
      refine wpAny_bind (wpAny_rule (wpAny_pure ?_))
      have I2 := inv_gens (s' := s₁.setGen g .finished) I1 rfl rfl (allBare_setGen I1.bare rfl)
      exact hR true σ1 H1 _ (I2.kept (t' := (s₁.setGen g .finished).toks) hk) q
end GA
namespace GA
open PySem PySem.Spec PyProof.Rows L2 GxR GenW
/-- all(elt for tg in iter) (e: False ends it), any (e: True ends it); P: the def's table of code objects, which may grow -/
def tQuant (P : Addr) (e : Bool) (wi : TI) (g : TG) (te : TE) (vs : List Nat) : TE := fun σ H Q => wi σ H fun J H1 => TabG H1 P ∧ ∀ H2, Tabbed P H1 H2 → ∃ (n : Nat) (W : Nat → Hp → Prop), W 0 H2 ∧ Turns J g te vs σ e Q n W
/-- a generator, ready to be walked -/
def Made (X : Cx) (pins : List (Addr × Obj)) (σ : L2.St) (e : Bool) (Q : VK) (u : Value) (s6 : Shared) : Prop :=
  ∃ (a : Addr) (g n : Nat) (Xg : Cx) (σ' : L2.St) (H' : Hp), u = .ref a ∧ (∀ {σ' H' s'}, L2.Inv Xg [] σ' H' s' → s'.heap.IsGen a g) ∧ L2.Inv Xg [] σ' H' s6 ∧
    (∃ gs, s6.gens[g]? = some gs ∧ gs.Goes (model X.prog X.w) X.A.in1.in1 (Rp Xg e Q) (Yp Xg e Q) n (.send .none) (s6.setGen g .running)) ∧ ∀ (σ' : L2.St) H' s', L2.Inv Xg [] σ' H' s' → L2.Inv X pins σ H' s'
section
variable {X : Cx} {pins : List (Addr × Obj)} {σ : L2.St} {H : Hp} {s : Shared}
theorem gen_make {c P : Addr} {elt iter tg : Expr} {gpos : Pos} {scope : Scope} {own : List (Str × Nat)} {wi : TI} {g : TG} {te : TE} {k : Nat} {e : Bool} {Q : VK} (hr : Room (k + 1) X.A) (hc : X.calm = true) (hN : X.N.Nodup) (TB : TabB X.base X.mg c P) (hcode : X.env.code = .ref c) (ok : BlkOk X.N X.env.scope scope own)
    (hco : scope.isCoroutine = false) (hcell : ∀ y ∈ scope.names, y.2 ≠ .cell) (h0 : scope.names.lookup (".0" : Str) = some NameKind.local) (hi : PI X tg iter wi)
    (pg : ∀ (s : Shared) (H : Hp) (C : Addr) (code : Value) (fp : List Addr) (A : Around) (pn : List (Addr × Obj)), PG (gblk X s H (genv X scope C code) fp A pn) tg g)
    (pe : ∀ (s : Shared) (H : Hp) (C : Addr) (code : Value) (fp : List Addr) (A : Around) (pn : List (Addr × Obj)), Room k A → PE (gblk X s H (genv X scope C code) fp A pn) elt te)
    (hs : ∀ v, genFold iter X.env v = pure v) (I : L2.Inv X pins σ H s) (h : tQuant P e wi g te (own.map (·.2)) σ H Q) :
    wpAny (model X.prog X.w) X.A (eval (.GeneratorExp elt [⟨tg, iter, [], 0⟩] scope gpos) X.env) (Made X pins σ e Q) X.xe s := by
  have hfree : ∀ y ∈ scope.names, y.2 = .free → ∃ c, X.env.cells.lookup y.1 = some c := fun y hy e => by
    rcases ok.free y hy e with k | k
    · exact I.ok.has _ (.inl k)
    · exact I.ok.has _ (.inr k)
  refine wpAny_GeneratorExp_make hco (closure_ok hfree) hcell h0 ok.kind (by have := hr.dp; omega) ?_ hs
  refine thn (hi.run pins s σ H _ I h) fun xv s1 hx => thn hx fun itv s2 h2 => ?_
  obtain ⟨it, fp, tn, J, H2, rfl, I2, T, st2, f2, ⟨ps, hP, ht⟩, q⟩ := h2
  have hPs : s2.heap.get? P = some { cls := .none, data := .fields ps } := I2.hok P _ hP
  have hPlt : P < s2.heap.objs.size := Heap.lt_size hPs
  have cd : PySem.W.CodeHd s2.heap c P := TB.code.keeps fun b u e => I2.bk b u e
  refine ⟨I2.nolimit, ?_⟩
  have cont : ∀ (code : Value) (h3 : Heap) (tk : Nat) (ps' : Array Value), Heap.ExtBut P s2.heap h3 → s2.heap.objs.size ≤ h3.objs.size → h3.get? P = some { cls := .none, data := .fields ps' } → (∃ more, ps' = ps ++ more) → TriplesOk ps'.toList →
      wpAny (model X.prog X.w) X.A (builtinsFor X.env.globals X.env.builtins) (fun bi s₄ =>
        ∀ h', h'.Ns s₄.heap.objs.size (fun y => if y = ".0" then some (.ref it) else none) → Heap.SameBut s₄.heap.objs.size (s₄.heap.push { cls := .type "frame", data := .dict #[] }) h' →
          Made X pins σ e Q (.ref h'.objs.size) { s₄ with
            gens := s₄.gens.push (.fresh (.compStart (.GeneratorExp elt [⟨tg, iter, [], 0⟩] scope gpos) 0 (.ref it) .none (genEnv scope (cloFrom X.env.cells scope.names []) s₄.heap.objs.size code bi X.env))),
            toks := s₄.toks + 1 + 1 + 1,
            heap := h'.push { cls := .type "generator", data := .fields #[.int s₄.gens.size 0, .str "<genexpr>" (s₄.toks + 1), .str (X.env.qual ++ "<genexpr>") (s₄.toks + 1 + 1)] } }) X.xe { s2 with heap := h3, toks := tk } := by
    intro code h3 tk ps' hx hsz hP3 hmore ht3
    obtain ⟨bm, ob, e1, e2, e3, e4, e5, e6, e7, e8⟩ := TB.bm
    have keep3 : ∀ b u, b ≠ P → s2.heap.get? b = some u → h3.get? b = some u := fun b u hb e => hx b u hb e
    refine wpAny_builtinsFor (m := X.mg) (by rw [I2.ok.glob]; exact (I2.mod.glob.keeps I2.bk).extBut hx TB.gP) e1 e2 (keep3 _ _ e4 (I2.bk _ _ e5)) e6 e7 e8 ?_
    intro h' hn' hs'
    obtain ⟨more, em⟩ := hmore
    subst em
    have I4 := inv_tab (more := more) (h' := h3) (g' := s2.gens) (d' := s2.drawn) (t' := tk) I2 hP keep3 hP3 I2.bare
    generalize hs4 : ({ s2 with heap := h3, gens := s2.gens, drawn := s2.drawn, toks := tk } : Shared) = s4 at I4
    generalize hH4 : upd H2 P (.tbl (ps ++ more)) = H4 at I4
    have tab : Tabbed P H2 H4 := by rw [← hH4]; exact ⟨⟨ps ++ more, upd_same, ht3⟩, fun b hb => upd_ne hb⟩
    obtain ⟨n, W, w0, turn⟩ := q H4 tab
    have e4h : s4.heap = h3 := by rw [← hs4]
    have e4g : s4.gens = s2.gens := by rw [← hs4]
    have nP : ∀ b ∈ fp, b ≠ P := fun b hb z => by have := (f2 b hb).1; rw [z, hP] at this; cases this
    have szf : ∀ b ∈ fp, b < s2.heap.objs.size := fun b hb => by
      obtain ⟨o, e, _⟩ := T.obj _ _ st2 b hb
      exact Heap.lt_size e
    have f4 : ∀ b ∈ fp, FpOk X pins H4 b ∧ b < s4.heap.objs.size := fun b hb => by
      refine ⟨⟨?_, (f2 b hb).2⟩, by rw [e4h]; exact Nat.lt_of_lt_of_le (szf b hb) hsz⟩
      rw [tab.2 b (nP b hb)]; exact (f2 b hb).1
    have hsz' : h'.objs.size = h3.objs.size + 1 := by rw [hs'.1, Heap.size_push]
    have keep' : ∀ b o, h3.get? b = some o → h'.get? b = some o := fun b o e => hs'.extBut b o (Nat.ne_of_lt (Heap.lt_size e)) (Heap.get?_push_of_some _ e)
    generalize hgo : ({ cls := .type "generator", data := .fields #[.int s4.gens.size 0, .str "<genexpr>" (s4.toks + 1), .str (X.env.qual ++ "<genexpr>") (s4.toks + 1 + 1)] } : Obj) = gobj
    have I6 := gen_start (a := h'.objs.size) (gobj := gobj) (code := code) (h6 := h'.push gobj) (g6 := s4.gens.push (.fresh (.compStart (.GeneratorExp elt [⟨tg, iter, [], 0⟩] scope gpos) 0 (.ref it) .none (genv X scope s4.heap.objs.size code)))) (t6 := s4.toks + 1 + 1 + 1)
      (A := X.A.in1.in1.over (.compLoop (.GeneratorExp elt [⟨tg, iter, [], 0⟩] scope gpos) 0 (.ref it) .none (genv X scope s4.heap.objs.size code)) []) I4 ok hN hcell f4 (by rw [over_comp]; exact hr.hd)
      (by rw [over_comp]; exact Around.frames_deeper I4.ok.frames) (fun b o e => Heap.get?_push_of_some _ (keep' b o (by rw [← e4h]; exact e))) (by rw [e4h]; exact hn'.push _) (by rw [e4h, hsz']; exact Nat.lt_succ_self _) (Heap.get?_push_size _ (by rw [← hgo]; rfl)) (fun v q => by rw [← hgo] at q; cases q) (I4.bare.push rfl)
    have rm : Room k (X.A.in1.in1.over (.compLoop (.GeneratorExp elt [⟨tg, iter, [], 0⟩] scope gpos) 0 (.ref it) .none (genv X scope s4.heap.objs.size code)) []) := by
      rw [over_comp]
      exact ⟨hr.hd, by have := hr.dp; show X.A.depth + 1 + 3 * k + 5 < _; omega, by have := hr.un; show X.A.units + 1 + 1 + 3 + 16 * k + 200 < _; omega⟩
    have nfp : ∀ b ∈ fp, H4 b = none := fun b hb => (f4 b hb).1.1
    have st6 : tn 0 (h'.push gobj) := T.keep _ _ _ st2 fun b hb o e => Heap.get?_push_of_some _ (keep' b o (keep3 b o (nP b hb) e))
    have gst : ∀ (z : GenState), z.bare = true → AllBare (({ s4 with heap := h'.push gobj, gens := s4.gens.push (.fresh (.compStart (.GeneratorExp elt [⟨tg, iter, [], 0⟩] scope gpos) 0 (.ref it) .none (genv X scope s4.heap.objs.size code))), toks := s4.toks + 1 + 1 + 1 } : Shared).setGen s4.gens.size z).gens := fun z hz => allBare_setGen (I4.bare.push rfl) hz
    refine ⟨h'.objs.size, s4.gens.size, n, _, _, H4, rfl, fun {σ' H' s'} J' => ?_, I6, ⟨_, Array.getElem?_push_size .., rfl, seg_start T st6 (seg_loop hc hco (fun b hb p hp => ?_) T (pg _ _ _ _ _ _ _) (pe _ _ _ _ _ _ _ rm) turn n 0 _ _ H4 (Nat.sub_zero _) (inv_gens I6 rfl rfl (gst _ rfl)) st6 nfp w0)⟩, fun σ' H' s' J' => ?_⟩
    · have := (J'.pin (h'.objs.size, gobj) (List.mem_append_left _ (List.mem_singleton.mpr rfl))).1
      rw [← hgo] at this
      exact ⟨_, _, _, this, rfl, rfl, rfl⟩
    · have hp : p = (h'.objs.size, gobj) := by simpa using hp
      subst hp
      have h1 : b < s2.heap.objs.size := szf b hb
      have h2 : s2.heap.objs.size ≤ h3.objs.size := hsz
      have h3' : h'.objs.size = h3.objs.size + 1 := hsz'
      show h'.objs.size ≠ b
      exact Nat.ne_of_gt (by rw [h3']; exact Nat.lt_of_lt_of_le h1 (Nat.le_succ_of_le h2))
    · exact I4.call' (ch := fp) J'.os J'.base J'.hok J'.bare fun b hb => ⟨(f4 b hb).1.2.2.2.1, (f4 b hb).1.2.1, (f4 b hb).1.2.2.2.2.1, (f4 b hb).1.2.2.2.2.2⟩
  cases hf : codeAmong gpos ps.toList with
  | none =>
    refine wpAny_genexprCodeX hcode (cd.code hPs ht) (cd.tab hPs) hf fun c' h' tk hx hge hlt hco' _ htab' _ => ?_
    obtain ⟨o1, vs, f1, tf, fl, tg', inF, tx, tt, op, _, _, _, _, _, _, _, _, _, htr, _⟩ := hco'
    exact cont _ h' tk _ hx (Nat.le_trans hge (Nat.le_of_lt hlt)) htab'.2 ⟨_, rfl⟩ htr
  | some cv =>
    refine wpAny_genexprCode_hit hcode (cd.code hPs ht) hf ?_
    exact cont cv s2.heap s2.toks ps (Heap.ExtBut.refl _ _) (Nat.le_refl _) hPs ⟨#[], by simp⟩ ht
end
end GA
namespace GA
open PySem PySem.Spec PyProof.Rows L2 GxR GenW
/-- a generator expression's own scope -/
structure GenOk (scope : Scope) : Prop where
  co : scope.isCoroutine = false
  cell : ∀ y ∈ scope.names, y.2 ≠ .cell
  dot : scope.names.lookup (".0" : Str) = some NameKind.local
def genC (scope : Scope) : Bool := !scope.isCoroutine && (scope.names.all fun y => match y.2 with | .cell => false | _ => true) && (match scope.names.lookup (".0" : Str) with | some .local => true | _ => false)
theorem genOk_by {scope : Scope} (h : genC scope = true) : GenOk scope := by
  unfold genC at h
  simp only [Bool.and_eq_true, List.all_eq_true] at h
  obtain ⟨⟨h1, h2⟩, h3⟩ := h
  refine ⟨by simpa using h1, fun y hy e => ?_, ?_⟩
  · have := h2 y hy
    rw [e] at this; cases this
  · split at h3
    · assumption
    · cases h3
section
variable {X : Cx}
theorem pe_allG {c P : Addr} {elt iter tg : Expr} {p pos gpos : Pos} {scope : Scope} {own : List (Str × Nat)} {wi : TI} {g : TG} {te : TE} {k : Nat} (hr : Room (k + 1) X.A) (hc : X.calm = true) (hN : X.N.Nodup) (TB : TabB X.base X.mg c P) (hcode : X.env.code = .ref c)
    (hg : Gl X "all") (hm : X.mg "all" = none) (hb : bootBuiltins "all" = some (.builtin "all")) (ok : BlkOk X.N X.env.scope scope own) (gok : GenOk scope) (hi : PI X tg iter wi)
    (pg : ∀ (s : Shared) (H : Hp) (C : Addr) (code : Value) (fp : List Addr) (A : Around) (pn : List (Addr × Obj)), PG (gblk X s H (genv X scope C code) fp A pn) tg g)
    (pe : ∀ (s : Shared) (H : Hp) (C : Addr) (code : Value) (fp : List Addr) (A : Around) (pn : List (Addr × Obj)), Room k A → PE (gblk X s H (genv X scope C code) fp A pn) elt te)
    (hs : ∀ v, genFold iter X.env v = pure v)
    (he : starEach [.GeneratorExp elt [⟨tg, iter, [], 0⟩] scope gpos] X.env = (false, eval (.GeneratorExp elt [⟨tg, iter, [], 0⟩] scope gpos) X.env) :: starEach [] X.env := by rfl) :
    PE X (.Call (.Name "all" p) [.GeneratorExp elt [⟨tg, iter, [], 0⟩] scope gpos] [] pos) (tQuant P false wi g te (own.map (·.2))) := by
  refine ⟨fun pins s σ H Q I h => ?_⟩
  refine wpAny_Call_Name_kw (ld_blt I hg hm hb ?_)
  refine PyProof.Rows.callWith_builtin1 ?_ he (by rfl)
  rw [he]
  show wpAny _ _ (spliced ((false, eval (.GeneratorExp elt [⟨tg, iter, [], 0⟩] scope gpos) X.env) :: backTo pos (starEach [] X.env))) _ _ s
  refine Calls.spliced_cons (thn (gen_make hr hc hN TB hcode ok gok.co gok.cell gok.dot hi pg pe hs I h) fun u s6 hM => ?_)
  obtain ⟨a, g', n, Xg, σ', H', rfl, isg, I6, hgo, back⟩ := hM
  refine Calls.spliced_nil ?_
  refine call_function_tree F.kind_all F.plain_all F.entry_all (F.args_all1 _) ?_
  unfold Builtin.«all»
  refine wpAny_bind (m := oneArg "all" _) (wpAny_pure ?_)
  refine wpAny_bind (wpAny_pyIter_gen (isg I6) ?_)
  exact wpAny_pure ⟨plainId_quiet F.plain_all_loop _, all_loop hr.hd hr.depth isg (fun b σ1 H1 s1 J q => ⟨.bl b, H1, back σ1 H1 s1 J, rfl, q⟩) n s6 σ' H' I6 hgo⟩
end
end GA
namespace DW
open PySem PySem.Spec PyProof.Rows L2 GA GxR
variable [LamTabs]
/-- a table of generator expressions -/
def GenT (T : List Addr) (P : Addr) : Prop := P ∈ T ∧ LamTabs.q P = none
theorem stp_tab {F H H' : Hp} {P : Addr} (np : LamTabs.q P = none) (sb : Sub F H) (t0 : TabG H P) (tb : Tabbed P H H') : Stp F H F H' := by
  obtain ⟨t1, k⟩ := tb
  obtain ⟨ps, e0, _⟩ := id t0
  have nP : ∀ a o, H a = some o → (∀ ps, o ≠ .tbl ps) → a ≠ P := fun a o e n z => by
    rw [z, e0] at e; cases e; exact n _ rfl
  refine ⟨Ex.refl F, ⟨fun a o e n => ?_, sb.nt⟩, fun a o e n => ?_, fun a o e => ?_, fun Q t => ?_, fun _ _ _ n => n⟩
  · have := sb.ex a o e n
    rw [k a (nP a o this n)]; exact this
  · rw [k a (nP a o e n)]; exact e
  · by_cases ha : a = P
    · obtain ⟨ps', e1, _⟩ := t1
      exact ⟨_, by rw [ha]; exact e1⟩
    · exact ⟨o, by rw [k a ha]; exact e⟩
  · by_cases ha : Q = P
    · rw [ha]; exact ⟨t1, fun q h => by rw [np] at h; cases h⟩
    · exact t.at_ (fun ps' e1 => by rw [k Q ha]; exact e1) fun c q e => by rw [k c (nP c _ e LamX.codeO_ne)]; exact e
/-- all (e: false ends it), any (e: true) -/
def quantF (e : Bool) (f : PyData → Bool) (ds : List PyData) : Bool := if ds.any (fun d => decide (f d = e)) then e else !e
theorem quant_all (f : PyData → Bool) (ds : List PyData) : quantF false f ds = ds.all f := by
  unfold quantF
  rw [Bool.eq_iff_iff, List.all_eq_true]
  constructor
  · intro h d hd
    cases e : f d with
    | true => rfl
    | false =>
      rw [if_pos (List.any_eq_true.mpr ⟨d, hd, decide_eq_true e⟩)] at h; cases h
  · intro h
    rw [if_neg]
    · rfl
    · intro z
      obtain ⟨d, hd, e⟩ := List.any_eq_true.mp z
      have := of_decide_eq_true e
      rw [h d hd] at this; cases this
section
variable {g : Gd} {G : List Sl} {te : TE} {tg : TG} {ds : List PyData} {ix : List Nat}
theorem e_quant {P : Addr} (hP : GenT g.T P) {wi : TI} {vs : List Nat} {e : Bool} (f : PyData → Bool) (G1 : PyData → List Sl) (it : IT g wi G ds)
    (tgt : ∀ F1, ∀ d ∈ ds, Tg { g with Fl := F1 } tg d (wipeG G vs) (G1 d) ix) (hix : ∀ j ∈ ix, j ∈ vs) (he : ∀ F1, ∀ d ∈ ds, E { g with Fl := F1 } te (G1 d) (.bool (f d))) :
    E g (tQuant P e wi tg te vs) G (.bool (quantF e f ds)) := fun σ F H hh Q q => it σ F H hh _ fun J F1 H1 s1 W => by
  have hh1 := hh.mono s1
  have t1 := (hh1.tab P hP.1).1
  refine ⟨t1, fun H2 tb => ?_⟩
  have s2 := stp_tab hP.2 s1.i t1 tb
  have hh2 := hh1.mono s2
  have hw := Holds.wipe hh2 vs
  have hwl : Holds { g with Fl := F1 } (wipeG G vs) (wipe σ vs) F1 H2 := ⟨hw.len, hw.st, hw.sl, hw.apart, hw.tab, Ex.refl F1⟩
  refine ⟨ds.length, fun i H' => i ≤ ds.length ∧ ∃ F', Stp F1 H2 F' H' ∧ Holds { g with Fl := F1 } (wipeG G vs) (wipe σ vs) F' H' ∧ (ds.take i).any (fun d => decide (f d = e)) = false, ⟨Nat.zero_le _, F1, Stp.refl hh2.st.i, hwl, rfl⟩, ?_⟩
  rintro i H3 ⟨hi, F3, s3, hh3, no⟩
  by_cases hlt : i < ds.length
  · have hget := List.getElem?_eq_getElem hlt
    have hmem : ds[i] ∈ ds := List.getElem_mem hlt
    refine .inr ⟨hlt, W.go i F3 H3 hh3.lo hh3.st.i hlt, fun x H4 y => ?_⟩
    obtain ⟨F4, s4, d4⟩ := W.yld i F3 H3 x H4 ds[i] hh3.lo hh3.st.i hget y
    refine tgt F1 ds[i] hmem x (wipe σ vs) F4 H4 (hh3.mono s4) d4 _ fun σ5 hh5 w5 => ⟨?_, ?_⟩
    · rw [w5 vs hix]
      have ww : ∀ (l : List Nat), (∀ j ∈ l, j ∈ vs) → wipe (wipe σ l) vs = wipe σ vs := by
        intro l
        induction l with
        | nil => intro _; rfl
        | cons v l ih => intro hl; show wipe ((wipe σ l).set v none) vs = _; rw [wipe_set (hl v List.mem_cons_self)]; exact ih fun j hj => hl j (List.mem_cons_of_mem _ hj)
      exact ww vs fun _ h => h
    · refine he F1 ds[i] hmem σ5 F4 H4 hh5 _ fun v F5 H5 s5 d5 => ?_
      cases d5
      have ss := s4.trans s5
      refine ⟨f ds[i], rfl, ?_⟩
      by_cases hf : f ds[i] = e
      · refine .inl ⟨hf, ?_⟩
        have : quantF e f ds = e := by unfold quantF; rw [if_pos (List.any_eq_true.mpr ⟨_, hmem, decide_eq_true hf⟩)]
        rw [← this]
        exact q _ F5 H5 ((s1.trans s2).trans (s3.trans ss)) (this ▸ .bl _)
      · refine .inr ⟨hf, hlt, F5, s3.trans ss, hh3.mono ss, ?_⟩
        rw [List.take_succ, hget, List.any_append, no]
        show (false || (decide (f ds[i] = e) || false)) = false
        rw [decide_eq_false hf]; rfl
  · have e2 : i = ds.length := by omega
    subst e2
    refine .inl ⟨rfl, W.stop F3 H3 hh3.lo hh3.st.i, ?_⟩
    rw [List.take_length] at no
    have : quantF e f ds = !e := by unfold quantF; rw [if_neg (by rw [no]; decide)]
    rw [← this]
    exact q _ F3 H3 ((s1.trans s2).trans s3) (.bl _)
end
/-! the code object of a def with a table -/
section
variable {P : Program} {w : World} {K : PySem.W.Frag} {mg : Str → Option Value} {base : Heap} {x qual : Str} {st : Stmt} {f : Addr} {fd : FuncData} {Nn ps : List Str} {k : Nat} {Tb : List Addr} {c Pt : Addr}
theorem code_of (F : Fun K x qual st f fd) (hns : PySem.W.nsIn K mainGlobals x = some (some (.ref f))) (ht : PySem.W.tabIn K x = some (c, Pt)) : fd.code = .ref c := by
  obtain ⟨oc, od, kV, doc, pm, an, cdv, ct, osl, rfl, lk, hcd⟩ := F.ex
  unfold PySem.W.tabIn at ht
  rw [hns] at ht
  simp only [lk] at ht
  split at ht
  · split at ht
    · split at ht
      · cases ht
        first | rfl | assumption
      · cases ht
    · cases ht
  · cases ht
theorem df_DT (F : Fun K x qual st f fd) (hns : PySem.W.nsIn K mainGlobals x = some (some (.ref f))) (ht : PySem.W.tabIn K x = some (c, Pt)) (Sc : FnScope Nn ps (defScope st)) (hm : mg x = some (.ref f)) (hb : Binds K fd ps []) {R : List PyData → PyData → Prop} (hlen : ∀ ds d, R ds d → ds.length = ps.length)
    (body : ∀ (A : Around) (outer : List Env) (s : Shared) (H : Hp) (E : XK), Room k (A.deeper (envOfC qual (defScope st) s.heap.objs.size f (.ref c))) →
      ∃ t, PSs (cxOf CX0 P w K mg base Nn qual (defScope st) f (.ref c) A outer s H E).nox (defBody st) t ∧ ∀ (ds : List PyData) (d : PyData) (F0 H0 : Hp) (Q : VK), R ds d → Rt ⟨K, Tb, F0, H0, F0⟩ Q d → S ⟨K, Tb, F0, H0, F0⟩ t { nx := fun _ H' => Q .non H', rt := Q } (startG Nn.length ds)) :
    Df P w K mg base (k + 1) x ps (spD K Tb R) := by
  have hc := code_of F hns ht
  refine ⟨f, fd, ?_, hm, F.kp, hb⟩
  obtain ⟨oc, od, kV, doc, pm, an, cdv, ct, osl, rfl, lk, hcd⟩ := F.ex
  have hc' : cdv = .ref c := hc
  subst hc'
  refine fn_of lk hcd Sc (fun vs H Q E h => ?_) fun A outer s H vs Q E hr h => ?_
  · obtain ⟨F, ds, d, _, _, hd, r, _⟩ := h
    exact (dps_len hd).trans (hlen ds d r)
  · obtain ⟨F1, ds, d, sb, ht, hd, r, q⟩ := h
    obtain ⟨t, h1, h2⟩ := body A outer s H E hr
    exact ⟨t, h1.nox, h2 ds d F1 H Q r q _ F1 H (holds_start sb ht hd)⟩
end
end DW
namespace LamX
open PySem PySem.Spec PyProof.Rows L2
/-- the end of a row with the tables of its defs -/
theorem walk_ofTop {l : PySem.W.OpenLaw} {n k : Nat} {q : Program} {loose : List Str} {XP : (Str → Option Value) → Heap → Prop} {YP : World → Heap → Prop} {d : DefRec} {K : Params → PySem.W.Frag} {CX : World → CXT} {x : Str}
    (hn : l.most = some n) (hn2 : n ≤ sizeLine) (hdf : d.params.defaults = []) (hr : Room k callerA) (hY : ∀ (w : World) (h : Heap), YP w h → (K w.params).In h)
    (F : ∀ (w : World) (mg : Str → Option Value) (fa : Addr) (h : Heap), YP w h → (K w.params).In h → h.Ns mainGlobals mg → mg d.name = some (.ref fa) →
      (∀ (dd : DefRec) (y : Str) (c P : Addr), (recsOf q).find? (fun e => e.name == y) = some dd → PySem.W.tabIn (K w.params) y = some (c, P) → PySem.W.CodeHd h c P ∧ h.get? P = some (PySem.W.tabObj #[])) → LawAtS l w (K w.params) (CX w) k n x mg fa h)
    (hCX : ∀ (w : World) (H : Hp) (s : Shared) (e : Value) (s' : Shared), CX w [] H s (fun _ _ _ => False) e s' → False) :
    PySem.W.WalkO q loose XP YP l.row.toRowW d [] (fun f vs => PySem.call f vs) := by
  refine Att.attach_callB hn hdf fun w s₀ s₁ mg mb fa o pm cd doc a vs ns G Y ho hd hcd hmg hobj hints hlen hbits hg => ?_
  have KX := hY w _ Y
  obtain ⟨fd, cs, sp, hT, nT, C, hb, hsp, hF⟩ := F w mg fa _ Y KX G.T.g hmg fun dd y c P h1 h2 => PySem.W.tab_of G.T KX h1 h2
  exact law_callTs KX G.T.g G.T.b G.T.builtins G.T.nolimit hg hT nT C G.T.bmain hobj hints (Nat.le_trans hlen hn2) hr hF hb (fun H hH hS => hsp H a ns hlen hbits hH hS) fun H e s' => hCX w H s₁ e s'
end LamX
/-! is True, is not False -/
namespace DW
open PySem PySem.Spec PyProof.Rows L2
variable [LamTabs]
def rIsBB : R2 := fun x y H Q => ∃ a b, x = .bl a ∧ y = .bl b ∧ Q (.bl (decide (a = b))) H
def rNtBB : R2 := fun x y H Q => ∃ a b, x = .bl a ∧ y = .bl b ∧ Q (.bl (!decide (a = b))) H
section
variable {g : Gd}
theorem is_bb {a b : Bool} : RB g rIsBB (.bool a) (.bool b) (.bool (decide (a = b))) := fun u v H hu hv Q q => by
  cases hu; cases hv; exact ⟨a, b, rfl, rfl, q _ (.bl _)⟩
theorem nt_bb {a b : Bool} : RB g rNtBB (.bool a) (.bool b) (.bool (!decide (a = b))) := fun u v H hu hv Q q => by
  cases hu; cases hv; exact ⟨a, b, rfl, rfl, q _ (.bl _)⟩
end
end DW
namespace DW
open PySem PySem.Spec PyProof.Rows L2
variable [LamTabs]
theorem tab_in {K : PySem.W.Frag} {x : Str} {f c P : Addr} {fd : FuncData} {oc o2 : Value} {od d2 : Option Addr} {sl s2 : Array (Option Value)} {vs : Array Value} (a : PySem.W.nsIn K mainGlobals x = some (some (.ref f))) (l : K.lookup f = some ⟨oc, od, .func fd, sl⟩) (hc : fd.code = .ref c)
    (m : K.lookup c = some ⟨o2, d2, .fields vs, s2⟩) (v : vs[11]? = some (.ref P)) : PySem.W.tabIn K x = some (c, P) := by
  unfold PySem.W.tabIn
  rw [a]
  simp only [l, hc, m, v]
theorem tab_gx {base : Heap} {mg : Str → Option Value} {c P : Addr} (h : LamX.TabB base mg c P) : GxR.TabB base mg c P := ⟨h.code, h.bm, h.gP⟩
end DW
/-! enumerate, zip, is True of any data, isinstance of any data -/
namespace DW
open PySem PySem.Spec PyProof.Rows L2
variable [LamTabs]
def enD : Nat → List PyData → List PyData
  | _, [] => []
  | n, d :: ds => .tuple [.int (n : Nat), d] :: enD (n + 1) ds
theorem enD_len : ∀ (n : Nat) (ds : List PyData), (enD n ds).length = ds.length
  | _, [] => rfl
  | n, d :: ds => by show (enD (n + 1) ds).length + 1 = _; rw [enD_len]; rfl
theorem enD_get : ∀ (n : Nat) (ds : List PyData) (i : Nat) (e : PyData), (enD n ds)[i]? = some e → ∃ d, ds[i]? = some d ∧ e = .tuple [.int ((n + i : Nat) : Int), d]
  | _, [], i, e, h => by cases h
  | n, d :: ds, 0, e, h => ⟨d, rfl, (Option.some.inj h).symm⟩
  | n, d :: ds, i + 1, e, h => by
    obtain ⟨x, h1, h2⟩ := enD_get (n + 1) ds i e h
    exact ⟨x, h1, by rw [h2]; congr 3; omega⟩
section
variable {g : Gd} {G : List Sl} {te ta tb : TE} {ds es : List PyData}
theorem it_enum (h : E g te G (.list ds)) : IT g (iEnum g.K (tCons te tNil)) G (enD 0 ds) := fun σ F H hh R r => h σ F H hh _ fun v F1 H1 s1 d1 => by
  obtain ⟨a, vs, rfl, h1, h2⟩ := dp_sq d1
  refine ⟨a, vs, rfl, s1.i.ex.l h1, r _ F1 H1 s1 ⟨fun i F2 H2 e sb hi => ?_, fun F2 H2 e sb => ?_, fun i F2 H2 x H' d e sb hd hy => ?_⟩⟩
  · rw [enD_len] at hi
    have hi' : i < vs.length := by rw [dps_len h2]; exact hi
    exact ⟨vs, vs[i], sb.ex.l (e.l h1), List.getElem?_eq_getElem hi'⟩
  · exact ⟨vs, sb.ex.l (e.l h1), by rw [dps_len h2, enD_len]; exact Nat.le_refl _⟩
  · obtain ⟨T, y, rfl, hT, rfl, q⟩ := hy
    obtain ⟨d', hd', rfl⟩ := enD_get 0 ds i d hd
    obtain ⟨w, e1, e2⟩ := dps_get h2 hd'
    have e3 := q vs (sb.ex.l (e.l h1))
    obtain rfl : w = y := Option.some.inj (e1.symm.trans e3)
    have st := Stp.new (o := .tup [.int ((i : Nat) : Int), w]) sb hT fun _ z => by cases z
    refine ⟨_, st, ?_⟩
    rw [Nat.zero_add]
    exact .tup (.inl (.inl upd_same)) (.cons (.int _) (.cons (st.f.dp _ w (e.dp _ w e2)) .nil))
end
/-! is True, is False of any data -/
def rIsD : R2 := fun x y H Q => ∃ b : Bool, y = .bl b ∧ (x = .non ∨ (∃ a, x = .bl a) ∨ (∃ i, x = .int i) ∨ (∃ i, x = .str i) ∨ ∃ a, x = .ref a) ∧ Q (.bl (decide (x = .bl b))) H
theorem uIsD {X : Cx} : OpR X (compareOp .Is) rIsD := by
  intro pins s σ H x y v u Q I rx ry h
  obtain ⟨b, rfl, hx, q⟩ := h
  cases (show u = Value.bool b from ry)
  rcases hx with rfl | ⟨a, rfl⟩ | ⟨i, rfl⟩ | ⟨i, rfl⟩ | ⟨a, rfl⟩
  · cases rx
    exact wpAny_is_other rfl (fun z => by cases z) ⟨.bl false, H, I, rfl, by simpa using q⟩
  · cases (show v = Value.bool a from rx)
    by_cases e : a = b
    · subst e
      exact wpAny_is_self rfl ⟨.bl true, H, I, rfl, by simpa using q⟩
    · exact wpAny_is_other rfl (fun z => e (Value.bool.inj z)) ⟨.bl false, H, I, rfl, by simpa [e] using q⟩
  · obtain ⟨t, rfl⟩ := rx
    exact wpAny_is_other rfl (fun z => by cases z) ⟨.bl false, H, I, rfl, by simpa using q⟩
  · obtain ⟨t, rfl⟩ := rx
    exact wpAny_is_other rfl (fun z => by cases z) ⟨.bl false, H, I, rfl, by simpa using q⟩
  · cases (show v = Value.ref a from rx)
    exact wpAny_is_other rfl (fun z => by cases z) ⟨.bl false, H, I, rfl, by simpa using q⟩
def isBD : PyData → Bool → Bool
  | .bool a, b => decide (a = b)
  | _, _ => false
def tyN : PyData → String
  | .none => "NoneType"
  | .bool _ => "bool"
  | .int _ => "int"
  | .str _ => "str"
  | .list _ => "list"
  | .tuple _ => "tuple"
  | .dict _ => "dict"
def isiS (a b : String) : Bool := decide (a = b) || (decide (a = "bool") && decide (b = "int"))
theorem kitF {K : PySem.W.Frag} {a b : String} (ha : a ∈ ["NoneType", "bool", "int", "str", "list", "tuple"]) (hb : b ∈ ["int", "str", "tuple", "list", "bool"]) : PySem.W.kitOne K (.type a) (.type b) = some (isiS a b) := by
  simp only [List.mem_cons, List.not_mem_nil, or_false] at ha hb
  unfold PySem.W.kitOne
  rcases ha with rfl | rfl | rfl | rfl | rfl | rfl <;> rcases hb with rfl | rfl | rfl | rfl | rfl <;> first
    | (rw [if_pos (by decide +kernel)]; rfl)
    | (rw [if_neg (by decide +kernel)]; rfl)
section
variable {g : Gd} {G : List Sl} {te : TE} {x : PyData}
theorem is_d {b : Bool} : RB g rIsD x (.bool b) (.bool (isBD x b)) := fun u v H hu hv Q q => by
  cases hv
  have e : ∀ w : V, w = u → (∀ a, w ≠ .bl a) → decide (u = .bl b) = false := fun w h n => decide_eq_false fun z => n b (h.trans z)
  cases hu with
  | non => exact ⟨b, rfl, .inl rfl, by rw [e .non rfl (fun a z => by cases z)]; exact q _ (.bl _)⟩
  | bl a => exact ⟨b, rfl, .inr (.inl ⟨a, rfl⟩), by
      have : decide (V.bl a = V.bl b) = decide (a = b) := by cases a <;> cases b <;> rfl
      rw [this]; exact q _ (.bl _)⟩
  | int i => exact ⟨b, rfl, .inr (.inr (.inl ⟨i, rfl⟩)), by rw [e (.int i) rfl (fun a z => by cases z)]; exact q _ (.bl _)⟩
  | str i => exact ⟨b, rfl, .inr (.inr (.inr (.inl ⟨i, rfl⟩))), by rw [e (.str i) rfl (fun a z => by cases z)]; exact q _ (.bl _)⟩
  | lst h1 h2 => exact ⟨b, rfl, .inr (.inr (.inr (.inr ⟨_, rfl⟩))), by rw [e _ rfl (fun a z => by cases z)]; exact q _ (.bl _)⟩
  | tup h1 h2 => exact ⟨b, rfl, .inr (.inr (.inr (.inr ⟨_, rfl⟩))), by rw [e _ rfl (fun a z => by cases z)]; exact q _ (.bl _)⟩
theorem e_isiD {T : String} (h : B g te G x) (hT : T ∈ ["int", "str", "tuple", "list", "bool"]) : E g (tCB (rIsi g.K) (tCons te (tCons (tC (.ty T)) tNil))) G (.bool (isiS (tyN x) T)) := fun σ F H hh Q q => h σ F H hh _ fun v F1 H1 s1 d1 => by
  have go : ∀ (t : String), tyN x = t → t ∈ ["NoneType", "bool", "int", "str", "list", "tuple"] → TyX g.K H1 v (.type t) → rIsi g.K [v, .ty T] H1 Q := fun t e ht ty =>
    ⟨v, .ty T, .type t, .type T, isiS (tyN x) T, rfl, .ty T, ty, by rw [e]; exact kitF ht hT, q _ F1 H1 s1 (.bl _)⟩
  cases d1 with
  | non => exact go "NoneType" rfl (by simp) (.base .non)
  | bl a => exact go "bool" rfl (by simp) (.base (.bl a))
  | int i => exact go "int" rfl (by simp) (.base (.int i))
  | str i => exact go "str" rfl (by simp) (.base (.str i))
  | lst h1 h2 =>
    refine go "list" rfl (by simp) ?_
    rcases h1 with (h1 | ⟨o, h1⟩) | ⟨o, its, n, e1, e2, _⟩
    · exact .base (.lst h1)
    · exact .base (.frz h1)
    · exact .kList e1 e2
  | tup h1 h2 =>
    refine go "tuple" rfl (by simp) ?_
    rcases h1 with (h1 | ⟨o, h1⟩) | ⟨o, its, n, e1, e2, _⟩
    · exact .base (.tup h1)
    · exact .fTuple h1
    · exact .kTuple e1 e2
end
theorem at_end {α : Type} {xs : List α} {x : α} : atI (xs ++ [x]) (-1) = some x := by
  unfold atI
  have e : ixN (xs ++ [x]).length (-1) = some xs.length := by
    rw [List.length_append, List.length_singleton]
    unfold ixN
    rw [if_neg (by omega), if_pos (by omega)]
    congr 1
    omega
  rw [e]
  show (xs ++ [x])[xs.length]? = some x
  rw [List.getElem?_append_right (Nat.le_refl _), Nat.sub_self]
  rfl
end DW
/-! for over our own list that the turns leave alone -/
namespace DW
open PySem PySem.Spec PyProof.Rows L2
end DW
/-! enumerate of a tuple -/
namespace DW
open PySem PySem.Spec PyProof.Rows
open L2
end DW
/-! walks over enumerate(a tuple) and zip of two lists -/
namespace DW
open PySem PySem.Spec PyProof.Rows L2
end DW
/-! min of a list of ints (default=None too), in of any data, list(range(..)), reversed -/
namespace DW
open PySem PySem.Spec PyProof.Rows L2
variable [LamTabs]
/-- the least of some ints -/
def minI (x : Int) (xs : List Int) : Int := xs.foldl (fun a y => if y < a then y else a) x
def minO : List Int → Option Int
  | [] => none
  | x :: xs => some (minI x xs)
theorem minI_le : ∀ (xs : List Int) (x : Int), minI x xs ≤ x ∧ ∀ y ∈ xs, minI x xs ≤ y
  | [], x => ⟨Int.le_refl _, fun y h => by cases h⟩
  | z :: xs, x => by
    have h := minI_le xs (if z < x then z else x)
    have e : minI x (z :: xs) = minI (if z < x then z else x) xs := rfl
    rw [e]
    refine ⟨?_, fun y hy => ?_⟩
    · have := h.1; split at this <;> (rename_i q; split <;> omega)
    · rcases List.mem_cons.mp hy with rfl | hy
      · have := h.1; split at this <;> (rename_i q; split <;> omega)
      · exact h.2 y hy
theorem minI_mem : ∀ (xs : List Int) (x : Int), minI x xs ∈ x :: xs
  | [], x => List.mem_cons_self
  | z :: xs, x => by
    have h := minI_mem xs (if z < x then z else x)
    have e : minI x (z :: xs) = minI (if z < x then z else x) xs := rfl
    rw [e]
    rcases List.mem_cons.mp h with h | h
    · rw [h]
      split
      · exact List.mem_cons_of_mem _ List.mem_cons_self
      · exact List.mem_cons_self
    · exact List.mem_cons_of_mem _ (List.mem_cons_of_mem _ h)
theorem minI_uniq {xs : List Int} {x m : Int} (h1 : m ∈ x :: xs) (h2 : ∀ y ∈ x :: xs, m ≤ y) : m = minI x xs := by
  have a := h2 _ (minI_mem xs x)
  have b : minI x xs ≤ m := by
    rcases List.mem_cons.mp h1 with rfl | h
    · exact (minI_le xs m).1
    · exact (minI_le xs x).2 m h
  omega
/-! min(xs) -/
section
variable {g : Gd} {G : List Sl} {te ta tb : TE} {d x y : PyData} {ds es : List PyData} {i : Nat}
theorem dps_vints {K : PySem.W.Frag} {F : Hp} : ∀ {vs : List V} {ns : List Int}, DpAll K F vs (ns.map .int) → vs = ns.map V.int
  | _, [], h => by cases h; rfl
  | _, n :: ns, h => by
    cases h with
    | cons a t => cases a; rw [dps_vints t]; rfl
theorem minL_i {n : Int} {ns : List Int} : C1 g (rMin g.K) [.list ((n :: ns).map .int)] (.int (minI n ns)) := fun vs H h Q q => by
  obtain ⟨v, rfl, hw⟩ := ab_one h
  obtain ⟨a, ws, rfl, h1, h2⟩ := dp_sq hw
  have e := dps_vints h2
  subst e
  refine ⟨a, n :: ns, rfl, h1, by simp, fun m hm hle => ?_⟩
  rw [minI_uniq hm hle]
  exact q _ (.int _)
end
/-! min(xs, default=None) -/
def rMinD (K : PySem.W.Frag) : List V → List V → Hp → VK → Prop := fun vs zs H Q => ∃ (a : Addr) (ns : List Int), vs = [V.ref a] ∧ zs = [V.non] ∧ SqL K H a (ns.map V.int) ∧ Q (match minO ns with | some m => .int m | none => .non) H
end DW
namespace DW
open PySem PySem.Spec PyProof.Rows L2
variable [LamTabs]
section
variable {g : Gd} {G : List Sl} {te ta tb : TE} {d x y : PyData} {ds es : List PyData} {i : Nat}
theorem e_minD {ns : List Int} (h : B g ta G (.list (ns.map .int))) : E g (tCKw (rMinD g.K) (tCons ta tNil) (tCons (tC .non) tNil)) G (oD (minO ns)) := fun σ F H hh Q q => h σ F H hh _ fun v F1 H1 s1 d1 => by
  obtain ⟨a, vs, rfl, h1, h2⟩ := dp_sq d1
  have e := dps_vints h2
  subst e
  refine ⟨a, ns, rfl, rfl, h1, ?_⟩
  generalize minO ns = o at q ⊢
  cases o with
  | none => exact q V.non F1 H1 s1 .non
  | some m => exact q (V.int m) F1 H1 s1 (.int m)
/-! in, any data -/
/-! list(range(a)), list(range(a, b)) -/
end
/-! reversed of a list or a tuple -/
end DW
/-! == of any data, by plain -/
namespace DW
open PySem PySem.Spec PyProof.Rows L2
variable [LamTabs]
/-- no dict in it, not deeper than n -/
structure Pl (n : Nat) (d : PyData) : Prop where
  p : d.plain = true
  d : d.depth ≤ n
structure PlA (n : Nat) (ds : List PyData) : Prop where
  p : PyData.plainAll ds = true
  d : PyData.depthAll ds ≤ n
section
variable {n m : Nat} {d x y : PyData} {ds es : List PyData}
theorem pl_int {i : Int} : Pl n (.int i) := ⟨rfl, Nat.zero_le _⟩
theorem pl_str {s : Str} : Pl n (.str s) := ⟨rfl, Nat.zero_le _⟩
theorem Pl.mono (h : Pl n d) (l : n ≤ m) : Pl m d := ⟨h.p, Nat.le_trans h.d l⟩
theorem PlA.mono (h : PlA n ds) (l : n ≤ m) : PlA m ds := ⟨h.p, Nat.le_trans h.d l⟩
theorem Pl.refl (h : Pl n d) : PyData.eqv d d = true := SeqAt.eqv_refl_plain d h.p
end
def rEqP (K : PySem.W.Frag) : R2 := fun x y H Q => ∃ d e, Dp K H x d ∧ Dp K H y e ∧ Pl 40 d ∧ Pl 40 e ∧ Q (.bl (PyData.eqv d e)) H
def rNeP (K : PySem.W.Frag) : R2 := fun x y H Q => ∃ d e, Dp K H x d ∧ Dp K H y e ∧ Pl 40 d ∧ Pl 40 e ∧ Q (.bl (!PyData.eqv d e)) H
theorem op_eqP {X : Cx} (hu : X.A.units + 64 < cLine) : OpR X (compareOp .Eq) (rEqP X.K) := by
  intro pins s σ H x y v u Q I rx ry h
  obtain ⟨d, e, hd, he, pd, pe, q⟩ := h
  obtain ⟨as, r1⟩ := Dp.reads I d x v hd rx
  obtain ⟨bs, r2⟩ := Dp.reads I e y u he ry
  have := pd.d
  exact PySem.SeqAt.eq_plain r1 r2 pd.p pe.p (by omega) ⟨.bl _, H, I, rfl, q⟩
theorem op_neP {X : Cx} (hu : X.A.units + 64 < cLine) : OpR X (compareOp .NotEq) (rNeP X.K) := by
  intro pins s σ H x y v u Q I rx ry h
  obtain ⟨d, e, hd, he, pd, pe, q⟩ := h
  obtain ⟨as, r1⟩ := Dp.reads I d x v hd rx
  obtain ⟨bs, r2⟩ := Dp.reads I e y u he ry
  have := pd.d
  exact PySem.SeqAt.ne_plain r1 r2 pd.p pe.p (by omega) ⟨.bl _, H, I, rfl, q⟩
theorem uEqPK {X : Cx} (K : PySem.W.Frag) (hu : X.A.units + 64 < cLine) (h : X.K = K := by rfl) : OpR X (compareOp .Eq) (rEqP K) := h ▸ op_eqP hu
theorem uNePK {X : Cx} (K : PySem.W.Frag) (hu : X.A.units + 64 < cLine) (h : X.K = K := by rfl) : OpR X (compareOp .NotEq) (rNeP K) := h ▸ op_neP hu
section
variable {g : Gd} {x y : PyData}
theorem eqP_d (hx : Pl 40 x) (hy : Pl 40 y) : RB g (rEqP g.K) x y (.bool (PyData.eqv x y)) := fun u v H hu hv Q q => ⟨x, y, hu, hv, hx, hy, q _ (.bl _)⟩
theorem neP_d (hx : Pl 40 x) (hy : Pl 40 y) : RB g (rNeP g.K) x y (.bool (!PyData.eqv x y)) := fun u v H hu hv Q q => ⟨x, y, hu, hv, hx, hy, q _ (.bl _)⟩
theorem eqv_int (a b : Int) : PyData.eqv (.int a) (.int b) = decide (a = b) := by
  show (a == b) = _
  rw [Bool.eq_iff_iff, beq_iff_eq, decide_eq_true_iff]
theorem eqv_str (a b : Str) : PyData.eqv (.str a) (.str b) = decide (a = b) := by
  show (a == b) = _
  rw [Bool.eq_iff_iff, beq_iff_eq, decide_eq_true_iff]
theorem eqP_i {a b : Int} : RB g (rEqP g.K) (.int a) (.int b) (.bool (decide (a = b))) := eqv_int a b ▸ eqP_d pl_int pl_int
theorem neP_i {a b : Int} : RB g (rNeP g.K) (.int a) (.int b) (.bool (!decide (a = b))) := eqv_int a b ▸ neP_d pl_int pl_int
theorem eqP_s {a b : Str} : RB g (rEqP g.K) (.str a) (.str b) (.bool (decide (a = b))) := eqv_str a b ▸ eqP_d pl_str pl_str
theorem neP_s {a b : Str} : RB g (rNeP g.K) (.str a) (.str b) (.bool (!decide (a = b))) := eqv_str a b ▸ neP_d pl_str pl_str
end
end DW
/-! sorted of ints, sorted of any alike data -/
namespace DW
open PySem PySem.Spec PyProof.Rows L2
variable [LamTabs]
/-! any alike data -/
theorem map_snd_zip {α β : Type} : ∀ {xs : List α} {ds : List β}, xs.length = ds.length → (xs.zip ds).map (·.2) = ds
  | [], [], _ => rfl
  | x :: xs, d :: ds, h => by
    rw [List.zip_cons_cons, List.map_cons, map_snd_zip (by simpa using h)]
  | [], d :: ds, h => by simp at h
  | x :: xs, [], h => by simp at h
end DW
/-! comprehensions whose items are known by a property; unpacking of a list; properties -/
namespace DW
open PySem PySem.Spec PyProof.Rows L2
variable [LamTabs]
theorem pg_unlK {X : Cx} {pos : Pos} {es : List Expr} {k n : Nat} {t : TGs} (K : PySem.W.Frag) (hc : X.calm = true) (ht : PGs X es t) (h1 : (assignEach es X.env).length = n := by rfl) (h2 : List.findIdx? (fun x => x.fst) (assignEach es X.env) = none := by rfl) (h : X.K = K := by rfl) : PG X (.Tuple es k pos) (gUnl K n t) := h ▸ pg_unl hc ht h1 h2
section
variable {g : Gd} {G G' : List Sl} {te : TE} {tgs : TGs} {tg : TG} {tw : TS} {D : Ends} {d : PyData} {ds : List PyData} {ix : List Nat} {P : PyData → Prop} {i : Nat}
/-- te gives a new list of ours with P -/
def ELP (g : Gd) (te : TE) (G : List Sl) (P : List PyData → Prop) : Prop := ∀ σ F H, Holds g G σ F H → ∀ Q : VK, (∀ p vs ds F' H', Stp F H F' H' → P ds → H p = none → F' p = none → H' p = some (.lst vs) → DpAll g.K F' vs ds → Q (.ref p) H') → te σ H Q
theorem s_asgLP {P : List PyData → Prop} (h : ELP g te G P) (k : ∀ ds, P ds → N g D.nx (G.set i (.ow ds))) : S g (tAsg te (gName i)) D G := fun σ F H hh => h σ F H hh _ fun p vs ds F1 H1 s1 pp h0 hF hH d1 =>
  k ds pp _ F1 H1 ((hh.mono s1).setO (old_free hh.st h0) hF hH d1 fun j _ ht => new_ok hh h0 j ht)
theorem q_asgLP {P : List PyData → Prop} (h : ELP g te G P) (k : ∀ ds, P ds → S g tw D (G.set i (.ow ds))) : S g (tSeq (tAsg te (gName i)) tw) D G := s_asgLP (D := { D with nx := tw D }) h k
/-- item by item -/
def All2 (P : PyData → PyData → Prop) (ds es : List PyData) : Prop := es.length = ds.length ∧ ∀ (i : Nat) (d e : PyData), ds[i]? = some d → es[i]? = some e → P d e
theorem all2_nil {P : PyData → PyData → Prop} : All2 P [] [] := ⟨rfl, fun _ _ _ h => by simp at h⟩
theorem all2_snoc {P : PyData → PyData → Prop} {ds es : List PyData} {d e : PyData} (h : All2 P ds es) (p : P d e) : All2 P (ds ++ [d]) (es ++ [e]) := by
  refine ⟨by rw [List.length_append, List.length_append, h.1]; rfl, fun i x y hx hy => ?_⟩
  by_cases hi : i < ds.length
  · rw [List.getElem?_append_left hi] at hx
    rw [List.getElem?_append_left (by rw [h.1]; exact hi)] at hy
    exact h.2 i x y hx hy
  · rw [List.getElem?_append_right (by omega)] at hx
    rw [List.getElem?_append_right (by rw [h.1]; omega), h.1] at hy
    cases hk : i - ds.length with
    | zero => rw [hk] at hx hy; cases hx; cases hy; exact p
    | succ n => rw [hk] at hx; simp at hx
theorem All2.all {P : PyData → PyData → Prop} {ds es : List PyData} {R : PyData → Prop} (h : All2 P ds es) (m : ∀ d e, d ∈ ds → P d e → R e) : ∀ e ∈ es, R e := fun e he => by
  obtain ⟨i, hi⟩ := List.getElem?_of_mem he
  have hl : i < ds.length := by rw [← h.1]; exact (List.getElem?_eq_some_iff.mp hi).1
  exact m ds[i] e (List.getElem_mem hl) (h.2 i _ e (List.getElem?_eq_getElem hl) hi)
theorem elp_lc {wi : TI} {vs : List Nat} (P : PyData → PyData → Prop) (G1 : PyData → List Sl) (it : IT g wi G ds) (hz : ds.length ≤ 40000)
    (tgt : ∀ F1, ∀ d ∈ ds, Tg { g with Fl := F1 } tg d (wipeG G vs) (G1 d) ix) (hix : ∀ j ∈ ix, j ∈ vs)
    (he : ∀ F1, ∀ d ∈ ds, EP { g with Fl := F1 } te (G1 d) (P d)) : ELP g (tLc wi tg tYes te vs) G (All2 P ds) := fun σ F H hh Q q => it σ F H hh _ fun J F1 H1 s1 W Dl hD => by
  have hh1 := hh.mono s1
  have hw := Holds.wipe hh1 vs
  have hwl : Holds { g with Fl := F1 } (wipeG G vs) (wipe σ vs) F1 H1 := ⟨hw.len, hw.st, hw.sl, hw.apart, hw.tab, Ex.refl F1⟩
  have hD0 : g.H0 Dl = none := old_free hh1.st hD
  have nw := new_ok hwl hD
  let Pv : Nat → Hp → Prop := fun i H' => ∃ F' ws es, Stp F1 H1 F' H' ∧ Holds { g with Fl := F1 } (wipeG G vs) (wipe σ vs) F' H' ∧ F' Dl = none ∧ H' Dl = some (.lst ws) ∧ DpAll g.K F' ws es ∧ All2 P (ds.take i) es
  refine ⟨fun i m H' => m = ds.length - i ∧ i ≤ ds.length ∧ Pv i H', ⟨ds.length, by simp, Nat.zero_le _, F1, [], [], Stp.mine s1.i hD, hwl.mono (Stp.mine s1.i hD), s1.i.free hD, upd_same, .nil, all2_nil⟩, ?_⟩
  rintro i m H2 ⟨rfl, hi, F2, ws, es, s2, hh2, hF2, hH2, hd2, al2⟩
  by_cases hlt : i < ds.length
  · have hget := List.getElem?_eq_getElem hlt
    have hmem : ds[i] ∈ ds := List.getElem_mem hlt
    refine .inr ⟨W.go i F2 H2 hh2.lo hh2.st.i hlt, Pv (i + 1), fun H' p' => ⟨ds.length - (i + 1), by omega, rfl, hlt, p'⟩, fun x H3 y => ?_⟩
    obtain ⟨F3, s3, d3⟩ := W.yld i F2 H2 x H3 ds[i] hh2.lo hh2.st.i hget y
    refine tgt F1 ds[i] hmem x (wipe σ vs) F3 H3 (hh2.mono s3) d3 _ fun σ3 hh3 w3 => ⟨?_, ?_⟩
    · rw [w3 vs hix]
      have ww : ∀ (l : List Nat), (∀ j ∈ l, j ∈ vs) → wipe (wipe σ l) vs = wipe σ vs := by
        intro l
        induction l with
        | nil => intro _; rfl
        | cons v l ih => intro hl; show wipe ((wipe σ l).set v none) vs = _; rw [wipe_set (hl v List.mem_cons_self)]; exact ih fun j hj => hl j (List.mem_cons_of_mem _ hj)
      exact ww vs fun _ h => h
    · show te σ3 H3 _
      refine he F1 ds[i] hmem σ3 F3 H3 hh3 _ fun w F5 H5 yv s5 py d5 => ?_
      have ss := s3.trans s5
      have hF5 := ss.n Dl _ hH2 hF2
      have hH5 := ss.h.lst hH2
      have e : ds.take (i + 1) = ds.take i ++ [ds[i]] := by rw [List.take_add_one, hget]; rfl
      have la : es.length = i := by rw [al2.1, List.length_take]; omega
      refine ⟨ws, hH5, Nat.lt_of_le_of_lt (by rw [dps_len hd2, la]; omega) (show 40000 < sizeLine by decide), F5, ws ++ [w], es ++ [yv], (s2.trans ss).mut hD hF5 hH5 (fun _ z => by cases z), (hh2.mono ss).mut hD0 hF5 hH5 (fun _ z => by cases z) (fun j t e1 m e2 => nw j ⟨t, e1, m⟩ e2), hF5, upd_same, dps_app (ss.f.dps es ws hd2) (.cons d5 .nil), ?_⟩
      rw [e]
      exact all2_snoc al2 py
  · have e : i = ds.length := by omega
    subst e
    rw [List.take_length] at al2
    exact .inl ⟨W.stop F2 H2 hh2.lo hh2.st.i, q Dl ws es F2 H2 (s1.trans s2) al2 (old_free s1 hD) hF2 hH2 hd2⟩
end
/-! a text, or None -/
end DW
/-! loops over a list that is known by a property -/
namespace DW
open PySem PySem.Spec PyProof.Rows L2
variable [LamTabs]
theorem Wd.mono {K : PySem.W.Frag} {J : It} {ds : List PyData} {F1 F2 : Hp} (W : Wd K J ds F1) (e : Ex F1 F2) : Wd K J ds F2 :=
  ⟨fun i F H x sb hi => W.go i F H (e.trans x) sb hi, fun F H x sb => W.stop F H (e.trans x) sb, fun i F H x H' d y sb hd hy => W.yld i F H x H' d (e.trans y) sb hd hy⟩
end DW
/-! comprehensions with two for; extend -/
namespace DW
open PySem PySem.Spec PyProof.Rows L2
variable [LamTabs]
theorem pi_anyK {X : Cx} {tg l : Expr} {tl : TE} (K : PySem.W.Frag) (hl : PE X l tl) (h : X.K = K := by rfl) : PI X tg l (iAny K tl) := h ▸ pi_any hl
def lc2F (f0 : PyData → Option (List PyData)) (f : PyData → PyData → Option PyData) (d : PyData) : List PyData := match f0 d with | some es => es.filterMap (f d) | none => []
theorem flat_take {α β : Type} (q : α → List β) {l : List α} {i : Nat} {x : α} (h : l[i]? = some x) : (l.take (i + 1)).flatMap q = (l.take i).flatMap q ++ q x := by
  rw [List.take_add_one, h, List.flatMap_append]; simp
theorem flat_len {α β : Type} (q : α → List β) (l : List α) (i : Nat) : ((l.take i).flatMap q).length ≤ (l.flatMap q).length := by
  have : l.flatMap q = (l.take i).flatMap q ++ (l.drop i).flatMap q := by rw [← List.flatMap_append, List.take_append_drop]
  rw [this, List.length_append]; omega
section
variable {g : Gd} {G : List Sl} {te ta : TE} {tt tt1 : TT} {tg tg1 : TG} {ds es : List PyData} {d : PyData} {ix ix1 : List Nat} {i : Nat} {D : Ends} {tw : TS}
theorem holds_fl {σ : L2.St} {F H F1 : Hp} (h : Holds g G σ F H) (e : Ex F1 F) : Holds { g with Fl := F1 } G σ F H := ⟨h.len, h.st, h.sl, h.apart, h.tab, e⟩
theorem wipe_in (σ : L2.St) (vs : List Nat) : ∀ (l : List Nat), (∀ j ∈ l, j ∈ vs) → wipe (wipe σ l) vs = wipe σ vs
  | [], _ => rfl
  | v :: l, hl => by
    show wipe ((wipe σ l).set v none) vs = _
    rw [wipe_set (hl v List.mem_cons_self)]
    exact wipe_in σ vs l fun j hj => hl j (List.mem_cons_of_mem _ hj)
theorem wipeG_get : ∀ (vs : List Nat) {G : List Sl} {j : Nat} {t : Sl}, (wipeG G vs)[j]? = some t → t = .un ∨ G[j]? = some t
  | [], _, _, _, h => .inr h
  | v :: vs, G, j, t, h => by
    unfold wipeG at h
    by_cases hj : v = j
    · subst hj
      have hi : v < (wipeG G vs).length := by have := (List.getElem?_eq_some_iff.mp h).1; rwa [List.length_set] at this
      rw [List.getElem?_set_self hi] at h; cases h; exact .inl rfl
    · rw [List.getElem?_set_ne hj] at h; exact wipeG_get vs h
theorem el_lc2 {wi wi1 : TI} {vs vs1 : List Nat} (f0 : PyData → Option (List PyData)) (f : PyData → PyData → Option PyData) (G1 : PyData → List Sl) (G2 : PyData → PyData → List Sl)
    (it : IT g wi G ds) (hz : (ds.flatMap (lc2F f0 f)).length ≤ 40000)
    (tgt : ∀ F1, ∀ d ∈ ds, Tg { g with Fl := F1 } tg d (wipeG G vs) (G1 d) ix) (hix : ∀ j ∈ ix, j ∈ vs)
    (ht : ∀ F1, ∀ d ∈ ds, T { g with Fl := F1 } tt (G1 d) (f0 d).isSome)
    (it1 : ∀ F1, ∀ d ∈ ds, ∀ es, f0 d = some es → IT { g with Fl := F1 } wi1 (G1 d) es)
    (nm : ∀ d ∈ ds, ∀ t ∈ G1 d, Sl.mine t = false)
    (tgt1 : ∀ F1, ∀ d ∈ ds, ∀ es, f0 d = some es → ∀ e ∈ es, Tg { g with Fl := F1 } tg1 e (wipeG (G1 d) vs1) (G2 d e) ix1) (hix1 : ∀ j ∈ ix1, j ∈ vs1)
    (ht1 : ∀ F1, ∀ d ∈ ds, ∀ es, f0 d = some es → ∀ e ∈ es, T { g with Fl := F1 } tt1 (G2 d e) (f d e).isSome)
    (he : ∀ F1, ∀ d ∈ ds, ∀ es, f0 d = some es → ∀ e ∈ es, ∀ y, f d e = some y → E { g with Fl := F1 } te (G2 d e) y) :
    EL g (tLc2 wi tg tt wi1 tg1 tt1 te vs vs1) G (ds.flatMap (lc2F f0 f)) := fun σ F H hh Q q => it σ F H hh _ fun J F1 H1 s1 W Dl hD => by
  have hh1 := hh.mono s1
  have hwl : Holds { g with Fl := F1 } (wipeG G vs) (wipe σ vs) F1 H1 := holds_fl (Holds.wipe hh1 vs) (Ex.refl F1)
  have hD0 : g.H0 Dl = none := old_free hh1.st hD
  have nw := new_ok hwl hD
  let Pv : Nat → Hp → Prop := fun i H' => ∃ F' ws, Stp F1 H1 F' H' ∧ Holds { g with Fl := F1 } (wipeG G vs) (wipe σ vs) F' H' ∧ F' Dl = none ∧ H' Dl = some (.lst ws) ∧ DpAll g.K F' ws ((ds.take i).flatMap (lc2F f0 f))
  have flen : ∀ i, ((ds.take i).flatMap (lc2F f0 f)).length ≤ 40000 := fun i => Nat.le_trans (flat_len _ _ _) hz
  refine ⟨fun i m H' => m = ds.length - i ∧ i ≤ ds.length ∧ Pv i H', ⟨ds.length, by simp, Nat.zero_le _, F1, [], Stp.mine s1.i hD, hwl.mono (Stp.mine s1.i hD), s1.i.free hD, upd_same, .nil⟩, ?_⟩
  rintro i m H2 ⟨rfl, hi, F2, ws, s2, hh2, hF2, hH2, hd2⟩
  by_cases hlt : i < ds.length
  · have hget := List.getElem?_eq_getElem hlt
    have hmem : ds[i] ∈ ds := List.getElem_mem hlt
    refine .inr ⟨W.go i F2 H2 hh2.lo hh2.st.i hlt, Pv (i + 1), fun H' p' => ⟨ds.length - (i + 1), by omega, rfl, hlt, p'⟩, fun x H3 y => ?_⟩
    obtain ⟨F3, s3, d3⟩ := W.yld i F2 H2 x H3 ds[i] hh2.lo hh2.st.i hget y
    refine tgt F1 ds[i] hmem x (wipe σ vs) F3 H3 (hh2.mono s3) d3 _ fun σ3 hh3 w3 => ⟨?_, ?_⟩
    · rw [w3 vs hix]; exact wipe_in σ vs vs fun _ h => h
    · refine ht F1 ds[i] hmem σ3 F3 H3 hh3 _ fun F4 H4 s4 => ?_
      have e : (ds.take (i + 1)).flatMap (lc2F f0 f) = _ := flat_take (lc2F f0 f) hget
      have eF : lc2F f0 f ds[i] = match f0 ds[i] with | some es => es.filterMap (f ds[i]) | none => [] := rfl
      have ss := s3.trans s4
      have lo4 : Ex F1 F4 := (s2.trans ss).f
      cases hf : f0 ds[i] with
      | none =>
        show Pv (i + 1) H4
        rw [hf] at eF
        rw [eF, List.append_nil] at e
        exact ⟨F4, ws, s2.trans ss, hh2.mono ss, ss.n Dl _ hH2 hF2, ss.h.lst hH2, by rw [e]; exact ss.f.dps _ ws hd2⟩
      | some es =>
        rw [hf] at eF
        rw [eF] at e
        have e : (ds.take (i + 1)).flatMap (lc2F f0 f) = (ds.take i).flatMap (lc2F f0 f) ++ es.filterMap (f ds[i]) := e
        have hh4 := hh3.mono s4
        refine it1 F1 ds[i] hmem es hf σ3 F4 H4 hh4 _ fun J1 F5 H5 s5 W1 => ?_
        have t5 := ss.trans s5
        have hh5 := hh4.mono s5
        have hw5 : Holds { g with Fl := F5 } (wipeG (G1 ds[i]) vs1) (wipe σ3 vs1) F5 H5 := holds_fl (g := { g with Fl := F1 }) (Holds.wipe hh5 vs1) (Ex.refl F5)
        have hF5 := t5.n Dl _ hH2 hF2
        have hH5 := t5.h.lst hH2
        have nw1 : ∀ (j : Nat) (t : Sl), (wipeG (G1 ds[i]) vs1)[j]? = some t → t.mine = true → (wipe σ3 vs1)[j]? ≠ some (some (.ref Dl)) := fun j t e1 m1 => by
          rcases wipeG_get vs1 e1 with rfl | e2
          · cases m1
          · rw [nm _ hmem t (List.mem_of_getElem? e2)] at m1; cases m1
        let Pw : Nat → Hp → Prop := fun j H' => ∃ F' ws, Stp F1 H1 F' H' ∧ Holds { g with Fl := F1 } (wipeG G vs) (wipe σ vs) F' H' ∧ Holds { g with Fl := F5 } (wipeG (G1 ds[i]) vs1) (wipe σ3 vs1) F' H' ∧ F' Dl = none ∧ H' Dl = some (.lst ws) ∧ DpAll g.K F' ws ((ds.take i).flatMap (lc2F f0 f) ++ (es.take j).filterMap (f ds[i]))
        have blen : ∀ j, ((ds.take i).flatMap (lc2F f0 f) ++ (es.take j).filterMap (f ds[i])).length ≤ 40000 := fun j => by
          have h1 := flen (i + 1)
          rw [e, List.length_append] at h1
          have h2 : ((es.take j).filterMap (f ds[i])).length ≤ (es.filterMap (f ds[i])).length := by
            have : es.filterMap (f ds[i]) = (es.take j).filterMap (f ds[i]) ++ (es.drop j).filterMap (f ds[i]) := by rw [← List.filterMap_append, List.take_append_drop]
            rw [this, List.length_append]; omega
          rw [List.length_append]; omega
        refine ⟨fun j k H' => k = es.length - j ∧ j ≤ es.length ∧ Pw j H', ⟨es.length, by simp, Nat.zero_le _, F5, ws, s2.trans t5, hh2.mono t5, hw5, hF5, hH5, by rw [List.take_zero]; show DpAll _ _ _ (_ ++ []); rw [List.append_nil]; exact t5.f.dps _ ws hd2⟩, ?_⟩
        rintro j k H6 ⟨rfl, hj, F6, ws6, s6, hh6, hw6, hF6, hH6, hd6⟩
        by_cases hlj : j < es.length
        · have hgj := List.getElem?_eq_getElem hlj
          have hmj : es[j] ∈ es := List.getElem_mem hlj
          refine .inr ⟨W1.go j F6 H6 hw6.lo hw6.st.i hlj, Pw (j + 1), fun H' p' => ⟨es.length - (j + 1), by omega, rfl, hlj, p'⟩, fun x H7 y => ?_⟩
          obtain ⟨F7, s7, d7⟩ := W1.yld j F6 H6 x H7 es[j] hw6.lo hw6.st.i hgj y
          refine tgt1 F5 ds[i] hmem es hf es[j] hmj x (wipe σ3 vs1) F7 H7 (hw6.mono s7) d7 _ fun σ8 hh8 w8 => ⟨?_, ?_⟩
          · rw [w8 vs1 hix1]; exact wipe_in σ3 vs1 vs1 fun _ h => h
          · refine ht1 F5 ds[i] hmem es hf es[j] hmj σ8 F7 H7 hh8 _ fun F9 H9 s9 => ?_
            have ej : (es.take (j + 1)).filterMap (f ds[i]) = _ := filt_take (f := f ds[i]) hgj
            cases hfy : f ds[i] es[j] with
            | none =>
              show Pw (j + 1) H9
              rw [hfy] at ej
              have sz := s7.trans s9
              exact ⟨F9, ws6, s6.trans sz, hh6.mono sz, hw6.mono sz, sz.n Dl _ hH6 hF6, sz.h.lst hH6, by rw [ej, List.append_nil]; exact sz.f.dps _ ws6 hd6⟩
            | some yv =>
              show te σ8 H9 _
              rw [hfy] at ej
              refine he F5 ds[i] hmem es hf es[j] hmj yv hfy σ8 F9 H9 (hh8.mono s9) _ fun v F10 H10 s10 d10 => ?_
              have sz := (s7.trans s9).trans s10
              have hF10 := sz.n Dl _ hH6 hF6
              have hH10 := sz.h.lst hH6
              refine ⟨ws6, hH10, Nat.lt_of_le_of_lt (by rw [dps_len hd6]; exact blen j) (show 40000 < sizeLine by decide), F10, ws6 ++ [v], (s6.trans sz).mut hD hF10 hH10 (fun _ z => by cases z), (hh6.mono sz).mut hD0 hF10 hH10 (fun _ z => by cases z) (fun j t e1 m e2 => nw j ⟨t, e1, m⟩ e2), (hw6.mono sz).mut hD0 hF10 hH10 (fun _ z => by cases z) nw1, hF10, upd_same, ?_⟩
              rw [ej, ← List.append_assoc]
              exact dps_app (sz.f.dps _ ws6 hd6) (.cons d10 .nil)
        · have ee : j = es.length := by omega
          subst ee
          rw [List.take_length, ← e] at hd6
          exact .inl ⟨W1.stop F6 H6 hw6.lo hw6.st.i, F6, ws6, s6, hh6, hF6, hH6, hd6⟩
  · have e : i = ds.length := by omega
    subst e
    rw [List.take_length] at hd2
    exact .inl ⟨W.stop F2 H2 hh2.lo hh2.st.i, q Dl ws F2 H2 (s1.trans s2) (old_free s1 hD) hF2 hH2 hd2⟩
end
end DW
/-! x = xs.pop()[k], xs[k] = e -/
namespace DW
open PySem PySem.Spec PyProof.Rows L2
end DW
/-! max of a list of ints, math.lcm -/
namespace DW
open PySem PySem.Spec PyProof.Rows L2
variable [LamTabs]
/-- the greatest of some ints -/
def maxI (x : Int) (xs : List Int) : Int := xs.foldl (fun a y => if y > a then y else a) x
theorem maxI_le : ∀ (xs : List Int) (x : Int), x ≤ maxI x xs ∧ ∀ y ∈ xs, y ≤ maxI x xs
  | [], x => ⟨Int.le_refl _, fun y h => by cases h⟩
  | z :: xs, x => by
    have h := maxI_le xs (if z > x then z else x)
    have e : maxI x (z :: xs) = maxI (if z > x then z else x) xs := rfl
    rw [e]
    refine ⟨?_, fun y hy => ?_⟩
    · have := h.1; split at this <;> (rename_i q; split <;> omega)
    · rcases List.mem_cons.mp hy with rfl | hy
      · have := h.1; split at this <;> (rename_i q; split <;> omega)
      · exact h.2 y hy
theorem maxI_mem : ∀ (xs : List Int) (x : Int), maxI x xs ∈ x :: xs
  | [], x => List.mem_cons_self
  | z :: xs, x => by
    have h := maxI_mem xs (if z > x then z else x)
    have e : maxI x (z :: xs) = maxI (if z > x then z else x) xs := rfl
    rw [e]
    rcases List.mem_cons.mp h with h | h
    · rw [h]
      split
      · exact List.mem_cons_of_mem _ List.mem_cons_self
      · exact List.mem_cons_self
    · exact List.mem_cons_of_mem _ (List.mem_cons_of_mem _ h)
theorem maxI_uniq {xs : List Int} {x m : Int} (h1 : m ∈ x :: xs) (h2 : ∀ y ∈ x :: xs, y ≤ m) : m = maxI x xs := by
  have a := h2 _ (maxI_mem xs x)
  have b : m ≤ maxI x xs := by
    rcases List.mem_cons.mp h1 with rfl | h
    · exact (maxI_le xs m).1
    · exact (maxI_le xs x).2 m h
  omega
theorem uMax1 {X : Cx} (K : PySem.W.Frag) (hc : X.calm = true) (h : X.K = K := by rfl) : CallR X (.builtin "max") (rMax K) := h ▸ cr_max hc
section
variable {g : Gd} {G : List Sl} {te ta tb : TE} {d x y : PyData} {ds es : List PyData} {i : Nat}
theorem maxL_i {n : Int} {ns : List Int} : C1 g (rMax g.K) [.list ((n :: ns).map .int)] (.int (maxI n ns)) := fun vs H h Q q => by
  obtain ⟨v, rfl, hw⟩ := ab_one h
  obtain ⟨a, ws, rfl, h1, h2⟩ := dp_sq hw
  have e := dps_vints h2
  subst e
  refine ⟨a, n :: ns, rfl, h1, by simp, fun m hm hle => ?_⟩
  rw [maxI_uniq hm hle]
  exact q _ (.int _)
end
end DW
/-! exceptions without fields: raise C('text'), try: return (.., f(..)) except W as e, isinstance(e, C) -/
namespace DW
open PySem PySem.Spec PyProof.Rows L2
end DW
namespace DW
open PySem PySem.Spec PyProof.Rows L2
end DW
/-! own dicts by text keys: d.setdefault(k, v), list(d.items()) -/
namespace DW
open PySem PySem.Spec PyProof.Rows L2
end DW
/-! max of three ints, a, b = x, y, tuple + tuple -/
namespace DW
open PySem PySem.Spec PyProof.Rows L2
end DW
/-! dicts keyed by tuples of any depth: {k: v for .. in ..}, k in d, d.get(k, x) -/
namespace DW
open PySem PySem.Spec PyProof.Rows L2
variable [LamTabs]
mutual
def nk : PyData → NestedKey
  | .none => .none
  | .bool b => .num (if b = true then 1 else 0)
  | .int i => .num i
  | .str x => .text x
  | .tuple ds => .tup (nks ds)
  | .list _ => .none
  | .dict _ => .none
def nks : List PyData → List NestedKey
  | [] => []
  | d :: ds => nk d :: nks ds
end
mutual
/-- no list, no dict, no truth value -/
def kyD : PyData → Bool
  | .none => true
  | .bool _ => false
  | .int _ => true
  | .str _ => true
  | .tuple ds => kyDs ds
  | .list _ => false
  | .dict _ => false
def kyDs : List PyData → Bool
  | [] => true
  | d :: ds => kyD d && kyDs ds
end
/-! ### the object -/
abbrev NE := NestedKey × Addr × V
def NdRel : List NE → List (NestedKey × Addr × Value) → Prop := Paired fun p q => p.1 = q.1 ∧ p.2.1 = q.2.1 ∧ RelV p.2.2 q.2.2
def ndO (P : Program) (w : World) (D : Addr) (kvs : List NE) : HO := .ext fun h => kvs.length ≤ sizeLine ∧ (D == sysModules) = false ∧ ∃ xs, NdRel kvs xs ∧ ∃ o es ep, h.get? D = some o ∧ o.ExactDict ∧ o.data = .dict es ep ∧ es.toList = xs.map (entryOfKey (nestedKind P w)) ∧ (xs.map (·.1)).Nodup
def atV (kvs : List NE) (k : NestedKey) : Option (Addr × V) := (kvs.find? fun x => decide (x.1 = k)).map (·.2)
def storeV (kvs : List NE) (k : NestedKey) (a : Addr) (v : V) : List NE := if (atV kvs k).isSome = true then kvs.map (fun x => if x.1 = k then (x.1, x.2.1, v) else x) else kvs ++ [(k, a, v)]
def KeyAt (K : PySem.W.Frag) (H : Hp) (k : NestedKey) (a : Addr) : Prop := ∃ d, kyD d = true ∧ nk d = k ∧ k.depth ≤ 8 ∧ Dp K H (.ref a) d
def KeysAt (K : PySem.W.Frag) (H : Hp) (kvs : List NE) : Prop := ∀ p ∈ kvs, KeyAt K H p.1 p.2.1
theorem KeyAt.mono {K : PySem.W.Frag} {F H : Hp} (e : Ex F H) {k : NestedKey} {a : Addr} : KeyAt K F k a → KeyAt K H k a := fun ⟨d, h1, h2, h3, h4⟩ => ⟨d, h1, h2, h3, e.dp d _ h4⟩
/-! ### operators -/
/-! d.get(k, x) -/
end DW
/-! a dict comprehension, whatever its dict is held as -/
namespace DW
open PySem PySem.Spec PyProof.Rows L2
variable [LamTabs]
/-! keyed by tuples -/
def stN (P : Program) (w : World) (K : PySem.W.Frag) : Addr → V → V → Hp → (Hp → Prop) → Prop := fun D y z H Nx => ∃ kvs a k, y = .ref a ∧ H D = some (ndO P w D kvs) ∧ kvs.length < sizeLine ∧ KeysAt K H kvs ∧ KeyAt K H k a ∧ Nx (upd H D (ndO P w D (storeV kvs k a z)))
end DW
/-! dicts keyed by tuples, by data -/
namespace DW
open PySem PySem.Spec PyProof.Rows L2
variable [LamTabs]
abbrev KD := List (PyData × PyData)
def hasN (kd : KD) (k : PyData) : Bool := kd.any fun p => decide (nk p.1 = nk k)
def getN (kd : KD) (k : PyData) : Option PyData := (kd.find? fun p => decide (nk p.1 = nk k)).map (·.2)
def putN (kd : KD) (k d : PyData) : KD := if hasN kd k = true then kd.map (fun p => if nk p.1 = nk k then (p.1, d) else p) else kd ++ [(k, d)]
structure NdK (K : PySem.W.Frag) (F : Hp) (p : NE) (q : PyData × PyData) : Prop where
  k : p.1 = nk q.1
  y : kyD q.1 = true
  n : p.1.depth ≤ 8
  a : Dp K F (.ref p.2.1) q.1
  d : Dp K F p.2.2 q.2
def Nd (K : PySem.W.Frag) (F : Hp) : List NE → KD → Prop := Paired (NdK K F)
section
variable {K : PySem.W.Frag} {F H : Hp}
theorem NdK.mono (e : Ex F H) {p : NE} {q : PyData × PyData} (h : NdK K F p q) : NdK K H p q := ⟨h.k, h.y, h.n, e.dp _ _ h.a, e.dp _ _ h.d⟩
theorem Nd.mono (e : Ex F H) {kvs : List NE} {kd : KD} (h : Nd K F kvs kd) : Nd K H kvs kd := Paired.mapP h fun _ _ z => z.mono e
theorem Nd.at_ (k : PyData) : ∀ {kvs : List NE} {kd : KD}, Nd K F kvs kd → (atV kvs (nk k) = none ∧ getN kd k = none ∧ hasN kd k = false) ∨ ∃ a v d, atV kvs (nk k) = some (a, v) ∧ getN kd k = some d ∧ hasN kd k = true ∧ Dp K F v d
  | _, _, .nil => .inl ⟨rfl, rfl, rfl⟩
  | p :: ps, q :: qs, .cons h t => by
    have hk := h.k
    unfold atV getN hasN
    rw [List.find?_cons, List.find?_cons, List.any_cons, hk]
    by_cases e : nk q.1 = nk k
    · rw [decide_eq_true e]
      exact .inr ⟨p.2.1, p.2.2, q.2, rfl, rfl, rfl, h.d⟩
    · rw [decide_eq_false e, Bool.false_or]
      exact Nd.at_ k t
theorem Nd.isSome {k : PyData} {kvs : List NE} {kd : KD} (h : Nd K F kvs kd) : (atV kvs (nk k)).isSome = hasN kd k := by
  rcases h.at_ k with ⟨e1, _, e3⟩ | ⟨_, _, _, e1, _, e3, _⟩ <;> rw [e1, e3] <;> rfl
theorem Nd.map_ (k : PyData) {v : V} {d : PyData} (hd : Dp K F v d) : ∀ {kvs : List NE} {kd : KD}, Nd K F kvs kd → Nd K F (kvs.map (fun x => if x.1 = nk k then (x.1, x.2.1, v) else x)) (kd.map (fun p => if nk p.1 = nk k then (p.1, d) else p))
  | _, _, .nil => .nil
  | p :: ps, q :: qs, .cons h t => by
    rw [List.map_cons, List.map_cons]
    refine .cons ?_ (Nd.map_ k hd t)
    by_cases e : nk q.1 = nk k
    · rw [if_pos e, if_pos (by rw [h.k]; exact e)]; exact ⟨h.k, h.y, h.n, h.a, hd⟩
    · rw [if_neg e, if_neg (by rw [h.k]; exact e)]; exact h
theorem Nd.app {k : PyData} {a : Addr} {v : V} {d : PyData} (n : NdK K F (nk k, a, v) (k, d)) : ∀ {kvs : List NE} {kd : KD}, Nd K F kvs kd → Nd K F (kvs ++ [(nk k, a, v)]) (kd ++ [(k, d)])
  | _, _, .nil => .cons n .nil
  | _ :: _, _ :: _, .cons h t => .cons h (Nd.app n t)
theorem Nd.put {k : PyData} {a : Addr} {v : V} {d : PyData} (n : NdK K F (nk k, a, v) (k, d)) {kvs : List NE} {kd : KD} (h : Nd K F kvs kd) : Nd K F (storeV kvs (nk k) a v) (putN kd k d) := by
  unfold storeV putN
  rw [h.isSome]
  by_cases e : hasN kd k = true
  · rw [if_pos e, if_pos e]; exact h.map_ k n.d
  · rw [if_neg e, if_neg e]; exact h.app n
theorem Nd.len {kvs : List NE} {kd : KD} (h : Nd K F kvs kd) : kvs.length = kd.length := Paired.length h
end
theorem ndO_nt {P : Program} {w : World} {D : Addr} {kvs : List NE} : ∀ ps, ndO P w D kvs ≠ .tbl ps := fun _ z => by unfold ndO at z; cases z
section
variable {P : Program} {w : World} {g : Gd} {G G' : List Sl} {te tk tv tx : TE} {tt : TT} {tg : TG} {tw : TS} {d x k : PyData} {ds : List PyData} {kd : KD} {i j : Nat} {D' : Ends} {ix : List Nat}
/-- a dict of the ground, read only -/
def FactN (P : Program) (w : World) (g : Gd) (D : Addr) (kd : KD) : Prop := ∃ kvs, g.F0 D = some (ndO P w D kvs) ∧ Nd g.K g.F0 kvs kd
theorem FactN.at_ {D : Addr} (f : FactN P w g D kd) {σ : L2.St} {F H : Hp} (hh : Holds g G σ F H) : ∃ kvs, F D = some (ndO P w D kvs) ∧ H D = some (ndO P w D kvs) ∧ Nd g.K F kvs kd := by
  obtain ⟨kvs, h1, h2⟩ := f
  have hF := hh.st.f D _ h1 ndO_nt
  exact ⟨kvs, hF, hh.st.i.ex D _ hF ndO_nt, h2.mono hh.st.f⟩
end
end DW
/-! dicts keyed by tuples: what stands in them -/
namespace DW
open PySem PySem.Spec PyProof.Rows L2
end DW
/-! xs.insert(n, d) on a list of ours; what a dict comprehension holds -/
namespace DW
open PySem PySem.Spec PyProof.Rows L2
end DW
/-! defs that give a tuple of a new list and data: the list is the caller's -/
namespace DW
open PySem PySem.Spec PyProof.Rows L2
variable [LamTabs]
/-- what such an answer is: t the tuple, p the list, both new -/
structure TL (K : PySem.W.Frag) (H F' H' : Hp) (t p : Addr) (us : List V) (zv : V) (ls : List PyData) (z : PyData) : Prop where
  ht : H' t = some (.tup [.ref p, zv])
  hp : H' p = some (.lst us)
  nt : H t = none
  np : H p = none
  ft : F' t = none
  fp : F' p = none
  dl : DpAll K F' us ls
  dz : Dp K F' zv z
def ETL (g : Gd) (te : TE) (G : List Sl) (ls : List PyData) (z : PyData) : Prop := ∀ σ F H, Holds g G σ F H → ∀ Q : VK, (∀ t p us zv F' H', Stp F H F' H' → TL g.K H F' H' t p us zv ls z → Q (.ref t) H') → te σ H Q
/-- the answer's objects for good -/
theorem stp_keep {F H H' : Hp} {a : Addr} {o : HO} {F' : Hp} (s : Stp F H F' H') (n : H a = none) (f : F' a = none) (h : H' a = some o) (nt : ∀ ps, o ≠ .tbl ps) : Stp F H (upd F' a o) H' ∧ Ex F' (upd F' a o) := by
  have e : Ex F' (upd F' a o) := fun b u q _ => by rw [upd_ne (ne_of_none q f)]; exact q
  refine ⟨⟨s.f.trans e, ⟨fun b u q m => ?_, fun b ps q => ?_⟩, s.h, s.s, s.t, fun b u q m => ?_⟩, e⟩
  · by_cases hb : b = a
    · subst hb; rw [upd_same] at q; cases q; exact h
    · rw [upd_ne hb] at q; exact s.i.ex b u q m
  · by_cases hb : b = a
    · subst hb; rw [upd_same] at q; exact nt ps (Option.some.inj q)
    · rw [upd_ne hb] at q; exact s.i.nt b ps q
  · rw [upd_ne (ne_of_none q n)]; exact s.n b u q m
theorem TL.keep {K : PySem.W.Frag} {F H F' H' : Hp} {t p : Addr} {us : List V} {zv : V} {ls : List PyData} {z : PyData} (s : Stp F H F' H') (x : TL K H F' H' t p us zv ls z) : ∃ F2, Stp F H F2 H' ∧ Ex F' F2 ∧ Dp K F2 (.ref t) (.tuple [.list ls, z]) := by
  have ne : t ≠ p := fun e => by have := x.ht; rw [e, x.hp] at this; cases this
  obtain ⟨s1, e1⟩ := stp_keep s x.np x.fp x.hp fun _ z => by cases z
  obtain ⟨s2, e2⟩ := stp_keep s1 x.nt (by rw [upd_ne ne]; exact x.ft) x.ht fun _ z => by cases z
  refine ⟨_, s2, e1.trans e2, .tup (.inl (.inl upd_same)) (.cons ?_ (.cons ((e1.trans e2).dp _ _ x.dz) .nil))⟩
  exact .lst (.inl (.inl (by rw [upd_ne ne.symm, upd_same]))) ((e1.trans e2).dps _ _ x.dl)
section
variable {g : Gd} {G : List Sl} {te tb : TE} {ta : TA} {tt : TT} {tu tw : TS} {d z : PyData} {ds ls : List PyData} {i j : Nat} {D : Ends}
theorem ETL.e (h : ETL g te G ls z) : E g te G (.tuple [.list ls, z]) := fun σ F H hh Q q => h σ F H hh _ fun t p us zv F1 H1 s1 x => by
  obtain ⟨F2, s2, _, d⟩ := x.keep s1
  exact q _ F2 H1 s2 d
end
end DW
/-! own dicts keyed by tuples: {}, d[k], d[k] = v, d.get(k), in, len; < of alike data; max(.., default=i) -/
namespace DW
open PySem PySem.Spec PyProof.Rows L2
/-! ### rules -/
/-! ### < of alike data -/
/-! ### max(a list of ints, default=k) -/
/-! ### by data -/
end DW
/-! sorted of alike tuples, empty ones among them -/
namespace DW
open PySem PySem.Spec PySem.W PySem.SeqAt PyProof.Rows
end DW
namespace DW
open PySem PySem.Spec PyProof.Rows L2
end DW
/-! texts: ' '.join(..), f'..', str(x), int(a truth value) -/
namespace DW
open PySem PySem.Spec PyProof.Rows L2
variable [LamTabs]
theorem int_bl {b : Bool} {g : Gd} : C1 g rIntU [.bool b] (.int (if b then 1 else 0)) := fun vs H h Q q => by
  obtain ⟨v, rfl, hw⟩ := ab_one h
  cases hw
  exact .inr ⟨b, rfl, q _ (.int _)⟩
end DW
/-! own exceptions whose __init__(self, x) keeps one field: the def of __init__, raise C(e), try: y = f(..) / except C as e, e.f, isinstance(e, C2) -/
namespace DW
open PySem PySem.Spec PyProof.Rows L2
variable [LamTabs]
/-- what the text says of an own class with __init__(self, x): self.f = x -/
structure XiOk (P : Program) (w : World) (K : PySem.W.Frag) (mg : Str → Option Value) (base : Heap) (x : Str) (C : Addr) (f : Str) : Prop where
  gC : mg x = some (.ref C)
  T : OexC K C
  noF : PySem.W.findIn K (.ref C) f = some none
  ini : ∃ (fI : Addr) (fd : FuncData) (ps : List Str), PySem.W.findIn K (.ref C) "__init__" = some (some (.ref fI)) ∧ PySem.W.typeIn K (.ref fI) = some (.type "function") ∧ FnOk P w K mg base CX0 1 fI fd ps (spI1 C f) ∧ Binds K fd ps []
section
variable {P : Program} {w : World} {K : PySem.W.Frag} {mg : Str → Option Value} {base : Heap} {C : Addr} {f x qual p : Str} {st : Stmt} {fI : Addr} {fd : FuncData}
/-- the def of __init__ -/
theorem init_ok (F : Fun K "__init__" qual st fI fd) (Sc : FnScope ["self", p] ["self", p] (defScope st)) (hC : OexC K C) (hf : PySem.W.findIn K (.ref C) f = some none)
    (body : ∀ (cdv : Value) (A : Around) (outer : List Env) (s : Shared) (H : Hp) (E : XK), PSs (cxOf CX0 P w K mg base ["self", p] qual (defScope st) fI cdv A outer s H E).nox (defBody st) (tOst K f (tVar 0) (tVar 1))) :
    FnOk P w K mg base CX0 1 fI fd ["self", p] (spI1 C f) :=
  F.ok Sc (fun vs H Q E h => by obtain ⟨a, v, rfl, _⟩ := h; rfl) fun cdv A outer s H vs Q E hr h => ⟨_, body cdv A outer s H E, init1_t (n1 := "self") (n2 := p) (Ek := E) hC hf h⟩
end
/-- raise C(e) -/
theorem ps_raiseI {X : Cx} {x f : Str} {C : Addr} {e : Expr} {ta : TA} {k : Nat} {p pos pos2 : Pos} {W : WX} (hc : X.calm = true) (T : XiOk X.prog X.w X.K X.mg X.base x C f) (hr : Room k X.A) (hk : 2 ≤ k) (tk : Takes X W) (hg : Gl X x) (ha : PA X (e :: []) ta) (hdb : (x == ("__debug__" : Str)) = false := by decide)
    (he : starEach (e :: []) X.env = (false, eval e X.env) :: starEach [] X.env := by rfl) (hpl : (backTo pos (starEach [] X.env)).any (·.1) = false := by rfl) :
    PS X (.Raise (some (.Call (.Name x p) (e :: []) [] pos)) none pos2) (fun _ σ H => tMkO C (spI1 C f) [] ta σ H fun cls d H' => W cls d σ H') := by
  obtain ⟨fI, fd, ps, iC, tI, F1, hb⟩ := T.ini
  exact ps_raise hc tk (pmk_oex (CX := CX0) T.T iC tI F1 (hr.mono hk) hb .nil (fun _ _ _ _ _ _ _ z => z.elim) hg T.gC ha hdb he hpl)
/-- f(..), f a def that may raise -/
theorem pe_dfX {X : Cx} {k j : Nat} {x : Str} {ps : List Str} {sp : Sp} {e : Expr} {es : List Expr} {t : TA} {p pos : Pos} {W : WX} (D : DfX X.prog X.w X.K X.mg X.base j x ps sp) (hr : Room k X.A) (hj : j ≤ k) (hg : Gl X x) (tk : Takes X W) (ha : PA X (e :: es) t) (hdb : (x == ("__debug__" : Str)) = false := by decide)
    (he : starEach (e :: es) X.env = (false, eval e X.env) :: starEach es X.env := by rfl) (hpl : (backTo pos (starEach es X.env)).any (·.1) = false := by rfl) : PE X (.Call (.Name x p) (e :: es) [] pos) (tCallS sp (WE W) t) := by
  obtain ⟨f, fd, F, hm, hk, hb⟩ := D.ex
  exact pe_callS F (hr.mono hj) hg hm hk hb (fun σ => passAt tk σ) ha hdb he hpl
end DW
namespace DW
open PySem PySem.Spec PyProof.Rows L2
end DW
/-! sorted(d.items()), d an own dict by text keys -/
namespace DW
open PySem PySem.Spec PyProof.Rows L2
end DW
namespace DW
open PySem PySem.Spec PyProof.Rows L2
end DW
namespace DW
open PySem PySem.Spec PyProof.Rows L2
variable [LamTabs]
/-- k in d, d an own dict by text keys -/
theorem t_din {g : Gd} {G : List Sl} {kvs : List (Str × PyData)} {i : Nat} {ty : TE} {k : Str} (h : (G[i]?).bind Sl.kv = some kvs) (hk : E g ty G (.str k)) : T g (tB (tDIn ty (tVar i))) G (getK kvs k).isSome := fun σ F H hh Q q => hk σ F H hh _ fun u F1 H1 s1 d1 => by
  cases d1
  obtain ⟨p, vs, ev, hr, hv⟩ := dict_at (hh.mono s1) h
  refine ⟨.ref p, ev, p, valV vs (Sum.inr k : Key), rfl, .inl ⟨vs, .inr k, hr, rfl, rfl⟩, (getK kvs k).isSome, ?_, q F1 H1 s1⟩
  cases e : getK kvs k with
  | none => rw [(kv_get hv).2 e]; rfl
  | some d =>
    obtain ⟨v, e1, e2⟩ := (kv_get hv).1 d e
    rw [e1]; rfl
end DW
/-! own dicts keyed by tuples: d.setdefault(k, v), sorted(d) -/
namespace DW
open PySem PySem.Spec PyProof.Rows L2
end DW
namespace DW
open PySem PySem.Spec PyProof.Rows L2
end DW
/-! expressions that change one own slot: d.setdefault(k, v) inside a test, a tuple, a comprehension -/
namespace DW
open PySem PySem.Spec PyProof.Rows L2
variable [LamTabs]
structure Stq (σ : L2.St) (i : Nat) (F H F' H' : Hp) : Prop where
  f : Ex F F'
  fr : ∀ a o, H a = some o → (∀ ps, o ≠ .tbl ps) → σ[i]? ≠ some (some (V.ref a)) → H' a = some o
  s : ∀ a o, H a = some o → ∃ o', H' a = some o'
  n : ∀ a o, H a = some o → F a = none → F' a = none
section
variable {σ : L2.St} {i : Nat} {F H F1 H1 F2 H2 : Hp}
theorem Stp.q (s : Stp F H F1 H1) : Stq σ i F H F1 H1 := ⟨s.f, fun a o e n _ => s.h a o e n, s.s, s.n⟩
theorem Stq.trans (a : Stq σ i F H F1 H1) (b : Stq σ i F1 H1 F2 H2) : Stq σ i F H F2 H2 :=
  ⟨a.f.trans b.f, fun x o e n q => b.fr x o (a.fr x o e n q) n q, fun x o e => let ⟨o', e'⟩ := a.s x o e; b.s x o' e', fun x o e n => let ⟨o', e'⟩ := a.s x o e; b.n x o' e' (a.n x o e n)⟩
end
end DW
/-! xs[::-1] -/
namespace DW
open PySem PySem.Spec PyProof.Rows L2
end DW
/-! {text: v for ..} as an own dict, list(d) of a dict by text keys -/
namespace DW
open PySem PySem.Spec PyProof.Rows L2
end DW
namespace DW
open PySem PySem.Spec PyProof.Rows L2
end DW
/-! xs.extend(a tuple); loops and comprehensions over a call that raises; try .. except C: without a name -/
namespace DW
open PySem PySem.Spec PyProof.Rows L2
end DW
/-! sorted(set(xs)), xs a list of whole numbers -/
namespace DW
open PySem PySem.Spec PyProof.Rows L2
end DW
/-! xs.count(x) over data; a loop with facts of the heap beside the slots -/
namespace DW
open PySem PySem.Spec PyProof.Rows L2
end DW
/-! d.setdefault(k, []).append(x): an own dict by tuples whose values are own lists -/
namespace DW
open PySem PySem.Spec PyProof.Rows L2
variable [LamTabs]
abbrev GL := List (PyData × List PyData)
structure GdK (K : PySem.W.Frag) (H0 F H : Hp) (p : NE) (q : PyData × List PyData) : Prop where
  k : p.1 = nk q.1
  y : kyD q.1 = true
  n : (nk q.1).depth ≤ 8
  a : Dp K F (.ref p.2.1) q.1
  v : ∃ b us, p.2.2 = .ref b ∧ H0 b = none ∧ F b = none ∧ H b = some (.lst us) ∧ DpAll K F us q.2
abbrev GdR (K : PySem.W.Frag) (H0 F H : Hp) : List NE → GL → Prop := Paired (GdK K H0 F H)
def vAd (p : NE) : V := p.2.2
structure OpD (P : Program) (w : World) (K : PySem.W.Frag) (H0 : Hp) (D : Addr) (gs : GL) (F H : Hp) : Prop where
  ex : ∃ kvs, H0 D = none ∧ F D = none ∧ H D = some (ndO P w D kvs) ∧ GdR K H0 F H kvs gs ∧ (kvs.map vAd).Nodup ∧ (kvs.map (·.1)).Nodup
section
variable {P : Program} {w : World} {K : PySem.W.Frag} {H0 F H F' H' : Hp} {D : Addr}
theorem GdK.mono (s : Stp F H F' H') {p : NE} {q : PyData × List PyData} (h : GdK K H0 F H p q) : GdK K H0 F' H' p q := by
  obtain ⟨b, us, e, h0, hF, hH, d⟩ := h.v
  exact ⟨h.k, h.y, h.n, s.f.dp _ _ h.a, b, us, e, h0, s.n b _ hH hF, s.h.lst hH, s.f.dps _ _ d⟩
theorem OpD.mono (gs : GL) (F H F' H' : Hp) (s : Stp F H F' H') (h : OpD P w K H0 D gs F H) : OpD P w K H0 D gs F' H' := by
  obtain ⟨kvs, h0, hF, hH, r, nd⟩ := h.ex
  exact ⟨kvs, h0, s.n D _ hH hF, s.h D _ hH ndO_nt, Paired.mapP r fun _ _ z => z.mono s, nd⟩
end
def NoMine (G : List Sl) : Prop := ∀ (j : Nat) (t : Sl), G[j]? = some t → t.mine = false
theorem NoMine.new {G : List Sl} {σ : L2.St} (h : NoMine G) {p : Addr} : ∀ (j : Nat) (t : Sl), G[j]? = some t → t.mine = true → σ[j]? ≠ some (some (V.ref p)) := fun j t e m => by rw [h j t e] at m; cases m
end DW
/-! sorted(d) of a dict by tuples, an empty tuple among its keys; sum of a list of ints -/
namespace DW
open PySem PySem.Spec PySem.W PySem.SeqAt PyProof.Rows
end DW
namespace DW
open PySem PySem.Spec PyProof.Rows L2
end DW
/-! a module's constant tuple of texts -/
namespace DW
open PySem PySem.Spec PyProof.Rows L2
variable [LamTabs]
/-- what the text says of a module's name that stands for a tuple of texts -/
structure TcOk (K : PySem.W.Frag) (mg : Str → Option Value) (x : Str) (p : Addr) (ss : List Str) : Prop where
  gC : mg x = some (.ref p)
  sq : ∃ (o : Obj) (its : Array Value) (n : Nat), K.lookup p = some o ∧ o.cls = .type "tuple" ∧ o.data = .seq its n ∧ its.size ≤ sizeLine ∧ Vals (ss.map V.str) its.toList
theorem TcOk.c {K : PySem.W.Frag} {mg : Str → Option Value} {x : Str} {p : Addr} {ss : List Str} (T : TcOk K mg x p ss) : ∃ u, mg x = some u ∧ RelV (.ref p) u := ⟨_, T.gC, rfl⟩
end DW
/-! xs[lo:hi:step] of a list -/
namespace DW
open PySem PySem.Spec PyProof.Rows L2
end DW
namespace DW
open PySem PySem.Spec PyProof.Rows L2
end DW
/-! comprehensions over a list of things of any kind, told by an injective coding -/
namespace DW
open PySem PySem.Spec PyProof.Rows L2
variable [LamTabs]
section
variable {g : Gd} {G : List Sl} {wi : TI} {tg : TG} {tt : TT} {te : TE} {vs ix : List Nat} {α : Type}
theorem fm_enc {enc : α → PyData} {f : PyData → Option PyData} {q : α → Bool} {h : α → PyData} : ∀ {S : List α}, (∀ x ∈ S, f (enc x) = if q x = true then some (h x) else none) → (S.map enc).filterMap f = (S.filter q).map h
  | [], _ => rfl
  | x :: S, e => by
    rw [List.map_cons, List.filterMap_cons, e x List.mem_cons_self, List.filter_cons]
    have ih := fm_enc (S := S) fun y hy => e y (List.mem_cons_of_mem _ hy)
    cases hq : q x with
    | true => rw [if_pos rfl, if_pos rfl, List.map_cons, ← ih]
    | false => rw [if_neg (by decide), if_neg (by decide), ← ih]
theorem dec_of (enc : α → PyData) (inj : ∀ x y, enc x = enc y → x = y) (x0 : α) : ∃ dec : PyData → α, ∀ x, dec (enc x) = x := by
  classical
  refine ⟨fun d => if h : ∃ x, enc x = d then h.choose else x0, fun x => ?_⟩
  have h : ∃ y, enc y = enc x := ⟨x, rfl⟩
  show (if h : ∃ y, enc y = enc x then h.choose else x0) = x
  rw [dif_pos h]
  exact inj _ _ h.choose_spec
theorem el_mapI (enc : α → PyData) (inj : ∀ x y, enc x = enc y → x = y) (S : List α) (q : α → Bool) (h : α → PyData) (G1 : α → List Sl) (it : IT g wi G (S.map enc)) (hz : S.length ≤ 40000)
    (tgt : ∀ F1, ∀ x ∈ S, Tg { g with Fl := F1 } tg (enc x) (wipeG G vs) (G1 x) ix) (hix : ∀ j ∈ ix, j ∈ vs)
    (ht : ∀ F1, ∀ x ∈ S, T { g with Fl := F1 } tt (G1 x) (q x)) (he : ∀ F1, ∀ x ∈ S, q x = true → E { g with Fl := F1 } te (G1 x) (h x)) : EL g (tLc wi tg tt te vs) G ((S.filter q).map h) := by
  cases S with
  | nil => exact el_lc (ix := ix) (fun _ => none) (fun _ => G) it (by simp) (fun F1 d hd => by cases hd) hix (fun F1 d hd => by cases hd) fun F1 d hd => by cases hd
  | cons x0 S0 =>
    obtain ⟨dec, hdec⟩ := dec_of enc inj x0
    let f : PyData → Option PyData := fun d => if q (dec d) = true then some (h (dec d)) else none
    have ef : ((x0 :: S0).map enc).filterMap f = ((x0 :: S0).filter q).map h := fm_enc fun x _ => by show (if q (dec (enc x)) = true then some (h (dec (enc x))) else none) = _; rw [hdec]
    rw [← ef]
    refine el_lc (ix := ix) f (fun d => G1 (dec d)) it (by rw [List.length_map]; exact hz) (fun F1 d hd => ?_) hix (fun F1 d hd => ?_) fun F1 d hd y hy => ?_
    · obtain ⟨x, hx, rfl⟩ := List.mem_map.mp hd
      rw [hdec]; exact tgt F1 x hx
    · obtain ⟨x, hx, rfl⟩ := List.mem_map.mp hd
      have := ht F1 x hx
      show DW.T _ _ (G1 (dec (enc x))) (if q (dec (enc x)) = true then some (h (dec (enc x))) else none).isSome
      rw [hdec]
      cases hq : q x with
      | true => rw [hq] at this; rw [if_pos rfl]; exact this
      | false => rw [hq] at this; rw [if_neg (by decide)]; exact this
    · obtain ⟨x, hx, rfl⟩ := List.mem_map.mp hd
      have hy : (if q (dec (enc x)) = true then some (h (dec (enc x))) else none) = some y := hy
      rw [hdec] at hy ⊢
      by_cases hq : q x = true
      · rw [if_pos hq] at hy; cases hy; exact he F1 x hx hq
      · rw [if_neg hq] at hy; cases hy
/-- .. without a test -/
theorem el_mapA (enc : α → PyData) (inj : ∀ x y, enc x = enc y → x = y) (S : List α) (h : α → PyData) (G1 : α → List Sl) (it : IT g wi G (S.map enc)) (hz : S.length ≤ 40000)
    (tgt : ∀ F1, ∀ x ∈ S, Tg { g with Fl := F1 } tg (enc x) (wipeG G vs) (G1 x) ix) (hix : ∀ j ∈ ix, j ∈ vs)
    (he : ∀ F1, ∀ x ∈ S, E { g with Fl := F1 } te (G1 x) (h x)) : EL g (tLc wi tg tYes te vs) G (S.map h) := by
  have e : (S.filter fun _ => true).map h = S.map h := by rw [List.filter_eq_self.mpr fun _ _ => rfl]
  rw [← e]
  exact el_mapI (ix := ix) enc inj S (fun _ => true) h G1 it hz tgt hix (fun F1 x hx => t_yes) fun F1 x hx _ => he F1 x hx
end
end DW
/-! any/all over things told by an injective coding; the end of a recursion that gives a new list -/
namespace DW
open PySem PySem.Spec PyProof.Rows L2 GA
variable [LamTabs]
section
variable {g : Gd} {G : List Sl} {te : TE} {tg : TG} {ix : List Nat} {α : Type}
theorem e_quantI {P : Addr} (hP : GenT g.T P) {wi : TI} {vs : List Nat} {e : Bool} (enc : α → PyData) (inj : ∀ x y, enc x = enc y → x = y) (S : List α) (q : α → Bool) (G1 : α → List Sl) (it : IT g wi G (S.map enc))
    (tgt : ∀ F1, ∀ x ∈ S, Tg { g with Fl := F1 } tg (enc x) (wipeG G vs) (G1 x) ix) (hix : ∀ j ∈ ix, j ∈ vs) (he : ∀ F1, ∀ x ∈ S, E { g with Fl := F1 } te (G1 x) (.bool (q x))) :
    ∃ f : PyData → Bool, (∀ x ∈ S, f (enc x) = q x) ∧ E g (tQuant P e wi tg te vs) G (.bool (quantF e f (S.map enc))) := by
  cases S with
  | nil => exact ⟨fun _ => true, (fun x h => by cases h), e_quant (ix := ix) hP (fun _ => true) (fun _ => G) it (fun F1 d hd => by cases hd) hix fun F1 d hd => by cases hd⟩
  | cons x0 S0 =>
    obtain ⟨dec, hdec⟩ := dec_of enc inj x0
    refine ⟨fun d => q (dec d), fun x _ => by show q (dec (enc x)) = _; rw [hdec], e_quant (ix := ix) hP (fun d => q (dec d)) (fun d => G1 (dec d)) it (fun F1 d hd => ?_) hix fun F1 d hd => ?_⟩
    · obtain ⟨x, hx, rfl⟩ := List.mem_map.mp hd
      rw [hdec]; exact tgt F1 x hx
    · obtain ⟨x, hx, rfl⟩ := List.mem_map.mp hd
      rw [hdec]; exact he F1 x hx
theorem all_enc {enc : α → PyData} {f : PyData → Bool} {q : α → Bool} : ∀ {S : List α}, (∀ x ∈ S, f (enc x) = q x) → (S.map enc).all f = S.all q
  | [], _ => rfl
  | x :: S, h => by rw [List.map_cons, List.all_cons, List.all_cons, h x List.mem_cons_self, all_enc fun y hy => h y (List.mem_cons_of_mem _ hy)]
theorem e_allI {P : Addr} (hP : GenT g.T P) {wi : TI} {vs : List Nat} (enc : α → PyData) (inj : ∀ x y, enc x = enc y → x = y) (S : List α) (q : α → Bool) (G1 : α → List Sl) (it : IT g wi G (S.map enc))
    (tgt : ∀ F1, ∀ x ∈ S, Tg { g with Fl := F1 } tg (enc x) (wipeG G vs) (G1 x) ix) (hix : ∀ j ∈ ix, j ∈ vs) (he : ∀ F1, ∀ x ∈ S, E { g with Fl := F1 } te (G1 x) (.bool (q x))) :
    E g (tQuant P false wi tg te vs) G (.bool (S.all q)) := by
  obtain ⟨f, hf, h⟩ := e_quantI (e := false) hP enc inj S q G1 it tgt hix he
  rw [quant_all, all_enc hf] at h
  exact h
end
end DW
/-! a, b, c = x, y, z -/
namespace DW
open PySem PySem.Spec PyProof.Rows L2
end DW
/-! range(i, j, c) as a value: len, walks over it -/
namespace DW
open PySem PySem.Spec PyProof.Rows L2
end DW
/-! sorted(set(xs)), xs a list of texts -/
namespace DW
open PySem PySem.Spec PyProof.Rows L2
end DW
/-! d.get(k, x) of a written dict; xs[i:] = [..] -/
namespace DW
open PySem PySem.Spec PyProof.Rows L2
end DW
/-! arguments that are no data: objects of own classes, functions; answers that are objects -/
namespace DW
open PySem PySem.Spec PyProof.Rows L2
variable [LamTabs]
/-- the object at a: its class C, its fields by data -/
def ObF (K : PySem.W.Frag) (F : Hp) (a C : Addr) (fs : List (Str × PyData)) : Prop := ∃ dx ws, F a = some (.ins C dx ws) ∧ F dx = some (.own a) ∧ FsOk K F ws fs
theorem ObF.mono {K : PySem.W.Frag} {F F' : Hp} {a C : Addr} {fs : List (Str × PyData)} (h : ObF K F a C fs) (e : Ex F F') : ObF K F' a C fs := by
  obtain ⟨dx, ws, h1, h2, h3⟩ := h
  exact ⟨dx, ws, e a _ h1 (fun _ z => by cases z), e dx _ h2 (fun _ z => by cases z), h3.mono e⟩
/-- values by slots -/
inductive ByS (K : PySem.W.Frag) (F : Hp) : List V → List Sl → Prop where
  | nil : ByS K F [] []
  | fz {v : V} {d : PyData} {vs : List V} {Gs : List Sl} (h : Dp K F v d) (t : ByS K F vs Gs) : ByS K F (v :: vs) (.fz d :: Gs)
  | raw {v : V} {vs : List V} {Gs : List Sl} (t : ByS K F vs Gs) : ByS K F (v :: vs) (.raw v :: Gs)
theorem ByS.len {K : PySem.W.Frag} {F : Hp} : ∀ {vs : List V} {Gs : List Sl}, ByS K F vs Gs → vs.length = Gs.length
  | _, _, .nil => rfl
  | _, _, .fz _ t => by rw [List.length_cons, List.length_cons, t.len]
  | _, _, .raw t => by rw [List.length_cons, List.length_cons, t.len]
theorem ByS.mono {K : PySem.W.Frag} {F F' : Hp} (e : Ex F F') : ∀ {vs : List V} {Gs : List Sl}, ByS K F vs Gs → ByS K F' vs Gs
  | _, _, .nil => .nil
  | _, _, .fz h t => .fz (e.dp _ _ h) (t.mono e)
  | _, _, .raw t => .raw (t.mono e)
theorem ByS.get {K : PySem.W.Frag} {H0 F H : Hp} : ∀ {vs : List V} {Gs : List Sl} {j : Nat} {s : Sl}, ByS K F vs Gs → Gs[j]? = some s → s.mine = false ∧ ∃ v, vs[j]? = some v ∧ SlOk K H0 F H (some v) s
  | _, _, _, _, .nil, e => by cases e
  | _, _, 0, _, .fz h _, e => by cases e; exact ⟨rfl, _, rfl, _, rfl, h⟩
  | _, _, 0, _, .raw _, e => by cases e; exact ⟨rfl, _, rfl, rfl⟩
  | _, _, j + 1, s, .fz _ t, e => t.get (j := j) (by simpa using e)
  | _, _, j + 1, s, .raw t, e => t.get (j := j) (by simpa using e)
def startS (n : Nat) (Gs : List Sl) : List Sl := Gs ++ List.replicate (n - Gs.length) .un
theorem holds_startS {K : PySem.W.Frag} {Tb : List Addr} {F H : Hp} {vs : List V} {Gs : List Sl} {Nn : List Str} (sb : Sub F H) (ht : ∀ P ∈ Tb, TabQ H P) (hd : ByS K F vs Gs) : Holds ⟨K, Tb, F, H, F⟩ (startS Nn.length Gs) (L2.start Nn vs) F H := by
  have hl := hd.len
  have get : ∀ (j : Nat) (s : Sl), (startS Nn.length Gs)[j]? = some s → s = .un ∨ Gs[j]? = some s := fun j s e => by
    unfold startS at e
    rcases Nat.lt_or_ge j Gs.length with hj | hj
    · rw [List.getElem?_append_left hj] at e; exact .inr e
    · rw [List.getElem?_append_right hj, List.getElem?_replicate] at e
      split at e
      · cases e; exact .inl rfl
      · cases e
  refine ⟨by unfold L2.start startS; rw [List.length_append, List.length_append, List.length_map, List.length_replicate, List.length_replicate, hl], Stp.refl sb, fun j s o e1 e2 => ?_, fun j k s t p e1 _ m1 _ _ _ => ?_, ht, Ex.refl F⟩
  · rcases get j s e1 with rfl | h
    · trivial
    · obtain ⟨_, v, h2, h3⟩ := hd.get (H0 := H) (H := H) h
      unfold L2.start at e2
      have hj : j < vs.length := (List.getElem?_eq_some_iff.mp h2).1
      rw [List.getElem?_append_left (by rw [List.length_map]; exact hj), List.getElem?_map, h2] at e2
      cases e2
      exact h3
  · rcases get j s e1 with rfl | h
    · cases m1
    · rw [(hd.get (H0 := H) (H := H) h).1] at m1; cases m1
/-- a promise by slots: data for good -/
def spS (K : PySem.W.Frag) (Tb : List Addr) (R : Hp → List Sl → PyData → Prop) : Sp := fun vs H Q _ => ∃ F Gs d, Sub F H ∧ (∀ P ∈ Tb, TabQ H P) ∧ ByS K F vs Gs ∧ R F Gs d ∧ ∀ v F' H', Stp F H F' H' → Dp K F' v d → Q v H'
/-- .. a new list -/
def spSL (K : PySem.W.Frag) (Tb : List Addr) (R : Hp → List Sl → List PyData → Prop) : Sp := fun vs H Q _ => ∃ F Gs es, Sub F H ∧ (∀ P ∈ Tb, TabQ H P) ∧ ByS K F vs Gs ∧ R F Gs es ∧ ∀ p ws F' H', Stp F H F' H' → H p = none → F' p = none → H' p = some (.lst ws) → DpAll K F' ws es → Q (.ref p) H'
/-- .. an object of the class C -/
def spSO (K : PySem.W.Frag) (Tb : List Addr) (C : Addr) (R : Hp → List Sl → List (Str × PyData) → Prop) : Sp := fun vs H Q _ => ∃ F Gs fs, Sub F H ∧ (∀ P ∈ Tb, TabQ H P) ∧ ByS K F vs Gs ∧ R F Gs fs ∧ ∀ a F' H', Stp F H F' H' → ObF K F' a C fs → Q (.ref a) H'
section
variable {P : Program} {w : World} {K : PySem.W.Frag} {mg : Str → Option Value} {base : Heap} {x qual : Str} {st : Stmt} {f : Addr} {fd : FuncData} {Nn ps : List Str} {k : Nat} {Tb : List Addr}
theorem df_S (F : Fun K x qual st f fd) (Sc : FnScope Nn ps (defScope st)) (hm : mg x = some (.ref f)) (hb : Binds K fd ps []) {R : Hp → List Sl → PyData → Prop} (hlen : ∀ F Gs d, R F Gs d → Gs.length = ps.length)
    (body : ∀ (cdv : Value) (A : Around) (outer : List Env) (s : Shared) (H : Hp) (E : XK), Room k (A.deeper (envOfC qual (defScope st) s.heap.objs.size f cdv)) →
      ∃ t, PSs (cxOf CX0 P w K mg base Nn qual (defScope st) f cdv A outer s H E).nox (defBody st) t ∧ ∀ (Gs : List Sl) (d : PyData) (F0 H0 : Hp) (Q : VK), R F0 Gs d → Rt ⟨K, Tb, F0, H0, F0⟩ Q d → S ⟨K, Tb, F0, H0, F0⟩ t { nx := fun _ H' => Q .non H', rt := Q } (startS Nn.length Gs)) :
    Df P w K mg base (k + 1) x ps (spS K Tb R) := by
  refine ⟨f, fd, F.ok Sc (fun vs H Q E h => ?_) (fun cdv A outer s H vs Q E hr h => ?_), hm, F.kp, hb⟩
  · obtain ⟨F, Gs, d, _, _, hd, r, _⟩ := h
    exact hd.len.trans (hlen F Gs d r)
  · obtain ⟨F1, Gs, d, sb, ht, hd, r, q⟩ := h
    obtain ⟨t, h1, h2⟩ := body cdv A outer s H E hr
    exact ⟨t, h1, h2 Gs d F1 H Q r q _ F1 H (holds_startS sb ht hd)⟩
theorem df_SL (F : Fun K x qual st f fd) (Sc : FnScope Nn ps (defScope st)) (hm : mg x = some (.ref f)) (hb : Binds K fd ps []) {R : Hp → List Sl → List PyData → Prop} (hlen : ∀ F Gs d, R F Gs d → Gs.length = ps.length)
    (body : ∀ (cdv : Value) (A : Around) (outer : List Env) (s : Shared) (H : Hp) (E : XK), Room k (A.deeper (envOfC qual (defScope st) s.heap.objs.size f cdv)) →
      ∃ t, PSs (cxOf CX0 P w K mg base Nn qual (defScope st) f cdv A outer s H E).nox (defBody st) t ∧ ∀ (Gs : List Sl) (es : List PyData) (F0 H0 : Hp) (Q : VK), R F0 Gs es → RtL ⟨K, Tb, F0, H0, F0⟩ Q es → S ⟨K, Tb, F0, H0, F0⟩ t { nx := fun _ H' => Q .non H', rt := Q } (startS Nn.length Gs)) :
    Df P w K mg base (k + 1) x ps (spSL K Tb R) := by
  refine ⟨f, fd, F.ok Sc (fun vs H Q E h => ?_) (fun cdv A outer s H vs Q E hr h => ?_), hm, F.kp, hb⟩
  · obtain ⟨F, Gs, d, _, _, hd, r, _⟩ := h
    exact hd.len.trans (hlen F Gs d r)
  · obtain ⟨F1, Gs, d, sb, ht, hd, r, q⟩ := h
    obtain ⟨t, h1, h2⟩ := body cdv A outer s H E hr
    exact ⟨t, h1, h2 Gs d F1 H Q r q _ F1 H (holds_startS sb ht hd)⟩
end
/-- arguments by slots -/
def AS (g : Gd) (ta : TA) (G Gs : List Sl) : Prop := ∀ σ F H, Holds g G σ F H → ∀ Q : List V → Hp → Prop, (∀ vs F' H', Stp F H F' H' → ByS g.K F' vs Gs → Q vs H') → ta σ H Q
section
variable {g : Gd} {G Gs : List Sl} {te : TE} {ta : TA} {tw : TS} {d : PyData} {es : List PyData} {i : Nat} {D : Ends} {v : V} {a C : Addr} {fs : List (Str × PyData)} {n : Str}
theorem as_nil : AS g tNil G [] := fun σ F H hh Q q => q [] F H (Stp.refl hh.st.i) .nil
theorem as_cons (h : E g te G d) (hr : AS g ta G Gs) : AS g (tCons te ta) G (.fz d :: Gs) := fun σ F H hh Q q => h σ F H hh _ fun v F1 H1 s1 d1 => hr σ F1 H1 (hh.mono s1) _ fun vs F2 H2 s2 d2 => q (v :: vs) F2 H2 (s1.trans s2) (.fz (s2.f.dp _ v d1) d2)
theorem as_raw (h : G[i]? = some (.raw v)) (hr : AS g ta G Gs) : AS g (tCons (tVar i) ta) G (.raw v :: Gs) := fun σ F H hh Q q => by
  obtain ⟨o, eo, ok⟩ := hh.at_ h
  obtain rfl : o = some v := ok
  exact ⟨v, eo, hr σ F H hh _ fun vs F2 H2 s2 d2 => q (v :: vs) F2 H2 s2 (.raw d2)⟩
/-- a constant that is no data (a def's own address) -/
theorem as_con (hr : AS g ta G Gs) : AS g (tCons (tC v) ta) G (.raw v :: Gs) := fun σ F H hh Q q => hr σ F H hh _ fun vs F2 H2 s2 d2 => q (v :: vs) F2 H2 s2 (.raw d2)
theorem e_callS {R : Hp → List Sl → PyData → Prop} {Ek : XK} (h : AS g ta G Gs) (r : ∀ F, Ex g.Fl F → R F Gs d) : E g (tCall (spS g.K g.T R) [] Ek ta) G d := fun σ F H hh Q q => h σ F H hh _ fun vs F1 H1 s1 d1 => by
  rw [List.append_nil]
  exact ⟨F1, Gs, d, s1.i, (hh.mono s1).tab, d1, r F1 (hh.mono s1).lo, fun v F2 H2 s2 d2 => q v F2 H2 (s1.trans s2) d2⟩
/-- e.n of an object that stays -/
theorem e_fldO (hi : G[i]? = some (.raw (.ref a))) (ob : ObF g.K g.Fl a C fs) (hC : Cls g.K C) (hn : NoAttr g.K C n) (hl : fs.lookup n = some d) : E g (tFld g.K (tVar i) n) G d := fun σ F H hh Q q => by
  obtain ⟨o, eo, ok⟩ := hh.at_ hi
  obtain rfl : o = some (.ref a) := ok
  obtain ⟨dx, ws, h1, h2, h3⟩ := ob.mono hh.lo
  have hH : H a = some (.ins C dx ws) := hh.st.i.ex a _ h1 fun _ z => by cases z
  obtain ⟨v, e1, e2⟩ := FsOk.get h3 hl
  exact ⟨.ref a, eo, a, C, dx, ws, v, rfl, hH, hC, hn, e1, q v F H (Stp.refl hh.st.i) e2⟩
/-- x = f(..), f a def that gives an object -/
theorem s_asgO {R : Hp → List Sl → List (Str × PyData) → Prop} {Ek : XK} (h : AS g ta G Gs) (r : ∀ F, Ex g.Fl F → R F Gs fs) (k : ∀ a F1, ObF g.K F1 a C fs → Ex g.Fl F1 → N { g with Fl := F1 } D.nx (G.set i (.raw (.ref a)))) : S g (tAsg (tCall (spSO g.K g.T C R) [] Ek ta) (gName i)) D G := fun σ F H hh => h σ F H hh _ fun vs F1 H1 s1 d1 => by
  rw [List.append_nil]
  refine ⟨F1, Gs, fs, s1.i, (hh.mono s1).tab, d1, r F1 (hh.mono s1).lo, fun a F2 H2 s2 ob => ?_⟩
  have h3 := ((hh.mono (s1.trans s2)).set (i := i) (v := .ref a) (s := .raw (.ref a)) rfl fun z => by cases z)
  exact k a F2 ob (hh.mono (s1.trans s2)).lo _ F2 H2 ⟨h3.len, h3.st, h3.sl, h3.apart, h3.tab, Ex.refl _⟩
theorem q_asgO {R : Hp → List Sl → List (Str × PyData) → Prop} {Ek : XK} (h : AS g ta G Gs) (r : ∀ F, Ex g.Fl F → R F Gs fs) (k : ∀ a F1, ObF g.K F1 a C fs → Ex g.Fl F1 → S { g with Fl := F1 } tw D (G.set i (.raw (.ref a)))) : S g (tSeq (tAsg (tCall (spSO g.K g.T C R) [] Ek ta) (gName i)) tw) D G := s_asgO (D := { D with nx := tw D }) h r k
end
/-- .. that tells what is raised too -/
def spSX (K : PySem.W.Frag) (Tb : List Addr) (R : Hp → List Sl → Out → Prop) : Sp := fun vs H Q Ek => ∃ F Gs o, Sub F H ∧ (∀ P ∈ Tb, TabQ H P) ∧ ByS K F vs Gs ∧ R F Gs o ∧ OutOk ⟨K, Tb, F, H, F⟩ Q Ek o
section
variable {P : Program} {w : World} {K : PySem.W.Frag} {mg : Str → Option Value} {base : Heap} {x qual : Str} {st : Stmt} {f : Addr} {fd : FuncData} {Nn ps : List Str} {k : Nat} {Tb : List Addr}
theorem df_SX (F : Fun K x qual st f fd) (Sc : FnScope Nn ps (defScope st)) (hm : mg x = some (.ref f)) (hb : Binds K fd ps []) {R : Hp → List Sl → Out → Prop} (hlen : ∀ F Gs o, R F Gs o → Gs.length = ps.length)
    (body : ∀ (cdv : Value) (A : Around) (outer : List Env) (s : Shared) (H : Hp) (E : XK), Room k (A.deeper (envOfC qual (defScope st) s.heap.objs.size f cdv)) →
      ∃ t, PSs (cxOf (L2.CX P w) P w K mg base Nn qual (defScope st) f cdv A outer s H E) (defBody st) t ∧ ∀ (Gs : List Sl) (o : Out) (F0 H0 : Hp) (Q : VK), R F0 Gs o → OutOk ⟨K, Tb, F0, H0, F0⟩ Q E o → S ⟨K, Tb, F0, H0, F0⟩ t { nx := fun _ H' => Q .non H', rt := Q } (startS Nn.length Gs)) :
    DfX P w K mg base (k + 1) x ps (spSX K Tb R) := by
  refine ⟨f, fd, F.okX Sc (fun vs H Q E h => ?_) (fun cdv A outer s H vs Q E hr h => ?_), hm, F.kp, hb⟩
  · obtain ⟨F, Gs, o, _, _, hd, r, _⟩ := h
    exact hd.len.trans (hlen F Gs o r)
  · obtain ⟨F1, Gs, o, sb, ht, hd, r, q⟩ := h
    obtain ⟨t, h1, h2⟩ := body cdv A outer s H E hr
    exact ⟨t, h1, h2 Gs o F1 H Q r q _ F1 H (holds_startS sb ht hd)⟩
end
theorem e_callSX {g : Gd} {G Gs : List Sl} {ta : TA} {d : PyData} {R : Hp → List Sl → Out → Prop} {Ek : L2.St → XK} (h : AS g ta G Gs) (r : ∀ F, Ex g.Fl F → R F Gs (.val d)) : E g (tCallS (spSX g.K g.T R) Ek ta) G d := fun σ F H hh Q q => h σ F H hh _ fun vs F1 H1 s1 d1 =>
  ⟨F1, Gs, .val d, s1.i, (hh.mono s1).tab, d1, r F1 (hh.mono s1).lo, fun v F2 H2 s2 d2 => q v F2 H2 (s1.trans s2) d2⟩
/-- f(k = v, ..), all by keyword -/
theorem pe_callN0 {X : Cx} {CX : CXT} {k : Nat} {f : Addr} {fd : FuncData} {ps ks : List Str} {sp : Sp} {E : XK} {x : Str} {p pos : Pos} {kws : List Keyword} {tk : TA} {g : List Value → List Value → List Value} {gV : List V → List V → List V} (F : FnOk X.prog X.w X.K X.mg X.base CX k f fd ps sp) (hr : Room k X.A) (hg : Gl X x) (hm : X.mg x = some (.ref f)) (hk : PySem.W.keepIn X.K (.ref f) = true) (hb : KBn X.K fd ps 0 ks g gV) (hx : Passes CX X E) (hkw : PK X kws tk)
    (hall : (backToKw pos (keywordEach kws X.env)).all (·.1.isSome) = true := by rfl) (hks : (backToKw pos (keywordEach kws X.env)).filterMap (·.1) = ks := by rfl) (hdb : (x == ("__debug__" : Str)) = false := by decide)
    (hpl : ((backTo pos (starEach [] X.env)).any (·.1) || (backToKw pos (keywordEach kws X.env)).any (·.1.isNone)) = false := by rfl) :
    PE X (.Call (.Name x p) [] kws pos) (tCallN 0 ks.length sp gV E tNil tk) := by
  refine ⟨fun pins s σ H Q I h => ?_⟩
  refine wpAny_Call_Name_kw (ld_glob I hg hm ?_ hdb)
  refine PySem.W.callWith_KW0 (h₀ := X.base) I.ok.mod.kin hk hall ?_ hpl
  refine thn (hkw.run pos pins s σ H _ I h) fun ws s2 ⟨zs, H2, I2, rz, l1, l2, q2⟩ => ⟨I2.kIn, ?_⟩
  rw [hks]
  exact run_fnN (us := []) (vs := []) F hr hb hx I2 .nil rz rfl l2 q2
end DW
/-! __init__ of an own class: self.f = x, self.f = list(x) -/
namespace DW
open PySem PySem.Spec PyProof.Rows L2
variable [LamTabs]
/-- the object at a is being made: (F, H2) stood before it -/
structure Ini (K : PySem.W.Frag) (C : Addr) (F H2 : Hp) (a dx : Addr) (F1 H1 : Hp) (fs : List (Str × PyData)) : Prop where
  st : Stp F H2 F1 H1
  a0 : H2 a = none
  fa : F1 a = none
  own : F1 dx = some (.own a)
  ha : ∃ ws, H1 a = some (.ins C dx ws) ∧ FsOk K F1 ws fs
theorem putF_new {f : Str} {v : V} : ∀ {ws : List (Str × V)}, f ∉ ws.map (·.1) → putF f v ws = ws ++ [(f, v)]
  | [], _ => rfl
  | (g, x) :: r, h => by
    rw [List.map_cons, List.mem_cons, not_or] at h
    show (if g = f then (g, v) :: r else (g, x) :: putF f v r) = _
    rw [if_neg (fun e => h.1 e.symm), putF_new h.2]; rfl
section
variable {K : PySem.W.Frag} {C : Addr} {F H2 F1 H1 F3 H3 : Hp} {a dx : Addr} {fs : List (Str × PyData)} {f : Str} {y : V} {d : PyData}
theorem Ini.more (h : Ini K C F H2 a dx F1 H1 fs) (s : Stp F1 H1 F3 H3) : Ini K C F H2 a dx F3 H3 fs := by
  obtain ⟨ws, e1, e2⟩ := h.ha
  exact ⟨h.st.trans s, h.a0, s.n a _ e1 h.fa, s.f dx _ h.own (fun _ z => by cases z), ws, s.h a _ e1 (fun _ z => by cases z), e2.mono s.f⟩
theorem Ini.put (h : Ini K C F H2 a dx F1 H1 fs) (hd : Dp K F1 y d) (hf : f ∉ fs.map (·.1)) {ws : List (Str × V)} (e1 : H1 a = some (.ins C dx ws)) (e2 : FsOk K F1 ws fs) : Ini K C F H2 a dx F1 (upd H1 a (.ins C dx (putF f y ws))) (fs ++ [(f, d)]) := by
  have hw : f ∉ ws.map (·.1) := by rw [e2.ns]; exact hf
  refine ⟨h.st.mut h.a0 h.fa e1 (fun _ z => by cases z), h.a0, h.fa, h.own, _, upd_same, ?_⟩
  rw [putF_new hw]
  exact ⟨by rw [List.map_append, List.map_append, e2.ns]; rfl, by rw [List.map_append, List.map_append]; exact dps_app e2.ds (.cons hd .nil)⟩
theorem Ini.obj (h : Ini K C F H2 a dx F1 H1 fs) : ∃ F3, Stp F H2 F3 H1 ∧ ObF K F3 a C fs := by
  obtain ⟨ws, e1, e2⟩ := h.ha
  have ne : ∀ {b : Addr} {u : HO}, F1 b = some u → b ≠ a := fun {b u} e z => by rw [z, h.fa] at e; cases e
  have ex : Ex F1 (upd F1 a (.ins C dx ws)) := fun b u q n => by rw [upd_ne (ne q)]; exact q
  refine ⟨upd F1 a (.ins C dx ws), ⟨h.st.f.trans ex, ⟨fun b u q n => ?_, fun b ps q => ?_⟩, h.st.h, h.st.s, h.st.t, fun b u q n => ?_⟩, dx, ws, upd_same, by rw [upd_ne (ne h.own)]; exact h.own, e2.mono ex⟩
  · by_cases hb : b = a
    · subst hb; rw [upd_same] at q; cases q; exact e1
    · rw [upd_ne hb] at q; exact h.st.i.ex b u q n
  · by_cases hb : b = a
    · subst hb; rw [upd_same] at q; cases q
    · rw [upd_ne hb] at q; exact h.st.i.nt b ps q
  · rw [upd_ne (fun z => by rw [z, h.a0] at q; cases q)]; exact h.st.n b u q n
/-- the statements of __init__, fs the fields laid so far -/
def SI (K : PySem.W.Frag) (C : Addr) (F H2 : Hp) (a dx : Addr) (σ : L2.St) (fs : List (Str × PyData)) (t : TS) (D : Ends) : Prop := ∀ F1 H1, Ini K C F H2 a dx F1 H1 fs → t D σ H1
variable {σ : L2.St} {t tw : TS} {D : Ends} {j : Nat} {v : V} {ds : List PyData}
theorem si_val (h0 : σ[0]? = some (some (.ref a))) (hj : σ[j]? = some (some v)) (hd : Dp K F v d) (hC : Cls K C) (hn : NoAttr K C f) (hf : f ∉ fs.map (·.1)) (hl : fs.length < 1000) (k : ∀ F1 H1, Ini K C F H2 a dx F1 H1 (fs ++ [(f, d)]) → D.nx σ H1) : SI K C F H2 a dx σ fs (sFld K (tVar 0) (tVar j) f) D := fun F1 H1 I => by
  obtain ⟨ws, e1, e2⟩ := I.ha
  have lw : ws.length = fs.length := by have := congrArg List.length e2.ns; rwa [List.length_map, List.length_map] at this
  exact ⟨v, hj, .ref a, h0, a, C, dx, ws, rfl, e1, hC, hn, by omega, k _ _ (I.put (I.st.f.dp d v hd) hf e1 e2)⟩
/-- self.f = list(x), x a list or a tuple -/
theorem si_list (h0 : σ[0]? = some (some (.ref a))) (hj : σ[j]? = some (some v)) (hd : Dp K F v (.list ds) ∨ Dp K F v (.tuple ds)) (hC : Cls K C) (hn : NoAttr K C f) (hf : f ∉ fs.map (·.1)) (hl : fs.length < 1000) (k : ∀ F1 H1, Ini K C F H2 a dx F1 H1 (fs ++ [(f, .list ds)]) → D.nx σ H1) : SI K C F H2 a dx σ fs (sFld K (tVar 0) (tCB (rListW K) (tCons (tVar j) tNil)) f) D := fun F1 H1 I => by
  have fin : ∀ (vs : List V) (p : Addr), DpAll K F1 vs ds → H1 p = none → ∃ x, x = V.ref a ∧ ∃ a' C' dx' ws, x = .ref a' ∧ upd H1 p (.lst vs) a' = some (.ins C' dx' ws) ∧ Cls K C' ∧ NoAttr K C' f ∧ ws.length < 1000 ∧ D.nx σ (upd (upd H1 p (.lst vs)) a' (.ins C' dx' (putF f (.ref p) ws))) := fun vs p hv hp => by
    have st := Stp.new (o := .lst vs) I.st.i hp fun _ z => by cases z
    have I3 := I.more st
    obtain ⟨ws, e1, e2⟩ := I3.ha
    have lw : ws.length = fs.length := by have := congrArg List.length e2.ns; rwa [List.length_map, List.length_map] at this
    exact ⟨_, rfl, a, C, dx, ws, rfl, e1, hC, hn, by omega, k _ _ (I3.put (.lst (.inl (.inl upd_same)) (st.f.dps ds vs hv)) hf e1 e2)⟩
  rcases hd with hd | hd
  · obtain ⟨b, vs, rfl, h1, h2⟩ := dp_sq (I.st.f.dp _ v hd)
    refine ⟨.ref b, hj, .inl ⟨b, vs, rfl, .inl (I.st.i.ex.l h1), fun p hp => ?_⟩⟩
    obtain ⟨x, rfl, q⟩ := fin vs p h2 hp
    exact ⟨.ref a, h0, q⟩
  · obtain ⟨b, vs, rfl, h1, h2⟩ := dp_tq (I.st.f.dp _ v hd)
    refine ⟨.ref b, hj, .inl ⟨b, vs, rfl, .inr (I.st.i.ex.t h1), fun p hp => ?_⟩⟩
    obtain ⟨x, rfl, q⟩ := fin vs p h2 hp
    exact ⟨.ref a, h0, q⟩
theorem si_seq (h : SI K C F H2 a dx σ fs t { D with nx := tw D }) : SI K C F H2 a dx σ fs (tSeq t tw) D := h
end
/-- __init__'s promise: the object's fields -/
def spI (K : PySem.W.Frag) (Tb : List Addr) (C : Addr) (R : List PyData → List (Str × PyData) → Prop) : Sp := fun vs H Q _ => ∃ F H2 a dx ws ds fs, vs = .ref a :: ws ∧ Sub F H2 ∧ (∀ P ∈ Tb, TabQ H2 P) ∧ H2 a = none ∧ H2 dx = none ∧ dx ≠ a ∧ H = upd (upd H2 dx (.own a)) a (.ins C dx []) ∧ DpAll K F ws ds ∧ R ds fs ∧
  ∀ F' H', Stp F H2 F' H' → ObF K F' a C fs → Q .non H'
/-- its start -/
theorem ini_start {K : PySem.W.Frag} {C : Addr} {F H2 : Hp} {a dx : Addr} (sb : Sub F H2) (ha : H2 a = none) (hx : H2 dx = none) (ne : dx ≠ a) : Ini K C F H2 a dx (upd F dx (.own a)) (upd (upd H2 dx (.own a)) a (.ins C dx [])) [] := by
  have st := Stp.new (o := .own a) sb hx fun _ z => by cases z
  have fa : upd F dx (.own a) a = none := by rw [upd_ne (Ne.symm ne)]; exact sb.free ha
  have h1 : upd H2 dx (.own a) a = none := by rw [upd_ne (Ne.symm ne)]; exact ha
  exact ⟨st.trans (Stp.mine st.i h1), ha, fa, upd_same, [], upd_same, rfl, .nil⟩
section
variable {g : Gd} {G : List Sl} {tk : TA} {tw : TS} {ds : List PyData} {i m : Nat} {D : Ends} {C : Addr} {fs : List (Str × PyData)} {gV : List V → List V → List V}
/-- x = C(k = v, ..) -/
theorem s_make {R : List PyData → List (Str × PyData) → Prop} {Ek : XK} (hA : A g tk G ds) (hm : ds.length = m) (hg : ∀ v zs, zs.length = m → gV [v] zs = v :: zs) (r : R ds fs) (k : ∀ a F1, ObF g.K F1 a C fs → Ex g.Fl F1 → N { g with Fl := F1 } D.nx (G.set i (.raw (.ref a)))) : S g (tAsg (tMakeK C 0 m (spI g.K g.T C R) gV Ek tNil tk) (gName i)) D G := fun σ F H hh => hA σ F H hh _ fun vs F1 H1 s1 d1 => by
  have lz : vs.length = m := (dps_len d1).trans hm
  refine ⟨rfl, lz, fun x dx hx hdx ne => ?_⟩
  rw [hg _ _ lz]
  refine ⟨F1, H1, x, dx, vs, ds, fs, rfl, s1.i, (hh.mono s1).tab, hx, hdx, ne, rfl, d1, r, fun F2 H2 s2 ob => ⟨rfl, ?_⟩⟩
  have h3 := ((hh.mono (s1.trans s2)).set (i := i) (v := .ref x) (s := .raw (.ref x)) rfl fun z => by cases z)
  exact k x F2 ob (hh.mono (s1.trans s2)).lo _ F2 H2 ⟨h3.len, h3.st, h3.sl, h3.apart, h3.tab, Ex.refl _⟩
theorem q_make {R : List PyData → List (Str × PyData) → Prop} {Ek : XK} (hA : A g tk G ds) (hm : ds.length = m) (hg : ∀ v zs, zs.length = m → gV [v] zs = v :: zs) (r : R ds fs) (k : ∀ a F1, ObF g.K F1 a C fs → Ex g.Fl F1 → S { g with Fl := F1 } tw D (G.set i (.raw (.ref a)))) : S g (tSeq (tAsg (tMakeK C 0 m (spI g.K g.T C R) gV Ek tNil tk) (gName i)) tw) D G := s_make (D := { D with nx := tw D }) hA hm hg r k
/-- return made -/
def RtO (g : Gd) (rt : VK) (C : Addr) (fs : List (Str × PyData)) : Prop := ∀ a F H, Stp g.F0 g.H0 F H → ObF g.K F a C fs → rt (.ref a) H
theorem s_retOb {a : Addr} (hi : G[i]? = some (.raw (.ref a))) (ob : ObF g.K g.Fl a C fs) (k : RtO g D.rt C fs) : S g (tRet (tVar i)) D G := fun σ F H hh => by
  obtain ⟨o, eo, ok⟩ := hh.at_ hi
  obtain rfl : o = some (.ref a) := ok
  exact ⟨.ref a, eo, k a F H hh.st (ob.mono hh.lo)⟩
end
section
variable {P : Program} {w : World} {K : PySem.W.Frag} {mg : Str → Option Value} {base : Heap} {x qual : Str} {st : Stmt} {f C : Addr} {fd : FuncData} {Nn ps : List Str} {k : Nat} {Tb : List Addr}
/-- __init__ keeps its promise -/
theorem fn_I (F : Fun K x qual st f fd) (Sc : FnScope Nn ps (defScope st)) {R : List PyData → List (Str × PyData) → Prop} (hlen : ∀ ds fs, R ds fs → ds.length + 1 = ps.length)
    (body : ∀ (cdv : Value) (A : Around) (outer : List Env) (s : Shared) (H : Hp) (E : XK), Room k (A.deeper (envOfC qual (defScope st) s.heap.objs.size f cdv)) →
      ∃ t, PSs (cxOf CX0 P w K mg base Nn qual (defScope st) f cdv A outer s H E).nox (defBody st) t ∧ ∀ (F0 H2 : Hp) (a dx : Addr) (ws : List V) (ds : List PyData) (fs : List (Str × PyData)) (Q : VK), DpAll K F0 ws ds → R ds fs → (∀ F1 H1, Ini K C F0 H2 a dx F1 H1 fs → Q .non H1) → SI K C F0 H2 a dx (L2.start Nn (.ref a :: ws)) [] t { nx := fun _ H' => Q .non H', rt := Q }) :
    FnOk P w K mg base CX0 (k + 1) f fd ps (spI K Tb C R) := by
  refine F.ok Sc (fun vs H Q E h => ?_) (fun cdv A outer s H vs Q E hr h => ?_)
  · obtain ⟨F, H2, a, dx, ws, ds, fs, rfl, _, _, _, _, _, _, hd, r, _⟩ := h
    rw [List.length_cons, dps_len hd]
    exact hlen ds fs r
  · obtain ⟨F1, H2, a, dx, ws, ds, fs, rfl, sb, ht, ha, hx, ne, rfl, hd, r, q⟩ := h
    obtain ⟨t, h1, h2⟩ := body cdv A outer s _ E hr
    refine ⟨t, h1, h2 F1 H2 a dx ws ds fs Q hd r (fun F3 H3 I => ?_) _ _ (ini_start sb ha hx ne)⟩
    obtain ⟨F4, s4, ob⟩ := I.obj
    exact q F4 H3 s4 ob
end
/-- a class at hand, made by keywords in the parameters' order -/
structure MkOk (P : Program) (w : World) (K : PySem.W.Frag) (mg : Str → Option Value) (base : Heap) (k : Nat) (x : Str) (C : Addr) (ks : List Str) (sp : Sp) : Prop where
  ex : ∃ f fd ps, Mk K C f ∧ FnOk P w K mg base CX0 k f fd ps sp ∧ mg x = some (.ref C) ∧ KBn K fd ps 1 ks (fun us ws => us ++ ws) (fun vs zs => vs ++ zs)
theorem pe_mk {X : Cx} {j k : Nat} {x : Str} {C : Addr} {ks : List Str} {sp : Sp} {p pos : Pos} {kws : List Keyword} {tk : TA} (M : MkOk X.prog X.w X.K X.mg X.base j x C ks sp) (hr : Room k X.A) (hj : j + 1 ≤ k) (hg : Gl X x) (hkw : PK X kws tk)
    (hall : (backToKw pos (keywordEach kws X.env)).all (·.1.isSome) = true := by rfl) (hks : (backToKw pos (keywordEach kws X.env)).filterMap (·.1) = ks := by rfl) (hdb : (x == ("__debug__" : Str)) = false := by decide)
    (hpl : ((backTo pos (starEach [] X.env)).any (·.1) || (backToKw pos (keywordEach kws X.env)).any (·.1.isNone)) = false := by rfl) :
    PE X (.Call (.Name x p) [] kws pos) (tMakeK C 0 ks.length sp (fun vs zs => vs ++ zs) E0 tNil tk) := by
  obtain ⟨f, fd, ps, m, F, hm, hb⟩ := M.ex
  exact pe_makeK0 m F (hr.mono hj) hg hm hb pass0 hkw hall hks hdb hpl
end DW
/-! & >> << of ints, ord -/
namespace DW
open PySem PySem.Spec PyProof.Rows L2
end DW
/-! a def handed as an argument: its name as a value (pe_fv), a call of the slot that holds it (e_callA) -/
namespace DW
open PySem PySem.Spec PyProof.Rows L2
variable [LamTabs]
/-- the promise of the def that the module calls nm, by its address -/
def fS (mg : Str → Option Value) (nm : Str) (sp : Sp) : Addr → Option Sp := fun f => match mg nm with
  | some (.ref f') => if f' = f then some sp else none
  | _ => none
theorem fS_at {mg : Str → Option Value} {nm : Str} {sp : Sp} {f : Addr} (h : mg nm = some (.ref f)) : fS mg nm sp f = some sp := by
  unfold fS; rw [h]; exact if_pos rfl
section
variable {P : Program} {w : World} {K : PySem.W.Frag} {mg : Str → Option Value} {base : Heap} {k : Nat} {nm : Str} {ps : List Str} {sp : Sp}
theorem held_of (D : Df P w K mg base k nm ps sp) : ∀ f sp', fS mg nm sp f = some sp' → Held P w K mg base k f sp' := fun f sp' h => by
  obtain ⟨f0, fd, F, hm, hk, hb⟩ := D.ex
  unfold fS at h
  rw [hm] at h
  by_cases e : f0 = f
  · subst e
    have h : (if f0 = f0 then some sp else none) = some sp' := h
    rw [if_pos rfl] at h
    cases h
    exact ⟨fd, ps, F, hk, hb⟩
  · have h : (if f0 = f then some sp else none) = some sp' := h
    rw [if_neg e] at h
    cases h
end
theorem pe_fv {X : Cx} {x : Str} {f : Addr} {pos : Pos} (h : X.mg x = some (.ref f)) (hg : Gl X x) (hd : (x == ("__debug__" : Str)) = false := by decide) : PE X (.Name x pos) (tC (.ref f)) := pe_gc ⟨.ref f, h, rfl⟩ hg hd
theorem e_callA {g : Gd} {G : List Sl} {ta : TA} {ds : List PyData} {d : PyData} {i : Nat} {f : Addr} {mg : Str → Option Value} {nm : Str} {R : List PyData → PyData → Prop} (hi : G[i]? = some (.raw (.ref f))) (hm : mg nm = some (.ref f)) (h : A g ta G ds) (r : R ds d) : E g (tCallA i (fS mg nm (spD g.K g.T R)) ta) G d := fun σ F H hh Q q => by
  obtain ⟨o, eo, ok⟩ := hh.at_ hi
  obtain rfl : o = some (.ref f) := ok
  exact ⟨f, _, eo, fS_at hm, h σ F H hh _ fun vs F1 H1 s1 d1 => ⟨F1, ds, d, s1.i, (hh.mono s1).tab, d1, r, fun v F2 H2 s2 d2 => q v F2 H2 (s1.trans s2) d2⟩⟩
end DW
/-! a tuple of defs: handed as an argument (e_callST), walked by a for (s_forR, q_forR) -/
namespace DW
open PySem PySem.Spec PyProof.Rows L2
end DW
/-! a tuple of unlike defs: each called by the slot that holds it -/
namespace DW
open PySem PySem.Spec PyProof.Rows L2
end DW
/-! own exceptions whose __init__(self, x, y) keeps two fields -/
namespace DW
open PySem PySem.Spec PyProof.Rows L2
variable [LamTabs]
structure XiOk2 (P : Program) (w : World) (K : PySem.W.Frag) (mg : Str → Option Value) (base : Heap) (x : Str) (C : Addr) (f h : Str) : Prop where
  gC : mg x = some (.ref C)
  T : OexC K C
  noF : PySem.W.findIn K (.ref C) f = some none
  noH : PySem.W.findIn K (.ref C) h = some none
  ini : ∃ (fI : Addr) (fd : FuncData) (ps : List Str), PySem.W.findIn K (.ref C) "__init__" = some (some (.ref fI)) ∧ PySem.W.typeIn K (.ref fI) = some (.type "function") ∧ FnOk P w K mg base CX0 1 fI fd ps (spI2 C f h) ∧ Binds K fd ps []
section
variable {P : Program} {w : World} {K : PySem.W.Frag} {mg : Str → Option Value} {base : Heap} {C : Addr} {f h x qual p q : Str} {st : Stmt} {fI : Addr} {fd : FuncData}
theorem init_ok2 (F : Fun K "__init__" qual st fI fd) (Sc : FnScope ["self", p, q] ["self", p, q] (defScope st)) (hC : OexC K C) (hf : PySem.W.findIn K (.ref C) f = some none) (hh : PySem.W.findIn K (.ref C) h = some none)
    (body : ∀ (cdv : Value) (A : Around) (outer : List Env) (s : Shared) (H : Hp) (E : XK), PSs (cxOf CX0 P w K mg base ["self", p, q] qual (defScope st) fI cdv A outer s H E).nox (defBody st) (tSeq (tOst K f (tVar 0) (tVar 1)) (tOst K h (tVar 0) (tVar 2)))) :
    FnOk P w K mg base CX0 1 fI fd ["self", p, q] (spI2 C f h) :=
  F.ok Sc (fun vs H Q E z => by obtain ⟨a, v, u, rfl, _⟩ := z; rfl) fun cdv A outer s H vs Q E hr z => ⟨_, body cdv A outer s H E, init2_t (n1 := "self") (n2 := p) (n3 := q) (Ek := E) hC hf hh z⟩
end
theorem ps_raiseI2 {X : Cx} {x f h : Str} {C : Addr} {e e2 : Expr} {ta : TA} {k : Nat} {p pos pos2 : Pos} {W : WX} (hc : X.calm = true) (T : XiOk2 X.prog X.w X.K X.mg X.base x C f h) (hr : Room k X.A) (hk : 2 ≤ k) (tk : Takes X W) (hg : Gl X x) (ha : PA X (e :: [e2]) ta) (hdb : (x == ("__debug__" : Str)) = false := by decide)
    (he : starEach (e :: [e2]) X.env = (false, eval e X.env) :: starEach [e2] X.env := by rfl) (hpl : (backTo pos (starEach [e2] X.env)).any (·.1) = false := by rfl) :
    PS X (.Raise (some (.Call (.Name x p) (e :: [e2]) [] pos)) none pos2) (fun _ σ H => tMkO C (spI2 C f h) [] ta σ H fun cls d H' => W cls d σ H') := by
  obtain ⟨fI, fd, ps, iC, tI, F1, hb⟩ := T.ini
  exact ps_raise hc tk (pmk_oex (CX := CX0) T.T iC tI F1 (hr.mono hk) hb .nil (fun _ _ _ _ _ _ _ z => z.elim) hg T.gC ha hdb he hpl)
end DW
/-! for with break: a turn knows that the good part has grown, so that what stands behind the loop can be done at the break -/
namespace DW
open PySem PySem.Spec PyProof.Rows L2
end DW
/-! own objects whose fields change: slot .ob (insC ..), e.f, e.f = x, methods that change self (spM, eg_meth) -/
namespace DW
open PySem PySem.Spec PyProof.Rows L2
variable [LamTabs]
section
variable {g : Gd} {G : List Sl} {σ : L2.St} {F H : Hp} {i : Nat} {a C dx : Addr} {fs fs' : List (Str × PyData)} {n : Str} {d : PyData} {te : TE} {D : Ends} {tw : TS}
theorem ins_nt {C dx : Addr} {ws : List (Str × V)} : ∀ ps, HO.ins C dx ws ≠ .tbl ps := fun _ z => by cases z
theorem ins_ok {C dx : Addr} {ws : List (Str × V)} : NtO (.ins C dx ws) := ⟨ins_nt, fun c q z => by unfold LamX.CodeO at z; cases z⟩
end
section
variable {g : Gd} {G : List Sl} {σ : L2.St} {F H : Hp} {i : Nat} {a C dx : Addr} {fs fs' : List (Str × PyData)} {m : Str} {d : PyData} {ds : List PyData} {te : TE} {ta : TA} {D : Ends} {tw : TS} {Q : VK}
theorem del_same {H : Hp} {a : Addr} : L2.del H a a = none := if_pos rfl
theorem del_ne {H : Hp} {a b : Addr} (h : b ≠ a) : L2.del H a b = H b := if_neg h
end
end DW
/-! methods: their defs (mt_M), calls (pe_mtM, pe_mtM0), objects made (pe_mkM, q_makeM) -/
namespace DW
open PySem PySem.Spec PyProof.Rows L2
variable [LamTabs]
def beginM (N : List Str) (s : Sl) (ds : List PyData) : List Sl := s :: startG (N.length - 1) ds
theorem start_no {n : Nat} {ds : List PyData} {s : Sl} {j : Nat} (e : (startG n ds)[j]? = some s) : s.mine = false := by
  unfold startG at e
  rcases List.mem_append.mp (List.mem_of_getElem? e) with h | h
  · obtain ⟨d, _, rfl⟩ := List.mem_map.mp h; rfl
  · rw [(List.mem_replicate.mp h).2]; rfl
/-- what the text says of a method -/
structure MtOk (P : Program) (w : World) (K : PySem.W.Frag) (mg : Str → Option Value) (base : Heap) (k : Nat) (C : Addr) (m : Str) (ps : List Str) (sp : Sp) : Prop where
  ex : ∃ f fd, Meth K C m f ∧ FnOk P w K mg base CX0 k f fd ps sp ∧ Binds K fd ps []
/-- o.m(..) -/
theorem pe_mtM {X : Cx} {k j : Nat} {C : Addr} {m : Str} {ps : List Str} {sp : Sp} {o e : Expr} {es : List Expr} {to : TE} {t : TA} {pos apos : Pos} {pl : Sem Bool} (M : MtOk X.prog X.w X.K X.mg X.base j C m ps sp) (hC : Cls X.K C) (hr : Room k X.A) (hj : j ≤ k) (ho : PE X o to) (ha : PA X (e :: es) t)
    (h1 : starEach (e :: es) X.env = (false, eval e X.env) :: starEach es X.env := by rfl) (h2 : (backTo pos (starEach es X.env)).any (·.1) = false := by rfl)
    (h3 : eval ((o.Attribute m apos).Call (e :: es) [] pos) X.env = (do
      let ov ← eval o X.env
      standAt apos.atName
      let (f, first) ← holding [ov] (getMethod ov m pl)
      callWith pos f first (backTo pos (starEach (e :: es) X.env)) (backToKw pos (keywordEach [] X.env))) := by rfl) : PE X ((o.Attribute m apos).Call (e :: es) [] pos) (tMeth C m sp [] E0 to t) := by
  obtain ⟨f, fd, hM, F, hb⟩ := M.ex
  exact pe_meth ho hC hM F (hr.mono hj) hb .nil pass0 ha h1 h2 h3
/-- what the text says of a class that is made by C(..): its __init__ -/
structure MkM (P : Program) (w : World) (K : PySem.W.Frag) (mg : Str → Option Value) (base : Heap) (k : Nat) (x : Str) (C : Addr) (ps : List Str) (sp : Sp) : Prop where
  gC : mg x = some (.ref C)
  ex : ∃ f fd, Mk K C f ∧ FnOk P w K mg base CX0 k f fd ps sp ∧ Binds K fd ps []
theorem pe_mkM {X : Cx} {k j : Nat} {C : Addr} {x : Str} {ps : List Str} {sp : Sp} {e : Expr} {es : List Expr} {t : TA} {p pos : Pos} (M : MkM X.prog X.w X.K X.mg X.base j x C ps sp) (hr : Room k X.A) (hj : j + 1 ≤ k) (hg : Gl X x) (ha : PA X (e :: es) t) (hdb : (x == ("__debug__" : Str)) = false := by decide)
    (he : starEach (e :: es) X.env = (false, eval e X.env) :: starEach es X.env := by rfl) (hpl : (backTo pos (starEach es X.env)).any (·.1) = false := by rfl) : PE X (.Call (.Name x p) (e :: es) [] pos) (tMake C sp [] E0 t) := by
  obtain ⟨f, fd, hM, F, hb⟩ := M.ex
  exact pe_make hM F (hr.mono hj) hg M.gC hb .nil pass0 ha hdb he hpl
theorem pe_fldK {X : Cx} (K : PySem.W.Frag) {e : Expr} {f : Str} {pos : Pos} {ta : TE} (he : PE X e ta) (h : X.K = K := by rfl) (hb : attributeBase e f X.env (eval e X.env) = eval e X.env := by rfl) : PE X (e.Attribute f pos) (tFld K ta f) := h ▸ pe_fld he hb
theorem ps_fldK {X : Cx} (K : PySem.W.Frag) {o value : Expr} {f : Str} {pos pos' : Pos} {ta tv : TE} (ho : PE X o ta) (hv : PE X value tv) (h : X.K = K := by rfl) (hs : swapsWith value (some (o.Attribute f pos')) pos.line X.env = pure false := by rfl) : PS X (Stmt.Assign [o.Attribute f pos'] value pos) (sFld K ta tv f) := h ▸ ps_fld ho hv hs
end DW
/-! `xs = [.. for y in a.replace(..).split(..) if ..]` in a def that has an argument: a token is out when its body begins -/
namespace DW
open PySem PySem.Spec PyProof.Rows L2
end DW
/-! a displayed dict of more than fifteen entries -/
namespace DW
open PySem PySem.Spec PyProof.Rows L2
end DW
/-! displayed dicts of many texts as own dicts; d.get(k); a module's written dict whose values are data: k in D, D[k] -/
namespace DW
open PySem PySem.Spec PyProof.Rows L2
/-! a module's written dict whose values are data -/
end DW
/-! set(xs), xs a list of tuples of any depth -/
namespace DW
open PySem PySem.Spec PyProof.Rows L2
variable [LamTabs]
abbrev IsK (P : Program) (w : World) (h : Heap) (k : NestedKey) (a : Addr) : Prop := (nestedKind P w).is h k a
abbrev hkN (P : Program) (w : World) (k : NestedKey) : Int := (nestedKind P w).hash k
def rwN (P : Program) (w : World) (L : List (Addr × NestedKey)) : List (Int × Value) := L.map fun p => (hkN P w p.2, Value.ref p.1)
section
variable {P : Program} {w : World} {A : Around} {E : Value → Shared → Prop} {s : Shared}
/-- the set of the keys L at a -/
structure SeN (P : Program) (w : World) (h : Heap) (a : Addr) (L : List (Addr × NestedKey)) (es : Array (Int × Value)) (ep : Nat) (t : SetTable) : Prop where
  ob : ∃ o, h.get? a = some o ∧ o.ExactSet ∧ o.data = .set es ep t
  rows : es.toList = rwN P w L
  tab : TabOk t (L.map fun p => hkN P w p.2)
  nd : (L.map (·.2)).Nodup
  tup : ∀ p ∈ L, IsK P w h p.2 p.1
  led : w.params.followText "set-order" = true ∨ t.led = true
  room : L.length * 5 < t.mask * 3
  few : L.length < 64
section
variable {a : Addr} {L : List (Addr × NestedKey)} {es : Array (Int × Value)} {ep : Nat} {t : SetTable}
theorem SeN.size {h : Heap} (S : SeN P w h a L es ep t) : es.size = L.length := by rw [← Array.length_toList, S.rows]; unfold rwN; rw [List.length_map]
end
end
end DW
/-! set(xs), xs a list of tuples of any depth: its elements laid, new ones added -/
namespace DW
open PySem PySem.Spec PyProof.Rows L2
end DW
/-! sorted(set(xs)), xs a list of tuples of any depth -/
namespace DW
open PySem PySem.Spec PyProof.Rows L2
variable [LamTabs]
section
variable {P : Program} {w : World} {A : Around} {E : Value → Shared → Prop} {s : Shared} {h h' : Heap} {a : Addr} {L : List (Addr × NestedKey)} {es : Array (Int × Value)} {ep : Nat} {t : SetTable}
theorem SeN.keep (S : SeN P w h a L es ep t) (k : ∀ o, h.get? a = some o → h'.get? a = some o) (tup : ∀ p ∈ L, IsK P w h' p.2 p.1) : SeN P w h' a L es ep t := by
  obtain ⟨o, h1, h2, h3⟩ := S.ob
  exact ⟨⟨o, k o h1, h2, h3⟩, S.rows, S.tab, S.nd, tup, S.led, S.room, S.few⟩
end
def adV : V → Addr
  | .ref a => a
  | _ => 0
def OkZ (K : PySem.W.Frag) (H : Hp) (zs : List (V × PyData)) : Prop := ∀ z ∈ zs, Dp K H z.1 z.2 ∧ kyD z.2 = true ∧ (nk z.2).depth ≤ 8 ∧ ∃ l, z.2 = .tuple l
theorem OkZ.ref {K : PySem.W.Frag} {H : Hp} {zs : List (V × PyData)} (h : OkZ K H zs) {z : V × PyData} (hz : z ∈ zs) : z.1 = .ref (adV z.1) := by
  obtain ⟨d, _, _, l, e⟩ := h z hz
  obtain ⟨v, x⟩ := z
  dsimp only at d e ⊢
  subst e
  obtain ⟨a, _, rfl, _⟩ := dp_tq d
  rfl
end DW
/-! all(x for ..), the elements lists: a list counts as true if it has an element -/
namespace DW
open PySem PySem.Spec PyProof.Rows L2 GxR GenW
end DW
/-! dict(a tuple of pairs) -/
namespace DW
open PySem PySem.Spec PyProof.Rows L2
variable [LamTabs]
theorem IsTuple.extBut {h h' : Heap} {a b : Addr} {items : Array Value} (hb : b ≠ a) (x : Heap.ExtBut a h h') (t : h.IsTuple b items) : h'.IsTuple b items := by
  obtain ⟨o, h1, h2⟩ := t
  exact ⟨o, x b o hb h1, h2⟩
end DW
/-! for k in a module's written dict; dict(D[k]), D a written dict of tuples of pairs of texts -/
namespace DW
open PySem PySem.Spec PyProof.Rows L2
/-! dict(a written tuple of pairs) -/
end DW
/-! methods that only read self and give a new dict of texts; defs that give a tuple of an own object and data -/
namespace DW
open PySem PySem.Spec PyProof.Rows L2
variable [LamTabs]
/-- the object at a, as a reader sees it -/
def ObR (K : PySem.W.Frag) (F : Hp) (a C : Addr) (fs : List (Str × PyData)) : Prop := ∃ dx ws, F a = some (.ins C dx ws) ∧ FsOk K F ws fs
theorem ObR.mono {K : PySem.W.Frag} {F F' : Hp} {a C : Addr} {fs : List (Str × PyData)} (h : ObR K F a C fs) (e : Ex F F') : ObR K F' a C fs := by
  obtain ⟨dx, ws, h1, h3⟩ := h
  exact ⟨dx, ws, e a _ h1 (fun _ z => by cases z), h3.mono e⟩
/-! ### a tuple of an own object and data -/
structure TO (K : PySem.W.Frag) (H F' H' : Hp) (t a C dx : Addr) (zv : V) (fs : List (Str × PyData)) (z : PyData) : Prop where
  ht : H' t = some (.tup [.ref a, zv])
  ha : ∃ ws, H' a = some (.ins C dx ws) ∧ FsOk K F' ws fs
  nt : H t = none
  na : H a = none
  fa : F' a = none
  dz : Dp K F' zv z
end DW
/-! tests and statements that change one own slot: not o.m(..), o.m(..) as a statement; y not in d -/
namespace DW
open PySem PySem.Spec PyProof.Rows L2
end DW
/-! a displayed dict of 18 to 32 entries whose keys are tuples (of any depth, all different) -/
namespace DW
open PySem PySem.Spec PyProof.Rows L2
/-! ### by values -/
/-! ### by data -/
end DW
/-! objects with own lists and dicts below their fields: a region of the heap beside the slots (Gst), walks that change it (HR, ER, TR, AR, SR), methods (spF, mt_F, er_meth) -/
namespace DW
open PySem PySem.Spec PyProof.Rows L2
variable [LamTabs]
open Classical in
noncomputable def wo (L : Addr → Prop) (H : Hp) : Hp := fun b => if L b then none else H b
section
variable {L : Addr → Prop} {H : Hp} {b : Addr} {o : HO}
theorem wo_in (h : L b) : wo L H b = none := by unfold wo; rw [if_pos h]
theorem wo_out (h : ¬ L b) : wo L H b = H b := by unfold wo; rw [if_neg h]
theorem wo_some (h : wo L H b = some o) : ¬ L b ∧ H b = some o := by
  by_cases hl : L b
  · rw [wo_in hl] at h; cases h
  · rw [wo_out hl] at h; exact ⟨hl, h⟩
end
def Own (G : List Sl) (σ : L2.St) (p : Addr) : Prop := ∃ (j : Nat) (t : Sl), G[j]? = some t ∧ t.mine = true ∧ σ[j]? = some (some (V.ref p))
section
variable {g : Gd} {G : List Sl} {σ : L2.St} {F H F' H' F1 H1 : Hp} {p : Addr} {L : Addr → Prop}
theorem own_at (hh : Holds g G σ F H) (o : Own G σ p) : g.H0 p = none ∧ F p = none ∧ ∃ u, H p = some u ∧ NtO u := by
  obtain ⟨j, t, e1, m, e2⟩ := o
  have q := hh.sl j t _ e1 e2
  cases t with
  | un => cases m
  | fz d => cases m
  | raw v => cases m
  | fk k => cases m
  | ow ds =>
    obtain ⟨r, vs, e, q0, qF, qH, _⟩ := q
    cases e
    exact ⟨q0, qF, _, qH, fun _ z => by (cases z), fun c q z => by (unfold LamX.CodeO at z; cases z)⟩
  | od ds =>
    obtain ⟨r, vs, e, q0, qF, qH, _⟩ := q
    cases e
    exact ⟨q0, qF, _, qH, fun _ z => by (cases z), fun c q z => by (unfold LamX.CodeO at z; cases z)⟩
  | ob C =>
    obtain ⟨r, u, e, q0, qF, qH, qn, _⟩ := q
    cases e
    exact ⟨q0, qF, _, qH, qn⟩
theorem stp_wo_self (sb : Sub F H) : Stp F (wo L H) F H :=
  ⟨Ex.refl F, sb, fun a o e _ => (wo_some e).2, fun a o e => ⟨o, (wo_some e).2⟩, fun P t => t.at_ (fun ps e => (wo_some e).2) fun c q e => (wo_some e).2, fun _ _ _ n => n⟩
/-- what is ours is not in the target's old part -/
theorem Stp.wo (s : Stp F H F' H') (hL : ∀ p, L p → H p = none) (hF : ∀ p, L p → F' p = none) (hc : ∀ p, L p → ∀ c q, H' p ≠ some (LamX.CodeO c q)) : Stp F H F' (wo L H') := by
  refine ⟨s.f, ⟨fun a o e n => ?_, s.i.nt⟩, fun a o e n => ?_, fun a o e => ?_, fun P t => ?_, s.n⟩
  · have na : ¬ L a := fun h => by rw [hF a h] at e; cases e
    rw [wo_out na]; exact s.i.ex a o e n
  · have na : ¬ L a := fun h => by rw [hL a h] at e; cases e
    rw [wo_out na]; exact s.h a o e n
  · have na : ¬ L a := fun h => by rw [hL a h] at e; cases e
    rw [wo_out na]; exact s.s a o e
  · have na : ¬ L P := fun h => by
      obtain ⟨ps0, e0, _⟩ := t.1
      rw [hL P h] at e0; cases e0
    exact (s.t P t).at_ (fun ps e => by rw [wo_out na]; exact e) fun c q e => by rw [wo_out fun l => hc c l c q e]; exact e
theorem Holds.restart (hh : Holds g G σ F H) (ex : Ex F F') (sb : Sub F' H') (tb : ∀ P ∈ g.T, TabQ H' P) (keep : ∀ p u, Own G σ p → H p = some u → (∀ ps, u ≠ .tbl ps) → H' p = some u ∧ F' p = none) :
    Holds ⟨g.K, g.T, F', DW.wo (Own G σ) H', F'⟩ G σ F' H' := by
  refine ⟨hh.len, stp_wo_self sb, fun j s o e1 e2 => ?_, hh.apart, tb, Ex.refl F'⟩
  have q := hh.sl j s o e1 e2
  cases s with
  | un => trivial
  | fz d => obtain ⟨v, ev, hv⟩ := q; exact ⟨v, ev, ex.dp d v hv⟩
  | raw v => exact q
  | ow es =>
    obtain ⟨r, ws, er, q0, qF, qH, qd⟩ := q
    have ow : Own G σ r := ⟨j, _, e1, rfl, by rw [e2, er]⟩
    obtain ⟨k1, k2⟩ := keep r _ ow qH fun _ z => by cases z
    exact ⟨r, ws, er, wo_in ow, k2, k1, ex.dps es ws qd⟩
  | od es =>
    obtain ⟨r, ws, er, q0, qF, qH, qd⟩ := q
    have ow : Own G σ r := ⟨j, _, e1, rfl, by rw [e2, er]⟩
    obtain ⟨k1, k2⟩ := keep r _ ow qH fun _ z => by cases z
    exact ⟨r, ws, er, wo_in ow, k2, k1, qd.mono ex⟩
  | fk es =>
    obtain ⟨r, ws, er, hr, qd⟩ := q
    exact ⟨r, ws, er, ex.rd hr (fun _ z => by cases z), qd.mono ex⟩
  | ob C =>
    obtain ⟨r, u, er, q0, qF, qH, qn, qC⟩ := q
    have ow : Own G σ r := ⟨j, _, e1, rfl, by rw [e2, er]⟩
    obtain ⟨k1, k2⟩ := keep r _ ow qH qn.tab
    exact ⟨r, u, er, wo_in ow, k2, k1, qn, fun F2 e2 => qC F2 (ex.trans e2)⟩
end
/-- a region L of the heap in a state: Ψ tells of it alone -/
structure Gst (L : Addr → Prop) where
  Ψ : Hp → Hp → Prop
  own : ∀ F H, Ψ F H → ∀ p, L p → F p = none ∧ ∃ u, H p = some u ∧ NtO u
  mov : ∀ F H F' H', Ψ F H → Ex F F' → (∀ p, L p → H' p = H p) → (∀ p, L p → F' p = none) → Ψ F' H'
def HR (b : Gd) {L : Addr → Prop} (Γ : Gst L) (G : List Sl) (σ : L2.St) (F H : Hp) : Prop := (∀ p, L p → b.H0 p = none) ∧ ∃ F0 H0 Fl, Γ.Ψ F0 H0 ∧ Stp b.F0 b.H0 F0 H0 ∧ Ex b.Fl Fl ∧ Holds ⟨b.K, b.T, F0, H0, Fl⟩ G σ F H
section
variable {b : Gd} {L : Addr → Prop} {Γ Γ' Γ1 Γ2 : Gst L} {G G' : List Sl} {σ : L2.St} {F H F' H' F0 H0 Fl : Hp}
theorem Gst.stp (h : Γ.Ψ F H) (s : Stp F H F' H') : Γ.Ψ F' H' := Γ.mov F H F' H' h s.f (fun p hp => by
    obtain ⟨_, u, e, n⟩ := Γ.own F H h p hp
    rw [e]; exact s.h p u e n.tab) fun p hp => by
    obtain ⟨e0, u, e, n⟩ := Γ.own F H h p hp
    exact s.n p u e e0
theorem HR.psi (h : HR b Γ G σ F H) : Γ.Ψ F H := by
  obtain ⟨_, F0, H0, Fl, p, s, _, hh⟩ := h
  exact Gst.stp p hh.st
theorem HR.st (h : HR b Γ G σ F H) : Stp b.F0 b.H0 F H := by
  obtain ⟨_, F0, H0, Fl, p, s, _, hh⟩ := h
  exact s.trans hh.st
theorem HR.tab (h : HR b Γ G σ F H) : ∀ P ∈ b.T, TabQ H P := by
  obtain ⟨_, F0, H0, Fl, p, s, _, hh⟩ := h
  exact hh.tab
theorem HR.mono (h : HR b Γ G σ F H) (s : Stp F H F' H') : HR b Γ G σ F' H' := by
  obtain ⟨hL, F0, H0, Fl, p, s0, l0, hh⟩ := h
  exact ⟨hL, F0, H0, Fl, p, s0, l0, hh.mono s⟩
theorem HR.own (h : HR b Γ G σ F H) {p : Addr} (o : Own G σ p) : ¬ L p ∧ b.H0 p = none ∧ F p = none ∧ ∃ u, H p = some u ∧ NtO u := by
  obtain ⟨hL, F0, H0, Fl, p0, s0, l0, hh⟩ := h
  obtain ⟨e0, e1, e2⟩ := own_at hh o
  refine ⟨fun l => ?_, old_free s0 e0, e1, e2⟩
  obtain ⟨_, u, e, _⟩ := Γ.own F0 H0 p0 p l
  rw [show H0 p = none from e0] at e; cases e
theorem HR.wk (h : HR b Γ G σ F H) (w : Wk G G') : HR b Γ G' σ F H := by
  obtain ⟨hL, F0, H0, Fl, p, s0, l0, hh⟩ := h
  exact ⟨hL, F0, H0, Fl, p, s0, l0, hh.wk w⟩
/-- the region changes -/
theorem HR.change (h : HR b Γ G σ F H) (ex : Ex F F') (st : Stp b.F0 b.H0 F' H') (tb : ∀ P ∈ b.T, TabQ H' P) (ps : Γ'.Ψ F' H') (keep : ∀ p u, ¬ L p → F p = none → H p = some u → (∀ ps, u ≠ .tbl ps) → H' p = some u ∧ F' p = none) : HR b Γ' G σ F' H' := by
  have ow := fun p (o : Own G σ p) => h.own o
  obtain ⟨hL, F0, H0, Fl, p0, s0, l0, hh⟩ := h
  have hh2 := hh.restart ex st.i tb fun p u o e n => keep p u (ow p o).1 (ow p o).2.2.1 e n
  refine ⟨hL, F', DW.wo (Own G σ) H', F', ?_, st.wo (fun p o => (ow p o).2.1) (fun p o => ?_) (fun p o c q z => ?_), l0.trans (hh.lo.trans ex), hh2⟩
  · exact Γ'.mov F' H' F' _ ps (Ex.refl F') (fun p hp => wo_out fun o => (ow p o).1 hp) fun p hp => (Γ'.own F' H' ps p hp).1
  · obtain ⟨n1, _, e1, u, e2, n2⟩ := ow p o
    exact (keep p u n1 e1 e2 n2.tab).2
  · obtain ⟨n1, _, e1, u, e2, n2⟩ := ow p o
    rw [(keep p u n1 e1 e2 n2.tab).1] at z
    exact n2.code c q (Option.some.inj z)
end
/-! ### judgements -/
def ER (b : Gd) {L : Addr → Prop} (te : TE) (G : List Sl) (Γ Γ' : Gst L) (d : PyData) : Prop := ∀ σ F H, HR b Γ G σ F H → ∀ Q : VK, (∀ v F' H', Ex F F' → HR b Γ' G σ F' H' → Dp b.K F' v d → Q v H') → te σ H Q
def TR (b : Gd) {L : Addr → Prop} (tt : TT) (G : List Sl) (Γ Γ' : Gst L) (c : Bool) : Prop := ∀ σ F H, HR b Γ G σ F H → ∀ Q : Bool → Hp → Prop, (∀ F' H', Ex F F' → HR b Γ' G σ F' H' → Q c H') → tt σ H Q
def AR (b : Gd) {L : Addr → Prop} (ta : TA) (G : List Sl) (Γ Γ' : Gst L) (ds : List PyData) : Prop := ∀ σ F H, HR b Γ G σ F H → ∀ Q : List V → Hp → Prop, (∀ vs F' H', Ex F F' → HR b Γ' G σ F' H' → DpAll b.K F' vs ds → Q vs H') → ta σ H Q
def SR (b : Gd) {L : Addr → Prop} (t : TS) (D : Ends) (G : List Sl) (Γ : Gst L) : Prop := ∀ σ F H, HR b Γ G σ F H → t D σ H
def NR (b : Gd) {L : Addr → Prop} (nx : L2.St → Hp → Prop) (G : List Sl) (Γ : Gst L) : Prop := ∀ σ F H, HR b Γ G σ F H → nx σ H
section
variable {b : Gd} {L : Addr → Prop} {Γ Γ' Γ1 Γ2 : Gst L} {G G' : List Sl} {te ta tb : TE} {tt tu : TT} {t1 t2 tw : TS} {d x y z : PyData} {ds es : List PyData} {i j : Nat} {D : Ends} {c c1 c2 : Bool} {tg : TG} {ix : List Nat} {tas tr : TA}
theorem er_E (h : ∀ F0 H0 Fl, Γ.Ψ F0 H0 → E ⟨b.K, b.T, F0, H0, Fl⟩ te G d) : ER b te G Γ Γ d := fun σ F H hh Q q => by
  obtain ⟨hL, F0, H0, Fl, p, s0, l0, h0⟩ := hh
  exact h F0 H0 Fl p σ F H h0 Q fun v F1 H1 s1 d1 => q v F1 H1 s1.f ⟨hL, F0, H0, Fl, p, s0, l0, h0.mono s1⟩ d1
theorem ar_A (h : ∀ F0 H0 Fl, Γ.Ψ F0 H0 → A ⟨b.K, b.T, F0, H0, Fl⟩ tas G ds) : AR b tas G Γ Γ ds := fun σ F H hh Q q => by
  obtain ⟨hL, F0, H0, Fl, p, s0, l0, h0⟩ := hh
  exact h F0 H0 Fl p σ F H h0 Q fun v F1 H1 s1 d1 => q v F1 H1 s1.f ⟨hL, F0, H0, Fl, p, s0, l0, h0.mono s1⟩ d1
/-! ### statements -/
theorem HR.setF {σ : L2.St} {F H : Hp} (h : HR b Γ G σ F H) {v : V} (hd : Dp b.K F v d) : HR b Γ (G.set i (.fz d)) (σ.set i (some v)) F H := by
  obtain ⟨hL, F0, H0, Fl, p, s0, l0, hh⟩ := h
  exact ⟨hL, F0, H0, Fl, p, s0, l0, hh.setF hd⟩
theorem sr_next (h : NR b D.nx G Γ) : SR b tNext D G Γ := h
theorem r_asg (h : ER b te G Γ Γ' d) (k : SR b tw D (G.set i (.fz d)) Γ') : SR b (tSeq (tAsg te (gName i)) tw) D G Γ := fun σ F H hh => h σ F H hh _ fun v F1 H1 s1 hh1 d1 => k _ F1 H1 (hh1.setF d1)
theorem sr_if (h : TR b tt G Γ Γ' c) (h1 : c = true → SR b t1 D G Γ') (h2 : c = false → SR b t2 D G Γ') : SR b (tIfS tt t1 t2) D G Γ := fun σ F H hh => h σ F H hh _ fun F1 H1 s1 hh1 => by
  cases c with
  | true => exact h1 rfl σ F1 H1 hh1
  | false => exact h2 rfl σ F1 H1 hh1
def RtF (b : Gd) {L : Addr → Prop} (Γ : Gst L) (Q : VK) (d : PyData) : Prop := ∀ v F H, Stp b.F0 b.H0 F H → Γ.Ψ F H → Dp b.K F v d → Q v H
theorem sr_ret (h : ER b te G Γ Γ' d) (k : RtF b Γ' D.rt d) : SR b (tRet te) D G Γ := fun σ F H hh => h σ F H hh _ fun v F1 H1 s1 hh1 d1 => k v F1 H1 hh1.st hh1.psi d1
theorem Holds.app {g : Gd} {σ : L2.St} {F1 H1 : Hp} {p : Addr} {vs : List V} {v : V} (base : Holds g G σ F1 H1) (h : G[i]? = some (.ow ds)) (e : σ[i]? = some (some (.ref p))) (h0 : g.H0 p = none) (hF1 : F1 p = none) (hH1 : H1 p = some (.lst vs)) (hd : DpAll g.K F1 vs ds) (d1 : Dp g.K F1 v d) :
    Holds g (G.set i (.ow (ds ++ [d]))) σ F1 (upd H1 p (.lst (vs ++ [v]))) := by
  have hi : i < σ.length := (List.getElem?_eq_some_iff.mp e).1
  have hs : σ.set i (some (.ref p)) = σ := by
    apply List.ext_getElem?
    intro j
    by_cases hj : i = j
    · subst hj; rw [List.getElem?_set_self hi, e]
    · rw [List.getElem?_set_ne hj]
  have h1 : Holds g (G.set i .un) σ F1 H1 := base.weak (by rw [List.length_set]) fun j s ej => by
    by_cases hj : i = j
    · subst hj; rw [List.getElem?_set_self (by rw [← base.len]; exact hi)] at ej; cases ej; exact .inl rfl
    · rw [List.getElem?_set_ne hj] at ej; exact .inr ej
  have other : ∀ (j : Nat) (t : Sl), j ≠ i → G[j]? = some t → t.mine = true → σ[j]? ≠ some (some (.ref p)) := fun j t hj ej m z => hj (base.apart j i t (.ow ds) p ej h m rfl z e)
  have h2 : Holds g (G.set i .un) σ F1 (upd H1 p (.lst (vs ++ [v]))) := h1.mut h0 hF1 hH1 (fun _ z => by cases z) fun j t ej m => by
    by_cases hj : i = j
    · subst hj; rw [List.getElem?_set_self (by rw [← base.len]; exact hi)] at ej; cases ej; cases m
    · rw [List.getElem?_set_ne hj] at ej; exact other j t (Ne.symm hj) ej m
  have h3 := h2.setO (i := i) (ds := ds ++ [d]) h0 hF1 upd_same (dps_app hd (.cons d1 .nil)) fun j hj ⟨t, ej, m⟩ => by
    rw [List.getElem?_set_ne (Ne.symm hj)] at ej; exact other j t hj ej m
  rw [List.set_set, hs] at h3
  exact h3
/-- some state of a turn -/
def nxR (b : Gd) {L : Addr → Prop} {α : Type} (Iv : α → List Sl) (Γs : α → Gst L) (P : α → Prop) : L2.St → Hp → Prop := fun σ H => ∃ a, P a ∧ ∃ F, HR b (Γs a) (Iv a) σ F H
theorem nr_end {α : Type} {Iv : α → List Sl} {Γs : α → Gst L} {P : α → Prop} (a : α) (p : P a) (w : Wk G (Iv a)) : NR b (nxR b Iv Γs P) G (Γs a) := fun σ F H hh => ⟨a, p, F, hh.wk w⟩
theorem sr_cut {α : Type} (Iv : α → List Sl) (Γs : α → Gst L) (P : α → Prop) (h : SR b t1 { D with nx := nxR b Iv Γs P } G Γ) (k : ∀ a, P a → SR b tw D (Iv a) (Γs a)) : SR b (Evl.tCut t1 tw) D G Γ := fun σ F H hh =>
  ⟨nxR b Iv Γs P, h σ F H hh, fun σ' H' ⟨a, p, F', h'⟩ => k a p σ' F' H' h'⟩
end
/-! ### a family of objects of one class, each with its region -/
structure Fam (K : PySem.W.Frag) (C : Addr) where
  ι : Type
  α : Type
  ad : ι → Addr
  L : ι → Addr → Prop
  Γ : (i : ι) → α → Gst (L i)
  names : List Str
  ins : ∀ i s F H, (Γ i s).Ψ F H → ∃ dx ws, H (ad i) = some (.ins C dx ws) ∧ ∀ m, m ∉ names → ws.lookup m = none
/-- a method: (state, arguments) ↦ (state, answer) -/
def spF (K : PySem.W.Frag) (Tb : List Addr) {C : Addr} (Fm : Fam K C) (R : Fm.α → List PyData → Fm.α → PyData → Prop) : Sp := fun vs H Q _ => ∃ F i us s ds s' d, vs = .ref (Fm.ad i) :: us ∧ Sub F H ∧ (∀ P ∈ Tb, TabQ H P) ∧ (Fm.Γ i s).Ψ F H ∧ DpAll K F us ds ∧ R s ds s' d ∧
  ∀ v F' H', Stp F (wo (Fm.L i) H) F' H' → (Fm.Γ i s').Ψ F' H' → Dp K F' v d → Q v H'
theorem del_wo {b : Gd} {L : Addr → Prop} {Γ Γ' : Gst L} {G : List Sl} {σ : L2.St} {F H F' H' : Hp} (h : HR b Γ G σ F H) (s : Stp F (wo L H) F' H') (p' : Γ'.Ψ F' H') (tb : ∀ P ∈ b.T, TabQ H' P) : HR b Γ' G σ F' H' := by
  have st := h.st
  have hL := h.1
  refine h.change s.f ((st.wo hL (fun p hp => (Γ.own F H h.psi p hp).1) fun p hp c q z => by obtain ⟨_, u, e, n⟩ := Γ.own F H h.psi p hp; rw [e] at z; exact n.code c q (Option.some.inj z)).trans s) tb p' fun p u nl e0 e1 n => ?_
  have e2 : wo L H p = some u := by rw [wo_out nl]; exact e1
  exact ⟨s.h p u e2 n, s.n p u e2 e0⟩
theorem tab_wo {b : Gd} {L : Addr → Prop} {Γ : Gst L} {F H : Hp} {P : Addr} (p : Γ.Ψ F H) (t : TabQ H P) : TabQ (wo L H) P := by
  refine t.at_ (fun ps e => ?_) fun c q e => ?_
  · rw [wo_out fun h => ?_]; · exact e
    obtain ⟨_, u, e1, n⟩ := Γ.own F H p P h
    rw [e] at e1; cases e1; exact n.tab ps rfl
  · rw [wo_out fun h => ?_]; · exact e
    obtain ⟨_, u, e1, n⟩ := Γ.own F H p c h
    rw [e] at e1; cases e1; exact n.code c q rfl
section
variable {b : Gd} {C : Addr} {Fm : Fam b.K C} {i : Fm.ι} {s s1 s' : Fm.α} {G : List Sl} {j : Nat} {ta : TA} {ds : List PyData} {d : PyData} {m : Str}
theorem er_meth {R : Fm.α → List PyData → Fm.α → PyData → Prop} {Ek : XK} (h : G[j]? = some (.raw (.ref (Fm.ad i)))) (ha : AR b ta G (Fm.Γ i s) (Fm.Γ i s1) ds) (hm : m ∉ Fm.names) (r : R s1 ds s' d) :
    ER b (tMeth C m (spF b.K b.T Fm R) [] Ek (tVar j) ta) G (Fm.Γ i s) (Fm.Γ i s') d := fun σ F H hh Q q => by
  obtain ⟨dx, ws, e1, e2⟩ := Fm.ins i s F H hh.psi
  have hh0 := hh
  obtain ⟨hL, F0, H0, Fl, p0, s0, l0, h0⟩ := hh0
  obtain ⟨o, eo, ok⟩ := h0.at_ h
  obtain rfl : o = some (.ref (Fm.ad i)) := ok
  refine ⟨.ref (Fm.ad i), eo, Fm.ad i, dx, ws, rfl, e1, e2 m hm, ha σ F H hh _ fun us F1 H1 x1 hh1 d1 => ?_⟩
  rw [List.append_nil]
  refine ⟨F1, i, us, s1, ds, s', d, rfl, hh1.st.i, hh1.tab, hh1.psi, d1, r, fun v F2 H2 s2 p2 d2 => ?_⟩
  exact q v F2 H2 (x1.trans s2.f) (del_wo hh1 s2 p2 fun P hP => s2.t P (tab_wo (b := b) hh1.psi (hh1.tab P hP))) d2
end
section
variable {P : Program} {w : World} {K : PySem.W.Frag} {mg : Str → Option Value} {base : Heap} {m qual n0 : Str} {st : Stmt} {f C : Addr} {fd : FuncData} {N ps : List Str} {k : Nat} {Tb : List Addr}
theorem hr_start {Fm : Fam K C} {i : Fm.ι} {s : Fm.α} {F H : Hp} {us : List V} {ds : List PyData} (sb : Sub F H) (ht : ∀ P ∈ Tb, TabQ H P) (ps : (Fm.Γ i s).Ψ F H) (hd : DpAll K F us ds) :
    HR ⟨K, Tb, F, wo (Fm.L i) H, F⟩ (Fm.Γ i s) (beginM (n0 :: N) (.raw (.ref (Fm.ad i))) ds) (L2.start (n0 :: N) (.ref (Fm.ad i) :: us)) F H := by
  refine ⟨fun p hp => wo_in hp, F, H, F, ps, stp_wo_self sb, Ex.refl F, ?_⟩
  have hs := holds_start (K := K) (Tb := Tb) (Nn := N) sb ht hd
  have es : L2.start (n0 :: N) (.ref (Fm.ad i) :: us) = some (V.ref (Fm.ad i)) :: L2.start N us := by
    unfold L2.start
    rw [List.map_cons, List.length_cons, List.length_cons, Nat.add_sub_add_right]
    rfl
  have eb : beginM (n0 :: N) (.raw (.ref (Fm.ad i))) ds = .raw (.ref (Fm.ad i)) :: startG N.length ds := rfl
  rw [es, eb]
  refine ⟨by rw [List.length_cons, List.length_cons, hs.len], hs.st, fun j s o e1 e2 => ?_, fun j k s t p e1 e2 m1 m2 _ _ => ?_, ht, Ex.refl F⟩
  · cases j with
    | zero => cases e1; cases e2; rfl
    | succ j => exact hs.sl j s o e1 e2
  · cases j with
    | zero => cases e1; cases m1
    | succ j =>
      have e1 : (startG N.length ds)[j]? = some s := e1
      rw [start_no e1] at m1; cases m1
theorem mt_F (Fn : Fun K m qual st f fd) (Sc : FnScope (n0 :: N) ps (defScope st)) (hM : Meth K C m f) (hb : Binds K fd ps []) {Fm : Fam K C} {R : Fm.α → List PyData → Fm.α → PyData → Prop} (hlen : ∀ s ds s' d, R s ds s' d → ds.length + 1 = ps.length)
    (body : ∀ (cdv : Value) (A : Around) (outer : List Env) (s : Shared) (H : Hp) (E : XK), Room k (A.deeper (envOfC qual (defScope st) s.heap.objs.size f cdv)) →
      ∃ t, PSs (cxOf CX0 P w K mg base (n0 :: N) qual (defScope st) f cdv A outer s H E).nox (defBody st) t ∧ ∀ (i : Fm.ι) (s : Fm.α) (ds : List PyData) (s' : Fm.α) (d : PyData) (F0 H0 : Hp) (Q : VK), R s ds s' d → RtF ⟨K, Tb, F0, H0, F0⟩ (Fm.Γ i s') Q d →
        SR ⟨K, Tb, F0, H0, F0⟩ t { nx := fun _ H' => Q .non H', rt := Q } (beginM (n0 :: N) (.raw (.ref (Fm.ad i))) ds) (Fm.Γ i s)) :
    MtOk P w K mg base (k + 1) C m ps (spF K Tb Fm R) := by
  refine ⟨f, fd, hM, Fn.ok Sc (fun vs H Q E h => ?_) (fun cdv A outer s H vs Q E hr h => ?_), hb⟩
  · obtain ⟨F1, i, us, s, ds, s', d, rfl, _, _, _, hd, r, _⟩ := h
    rw [List.length_cons, dps_len hd]; exact hlen _ _ _ _ r
  · obtain ⟨F1, i, us, s1, ds, s', d, rfl, sb, ht, p1, hd, r, q⟩ := h
    obtain ⟨t, h1, h2⟩ := body cdv A outer s H E hr
    exact ⟨t, h1, h2 i s1 ds s' d F1 (wo (Fm.L i) H) Q r (fun v F' H' a1 a2 a3 => q v F' H' a1 a2 a3) _ F1 H (hr_start sb ht p1 hd)⟩
end
end DW
/-! calls that raise an exception with fields and pass it on; y not in f(..), f gives a new dict; from a region back to slots -/
namespace DW
open PySem PySem.Spec PyProof.Rows L2
variable [LamTabs]
/-- te gives no value -/
def NoRet (g : Gd) (te : TE) (G : List Sl) : Prop := ∀ σ F H, Holds g G σ F H → ∀ Q : VK, te σ H Q
section
variable {g : Gd} {G : List Sl} {te ty : TE} {ta : TA} {tw : TS} {tg : TG} {ds : List PyData} {d : PyData} {D : Ends} {C : Addr} {fs : List (Str × PyData)} {i : Nat}
theorem nor_call {R : List PyData → Out → Prop} {Es : L2.St → XK} (h : A g ta G ds) (r : R ds (.exc C fs)) (k : ∀ σ, XtOk g (Es σ) C fs) : NoRet g (tCallS (spX g.K g.T R) Es ta) G := fun σ F H hh Q => h σ F H hh _ fun vs F1 H1 s1 d1 =>
  ⟨F1, ds, .exc C fs, s1.i, (hh.mono s1).tab, d1, r, fun dx ws F2 H2 s2 h0 hF hH hf => k σ dx ws F2 H2 ((hh.mono s1).st.trans s2) (old_free (hh.mono s1).st h0) hF hH hf⟩
theorem q_dropE (h : NoRet g te G) : S g (tSeq (tDrop te) tw) D G := fun σ F H hh => h σ F H hh _
end
section
variable {b : Gd} {L : Addr → Prop} {Γ : Gst L} {G : List Sl} {σ : L2.St} {F H F0 H0 : Hp}
/-- a region of new objects beside the slots -/
theorem HR.fresh (hh : Holds b G σ F H) (hL : ∀ p, L p → b.H0 p = none) (no : ∀ p, Own G σ p → ¬ L p) (p : Γ.Ψ F H) : HR b Γ G σ F H := by
  have h2 := hh.restart (Ex.refl F) hh.st.i hh.tab fun p u o e n => ⟨e, (own_at hh o).2.1⟩
  refine ⟨hL, F, DW.wo (Own G σ) H, F, ?_, hh.st.wo (fun p o => (own_at hh o).1) (fun p o => (own_at hh o).2.1) (fun p o c q z => by obtain ⟨_, _, u, e, n⟩ := own_at hh o; rw [e] at z; exact n.code c q (Option.some.inj z)), hh.lo, h2⟩
  exact Γ.mov F H F _ p (Ex.refl F) (fun p hp => wo_out fun o => no p o hp) fun q hq => (Γ.own F H p q hq).1
end
end DW
/-! xs.pop() inside an expression; calls over arguments that change a slot -/
namespace DW
open PySem PySem.Spec PyProof.Rows L2
end DW
/-! the digits of a whole number's text -/
namespace DW
open PySem PySem.Spec PyProof.Rows L2
end DW
/-! a lambda with one parameter and captured names, handed to a def as an argument: its call there -/
namespace DW
open PySem PySem.Spec PyProof.Rows L2 LamX
/-- one parameter, no other name of its own: captured ones and globals -/
structure LamS1 (sc scope : Scope) (a : Str) : Prop where
  kind : scope.kind = .function
  co : scope.isCoroutine = false
  gen : scope.isGenerator = false
  own : ∀ y ∈ scope.names, (y.2 = .local → y.1 = a) ∧ y.2 ≠ .cell
  par : scope.names.lookup a = some .local
  free : ∀ y ∈ scope.names, y.2 = .free → sc.names.lookup y.1 = some .cell ∨ sc.names.lookup y.1 = some .free
def lamS1B (sc scope : Scope) (a : Str) : Bool :=
  decide (scope.kind = .function) && !scope.isCoroutine && !scope.isGenerator && decide (scope.names.lookup a = some .local) && scope.names.all fun y => (!decide (y.2 = .local) || decide (y.1 = a)) && !decide (y.2 = .cell) && (!decide (y.2 = .free) || decide (sc.names.lookup y.1 = some .cell) || decide (sc.names.lookup y.1 = some .free))
theorem lamS1_by {sc scope : Scope} {a : Str} (h : lamS1B sc scope a = true) : LamS1 sc scope a := by
  unfold lamS1B at h
  simp only [Bool.and_eq_true, Bool.or_eq_true, Bool.not_eq_true', decide_eq_true_eq, decide_eq_false_iff_not, List.all_eq_true] at h
  obtain ⟨⟨⟨⟨h1, h2⟩, h3⟩, hp⟩, h4⟩ := h
  refine ⟨h1, h2, h3, fun y hy => ⟨fun z => ((h4 y hy).1.1).elim (fun n => absurd z n) id, (h4 y hy).1.2⟩, hp, fun y hy e => ?_⟩
  rcases (h4 y hy).2 with (z | z) | z
  · exact absurd e z
  · exact .inl z
  · exact .inr z
theorem LamS1.has {X : Cx} {scope : Scope} {a : Str} (L : LamS1 X.env.scope scope a) (ok : X.Ok) : ∀ y ∈ scope.names, y.2 = .free → ∃ c, X.env.cells.lookup y.1 = some c := fun y hy e => by
  rcases L.free y hy e with k | k
  · exact ok.has _ (.inl k)
  · exact ok.has _ (.inr k)
/-- the context of the lambda's body: the parameter stands behind the maker's names -/
def lamCx1 (X : Cx) (a : Str) (A : Around) (outer : List Env) (s : Shared) (H : Hp) (E : XK) (scope : Scope) (f c' : Addr) : Cx := { lamCx X A outer s H E scope f c' with N := X.N ++ [a] }
section
variable {X : Cx} {pins : List (Addr × Obj)} {σ : L2.St} {H HZ : Hp} {s s1 : Shared}
theorem lam_start1 {A : Around} {outer : List Env} {E : XK} {scope : Scope} {f c' : Addr} {h₁ : Heap} {tk : Nat} {a : Str} {u : Value} {v : V} (I : Inv X pins σ H s) (L : LamS1 X.env.scope scope a) (nN : a ∉ X.N) (rv : RelV v u)
    (e0 : Env0 X.prog X.w X.K X.mg X.base A outer s1 HZ) (hd : A.handled = none)
    (un : Un (frs X.stack) [] H HZ s.heap s1.heap) (hns : h₁.Ns s1.heap.objs.size fun y => ([(a, u)] : List (Str × Value)).reverse.lookup y) (kp : ∀ b o, s1.heap.get? b = some o → h₁.get? b = some o) :
    Inv (lamCx1 X a A outer s1 HZ E scope f c') [] (σ ++ [some v]) HZ { s1 with heap := h₁, toks := tk } := by
  have hfree := L.has I.ok
  have cm : ∀ {y c}, (cloFrom X.env.cells scope.names []).lookup y = some c → X.env.cells.lookup y = some c := fun {y c} e => by
    rcases cloFrom_mem (PySem.mem_of_lookup e) with hm | ⟨h1, h2⟩
    · cases hm
    · obtain ⟨c1, hc⟩ := hfree _ h1 rfl
      have hc : X.env.cells.lookup y = some c1 := hc
      have e2 : c = c1 := by
        rw [h2, hc] <;> rfl
      rw [e2]
      exact hc
  have look : ∀ {y}, scope.names.lookup y = some .free → ∃ c, (cloFrom X.env.cells scope.names []).lookup y = some c := fun {y} hl => by
    have hy : (y, NameKind.free) ∈ scope.names := PySem.mem_of_lookup hl
    exact mem_lookup (cloFrom_has (cells := X.env.cells) (acc := []) hy)
  have cellK : ∀ {c : Addr} {v : Option Value}, H c = none → s.heap.IsCell c v → h₁.IsCell c v := fun {c v} n ⟨o, ho, hd⟩ => by
    obtain ⟨sl, q⟩ := un.any ho n (by simp)
    exact ⟨_, kp _ _ q, hd⟩
  have noA : ∀ b : Addr, b ∉ (lamCx1 X a A outer s1 HZ E scope f c').ex := fun b z => absurd (show b ∈ ([] : List Addr) from z) (by simp)
  refine ⟨⟨e0.mod, L.kind, rfl, rfl, Nat.le_refl _, fun y z c e1 e2 => I.ok.inj y z c (cm e1) (cm e2), fun y hy => ?_, fun y c z _ => ?_, fun _ => hd, Around.frames_deeper e0.frames, .inr ⟨rfl, rfl⟩, fun b z => absurd z (noA b), e0.bs, e0.bsz, fun b _ _ => noA b,
      fun b z => absurd z (noA b), e0.funs, e0.frf⟩,
    rfl, e0.bare, Un.kept kp, ⟨_, hns, fun i y v0 e1 e2 e3 => ?_⟩, fun y c e => ?_, e0.hok.fresh (Nat.le_refl _), fun y c e => ?_, fun q hq => absurd (show q ∈ ([] : List (Addr × Obj)) ++ [] from hq) (by simp), e0.hok.kept kp, ?_⟩
  · have hy : scope.names.lookup y = some .cell ∨ scope.names.lookup y = some .free := hy
    rcases hy with hy | hy
    · exact absurd rfl (L.own _ (PySem.mem_of_lookup hy)).2
    · exact look hy
  · have z : false = true := z
    cases z
  · have e1 : (X.N ++ [a])[i]? = some y := e1
    have e3 : Vis scope y := e3
    by_cases hi : i < X.N.length
    · rw [List.getElem?_append_left hi] at e1
      rw [List.getElem?_append_left (by rw [I.len]; exact hi)] at e2
      have na : y ≠ a := fun z => nN (by rw [← z]; exact List.mem_of_getElem? e1)
      rcases e3 with k | k | k
      · exact absurd ((L.own _ (PySem.mem_of_lookup k)).1 rfl) na
      · exact absurd rfl (L.own _ (PySem.mem_of_lookup k)).2
      · obtain ⟨m, hn, hl⟩ := I.loc
        have hvis : Vis X.env.scope y := (L.free _ (PySem.mem_of_lookup k) rfl).elim (fun k => .inr (.inl k)) (fun k => .inr (.inr k))
        obtain ⟨w', r, q⟩ := hl i y v0 e1 e2 hvis
        obtain ⟨c2, h2⟩ := look k
        refine ⟨w', r, .inr ⟨.inr k, c2, h2, ?_⟩⟩
        have c1 := cm h2
        rcases q with ⟨k', _⟩ | ⟨_, c3, e', z⟩
        · have k' : X.env.scope.names.lookup y = some .local := k'
          rcases L.free _ (PySem.mem_of_lookup k) rfl with k2 | k2 <;> rw [show X.env.scope.names.lookup y = _ from k2] at k' <;> cases k'
        · rw [c1] at e'
          cases e'
          exact cellK (I.freeC y _ c1) z
    · rw [List.getElem?_append_right (by omega)] at e1
      rw [List.getElem?_append_right (by rw [I.len]; omega), I.len] at e2
      have hi0 : i - X.N.length = 0 := by
        have := (List.getElem?_eq_some_iff.mp e1).1
        simp only [List.length_cons, List.length_nil] at this
        omega
      rw [hi0] at e1 e2
      cases e1
      cases e2
      exact ⟨u, rv, .inl ⟨L.par, by simp⟩⟩
  · obtain ⟨w', z⟩ := I.cell y c (cm e)
    exact ⟨w', cellK (I.freeC y c (cm e)) z⟩
  · obtain ⟨v, o, ho, hd⟩ := I.cell y c (cm e)
    exact un.free c o ho (I.freeC y c (cm e)) (by simp)
  · show (σ ++ [some v]).length = (X.N ++ [a]).length
    rw [List.length_append, List.length_append, I.len]; rfl
/-- what the making of a lambda does to the known heap: nothing, or one code object more in its maker's table -/
def LamUp (H H1 : Hp) (P c' : Addr) (q : Str) : Prop := H1 = H ∨ ∃ ps more : Array Value, H P = some (.tbl ps) ∧ TriplesOk (ps ++ more).toList ∧ H c' = none ∧ H1 = upd (upd H P (.tbl (ps ++ more))) c' (CodeO c' q)
/-- the lambda is made; the table is told of the very heap -/
theorem lam_make3 {c P : Addr} {params : Arguments} {body : Expr} {scope : Scope} {pos : Pos} {E : Value → Shared → Prop} {Q : Value → Shared → Prop} (I : Inv X pins σ H s) (TB : TabB X.base X.mg c P) (hcode : X.env.code = .ref c)
    (ht : TabS H P (X.env.qual ++ "<lambda>")) (hdef : defaultsOf params X.env = ([], [])) (hfree : ∀ y ∈ scope.names, y.2 = .free → ∃ c, X.env.cells.lookup y.1 = some c)
    (h : ∀ (f c' : Addr) (pm ctv : Value) (H1 : Hp) (s' : Shared), Inv X pins σ H1 s' → LamUp H H1 P c' (X.env.qual ++ "<lambda>") → TabS H1 P (X.env.qual ++ "<lambda>") →
      s'.heap.get? f = some (PySem.W.kla_obj "<lambda>" (X.env.qual ++ "<lambda>") params body scope (cloFrom X.env.cells scope.names []) pm c' ctv) → H1 f = none → f ∉ frs X.stack → H1 c' = some (CodeO c' (X.env.qual ++ "<lambda>")) → Q (.ref f) s') :
    wpAny (model X.prog X.w) X.A (eval (.Lambda params body scope pos) X.env) Q E s := by
  obtain ⟨ps, hP, tr, codes⟩ := ht
  have nofr : ∀ f, s.heap.objs.size ≤ f → f ∉ frs X.stack := fun f hf z => by
    rcases List.mem_cons.mp (I.stkSub _ z) with e | e
    · exact Nat.lt_irrefl _ (Nat.lt_of_lt_of_le (e ▸ I.lt) hf)
    · exact I.nofs hf e
  have oP : s.heap.get? P = some { cls := .none, data := .fields ps } := I.hok P _ hP
  have bP : s.heap.BuiltinsAt X.mg P := TB.bm.keeps I.bk
  refine PySem.W.kla_eval hdef ?_
  cases hc : codeAmong pos ps.toList with
  | some cv =>
    obtain ⟨c', rfl, hco⟩ := codes pos cv hc
    refine PySem.W.kla_makeFunctionHit (mg := X.mg) (c := c) (P := P) (ps := ps) (closure_ok hfree) I.ok.glob (I.mod.glob.keeps I.bk) hcode (TB.code.keeps I.bk) oP tr hc bP fun ctv h' tk hx hsz => ?_
    exact h h'.objs.size c' ((X.mg "__name__").getD .none) ctv H _ (I.kept fun b o e => Heap.get?_push_of_some _ (hx b o e)) (.inl rfl) ⟨ps, hP, tr, codes⟩ (Heap.get?_push_size _ rfl) (I.hok.fresh hsz) (nofr _ hsz) hco
  | none =>
    refine PySem.W.kla_makeFunction (mg := X.mg) (c := c) (P := P) (ps := ps) (closure_ok hfree) I.ok.glob (I.mod.glob.keeps I.bk) hcode (TB.code.keeps I.bk) oP tr hc TB.gP bP fun c' ctv h' tk hx hge hlt hrec htb => ?_
    obtain ⟨_, oc, vs, t, ec, hoc, hd, hv⟩ := hrec
    cases ec
    have nC : H c' = none := I.hok.fresh hge
    have tr2 : TriplesOk (ps ++ #[rawInt pos.line, rawInt pos.col, .ref c']).toList := by
      rw [show (ps ++ #[rawInt pos.line, rawInt pos.col, .ref c']).toList = ps.toList ++ [rawInt pos.line, rawInt pos.col, .ref c'] by simp]
      exact PySem.TriplesOk_snoc _ _ _ _ tr
    have hsz : s.heap.objs.size ≤ h'.objs.size := by omega
    have pc : P ≠ c' := ne_of_none hP nC
    have same : ∀ b o, H b = some o → b ≠ P → upd (upd H P (.tbl (ps ++ #[rawInt pos.line, rawInt pos.col, .ref c']))) c' (CodeO c' (X.env.qual ++ "<lambda>")) b = some o := fun b o e n => by
      rw [upd_ne (ne_of_none e nC), upd_ne n]; exact e
    have J := inv_table (t' := tk) (more := #[rawInt pos.line, rawInt pos.col, .ref c']) (q := X.env.qual ++ "<lambda>") (h' := h'.push (PySem.W.kla_obj "<lambda>" (X.env.qual ++ "<lambda>") params body scope (cloFrom X.env.cells scope.names []) ((X.mg "__name__").getD .none) c' ctv)) I hP
      (fun b o hb e => Heap.get?_push_of_some _ (hx b o hb e)) (Heap.get?_push_of_some _ htb) hge ⟨oc, vs, t, Heap.get?_push_of_some _ hoc, hd, hv⟩
    refine h h'.objs.size c' ((X.mg "__name__").getD .none) ctv _ _ J (.inr ⟨ps, _, hP, tr2, nC, rfl⟩) ⟨_, by rw [upd_ne pc, upd_same], tr2, fun pos' cv hcv => ?_⟩ (Heap.get?_push_size _ rfl) ?_ (nofr _ hsz) upd_same
    · rw [show (ps ++ #[rawInt pos.line, rawInt pos.col, .ref c']).toList = ps.toList ++ [rawInt pos.line, rawInt pos.col, .ref c'] by simp] at hcv
      rcases among_app _ tr hcv with z | z
      · obtain ⟨c0, e1, e2⟩ := codes pos' cv z
        exact ⟨c0, e1, same c0 _ e2 fun w => by rw [w, hP] at e2; exact codeO_ne ps (Option.some.inj e2).symm⟩
      · exact ⟨c', z, upd_same⟩
    · have n1 : h'.objs.size ≠ c' := by omega
      have n2 : h'.objs.size ≠ P := fun z => Nat.lt_irrefl _ (Nat.lt_of_lt_of_le (z ▸ Heap.lt_size oP) hsz)
      rw [upd_ne n1, upd_ne n2]
      exact I.hok.fresh hsz
/-- x(e), in the def that got the lambda: Z is that def's context, entered at s -/
theorem pe_act1 {CXg : CXT} {Eg : XK} {Ng : List Str} {qg : Str} {sg : Scope} {g f c' : Addr} {cdg pm ctv : Value} {params : Arguments} {body : Expr} {scope : Scope} {k i : Nat} {a ap : Str} {pn : List (Addr × Obj)} {xe : Value → Shared → Prop} {W : WX} {E : XK} {tb : TE} {ta : TA} {e : Expr} {p1 p2 : Pos}
    (I : Inv X pins σ H s) (L : LamS1 X.env.scope scope ap) (nN : ap ∉ X.N) (hf : s.heap.get? f = some (PySem.W.kla_obj "<lambda>" (X.env.qual ++ "<lambda>") params body scope (cloFrom X.env.cells scope.names []) pm c' ctv)) (hfn : H f = none) (hfr : f ∉ frs X.stack)
    (hbind : ∀ u, bindArgs (PySem.W.kla_fn "<lambda>" (X.env.qual ++ "<lambda>") params body scope (cloFrom X.env.cells scope.names []) pm (.ref c') ctv) ⟨[u], []⟩ = pure [(ap, u)])
    (tk : Takes ((cxOf CXg X.prog X.w X.K X.mg X.base Ng qg sg g cdg X.A X.stack s H Eg).tr pn xe) W) (hW : ∀ cls d σ' H', E cls d H' → W cls d σ' H') (hr : Room (k + 1) (X.A.deeper (envOfC qg sg s.heap.objs.size g cdg)))
    (hbody : ∀ (A : Around) (outer : List Env) (s : Shared) (H : Hp), Room k (A.deeper (lamEnv X scope s.heap.objs.size f c')) → PE (lamCx1 X ap A outer s H E scope f c') body tb)
    (ha : PA ((cxOf CXg X.prog X.w X.K X.mg X.base Ng qg sg g cdg X.A X.stack s H Eg).tr pn xe) [e] ta)
    (hN : Ng[i]? = some a) (hv : Vis sg a) (hd : (a == ("__debug__" : Str)) = false := by decide) (hcd : (a == ("__classdict__" : Str)) = false := by decide)
    (he : starEach [e] (cxOf CXg X.prog X.w X.K X.mg X.base Ng qg sg g cdg X.A X.stack s H Eg).env = (false, eval e (cxOf CXg X.prog X.w X.K X.mg X.base Ng qg sg g cdg X.A X.stack s H Eg).env) :: starEach [] (cxOf CXg X.prog X.w X.K X.mg X.base Ng qg sg g cdg X.A X.stack s H Eg).env := by rfl) :
    PE ((cxOf CXg X.prog X.w X.K X.mg X.base Ng qg sg g cdg X.A X.stack s H Eg).tr pn xe) (.Call (.Name a p1) [e] [] p2)
      (fun σZ HZ Q => σZ[i]? = some (some (.ref f)) ∧ ta σZ HZ fun vs H1 => ∃ v, vs = [v] ∧ H1 c' = some (CodeO c' (X.env.qual ++ "<lambda>")) ∧ tb (σ ++ [some v]) H1 Q) := by
  refine ⟨fun pinsZ sZ σZ HZ Q IZ h => ?_⟩
  obtain ⟨hs, ht⟩ := h
  refine wpAny_Call_Name_kw (thn ((pe_var (pos := p1) (i := i) hN hv hd hcd).run pinsZ sZ σZ HZ (fun v H1 => v = .ref f ∧ H1 = HZ) IZ ⟨.ref f, hs, rfl, rfl⟩) fun u s1 ⟨v, H1, I1, r1, q1⟩ => ?_)
  obtain ⟨ev, eH⟩ := q1
  subst ev
  rw [eH] at I1
  obtain rfl : u = Value.ref f := r1
  have of1 : s1.heap.get? f = some (PySem.W.kla_obj "<lambda>" (X.env.qual ++ "<lambda>") params body scope (cloFrom X.env.cells scope.names []) pm c' ctv) := I1.base.keep f _ hf hfn hfr (fun z => nomatch (show f ∈ ([] : List Addr) from z))
  refine PySem.W.callWith_F ⟨_, _, _, _, of1⟩ (thn (ha.run p2 pinsZ s1 σZ HZ _ I1 ht) fun us s2 ⟨vs, H2, I2, r2, v, ev, hc, hq⟩ => ?_) he rfl
  subst ev
  obtain ⟨u2, rfl, rv⟩ : ∃ u2, us = [u2] ∧ RelV v u2 := by
    cases r2 with
    | cons rv rn =>
      cases rn
      exact ⟨_, rfl, rv⟩
  have of2 : s2.heap.get? f = some (PySem.W.kla_obj "<lambda>" (X.env.qual ++ "<lambda>") params body scope (cloFrom X.env.cells scope.names []) pm c' ctv) := I2.base.keep f _ hf hfn hfr (fun z => nomatch (show f ∈ ([] : List Addr) from z))
  refine ⟨⟨_, _, _, _, of2⟩, ?_⟩
  have un : Un (frs X.stack) [] H H2 s.heap s2.heap := I2.base
  obtain ⟨⟨oc, cs, t, hoc, hdc, hvc⟩, _, _⟩ := I2.hok c' _ hc
  have rc : codeAny (model X.prog X.w) (X.A.deeper (envOfC qg sg s.heap.objs.size g cdg)) (.call (.ref f) ⟨[u2], []⟩) (CR (L2.CX X.prog X.w) (envOfC qg sg s.heap.objs.size g cdg :: X.stack) X.prog X.w H2 s2 Q E) s2 := by
    refine PySem.W.kla_callFunE hr.depth of2 rfl L.co L.gen rfl ⟨c', oc, cs, t, rfl, hoc, hdc, hvc⟩ ?_
    rw [hbind]
    refine wpAny_pure (wpAny_newFunctionEnv (fun y hy => (L.own y hy).2) (fun y hy => by rw [List.mem_singleton.mp hy]; exact L.par) (fun h₁ hns hsb => ⟨I2.nolimit.fresh _ hsb, ?_⟩) L.kind)
    show codeAny _ _ (.expr body (lamEnv X scope s2.heap.objs.size f c')) _ _
    have kp : ∀ b o, s2.heap.get? b = some o → h₁.get? b = some o := fun b o e => hsb.extBut b o (Nat.ne_of_lt (Heap.lt_size e)) (Heap.get?_push_of_some _ e)
    have J : Inv (lamCx1 X ap (X.A.deeper (envOfC qg sg s.heap.objs.size g cdg)) (envOfC qg sg s.heap.objs.size g cdg :: X.stack) s2 H2 E scope f c') [] (σ ++ [some v]) H2 { s2 with heap := h₁, toks := s2.toks + ([(ap, u2)] : List (Str × Value)).length } :=
      lam_start1 I L nN rv I2.env0 hr.hd un hns kp
    refine PySem.W.kla_codeExpr (wpAny_mono ((hbody _ _ s2 H2 (hr.deeper _)).run [] _ _ H2 Q J hq) (fun v s' hq => ?_) fun e s' hq => hq)
    obtain ⟨w', H', J', rv, q⟩ := hq
    exact ⟨w', H', J'.os, J'.bare, J'.base, J'.hok, rv, q⟩
  have hx : Passes (L2.CX X.prog X.w) ((cxOf CXg X.prog X.w X.K X.mg X.base Ng qg sg g cdg X.A X.stack s H Eg).tr pn xe) E := passes_call tk hW
  refine wpAny_call (codeAny_mono rc fun r s' hq => ?_)
  cases r with
  | error e => exact hx pinsZ σZ H2 s2 e s' I2 hq
  | ok fl =>
    cases fl with
    | ret u => exact I2.after hq
    | next => exact False.elim hq
    | brk => exact False.elim hq
    | cont => exact False.elim hq
/-- a def of three arguments that gets the lambda as the last one and calls it; TT: what it makes of the lambda's reading -/
def Gives1 (P : Program) (w : World) (K : PySem.W.Frag) (mg : Str → Option Value) (base : Heap) (CXg : CXT) (k : Nat) (Ng : List Str) (x : Str) (sg : Scope) (g : Addr) (bg : List Stmt) (a : Str) (cdv : Value) (TT : V → V → Addr → Addr → Str → (V → Hp → VK → Prop) → Hp → VK → XK → Prop) : Prop :=
  ∀ (A : Around) (outer : List Env) (s : Shared) (H : Hp) (E : XK) (f c' : Addr) (q : Str) (v1 v2 : V) (tl : V → Hp → VK → Prop) (Q : VK), Room k (A.deeper (envOfC x sg s.heap.objs.size g cdv)) →
    (∀ (e : Expr) (ta : TA) (p1 p2 : Pos), PA (cxOf CXg P w K mg base Ng x sg g cdv A outer s H E) [e] ta →
      starEach [e] (cxOf CXg P w K mg base Ng x sg g cdv A outer s H E).env = (false, eval e (cxOf CXg P w K mg base Ng x sg g cdv A outer s H E).env) :: starEach [] (cxOf CXg P w K mg base Ng x sg g cdv A outer s H E).env →
      PE (cxOf CXg P w K mg base Ng x sg g cdv A outer s H E) (.Call (.Name a p1) [e] [] p2) (fun σZ HZ Q => σZ[2]? = some (some (.ref f)) ∧ ta σZ HZ fun vs H1 => ∃ v, vs = [v] ∧ H1 c' = some (CodeO c' q) ∧ tl v H1 Q)) →
    H c' = some (CodeO c' q) → TT v1 v2 f c' q tl H Q E →
    ∃ t, PSs (cxOf CXg P w K mg base Ng x sg g cdv A outer s H E) bg t ∧ t { nx := fun _ H' => Q .non H', rt := Q } (L2.start Ng [v1, v2, .ref f]) H
/-- x(e1, e2, lambda ap: body) -/
def tLam3 (P : Addr) (q : Str) (TT : V → V → Addr → Addr → Str → (V → Hp → VK → Prop) → Hp → VK → XK → Prop) (E : XK) (t1 t2 t : TE) : TE := fun σ H Q => t1 σ H fun v1 H1 => t2 σ H1 fun v2 H2 => TabS H2 P q ∧
  ∀ (f c' : Addr) (H3 : Hp), LamUp H2 H3 P c' q → TabS H3 P q → H3 c' = some (CodeO c' q) → H3 f = none → TT v1 v2 f c' q (fun v H' Q' => t (σ ++ [some v]) H' Q') H3 Q E
theorem pe_lam3 {TT : V → V → Addr → Addr → Str → (V → Hp → VK → Prop) → Hp → VK → XK → Prop} {CXg : CXT} {x a ap : Str} {g c P : Addr} {k : Nat} {pg : Arguments} {bg : List Stmt} {sg : Scope} {dV kV doc pm cdv ct oc : Value} {an od : Option Addr} {osl : Array (Option Value)} {Ng ps : List Str}
    {params : Arguments} {e1 e2 body : Expr} {scope : Scope} {t1 t2 t : TE} {E : XK} {p lpos pos : Pos} (hg : Gl X x) (hm : X.mg x = some (.ref g)) (hk : PySem.W.keepIn X.K (.ref g) = true)
    (lk : X.K.lookup g = some ⟨oc, od, .func (PySem.W.fnOf x x pg bg sg dV kV doc pm an cdv ct), osl⟩) (hcg : PySem.W.codeIn X.K cdv x = true) (hb : L2.Binds X.K (PySem.W.fnOf x x pg bg sg dV kV doc pm an cdv ct) ps []) (Sg : FnScope Ng ps sg) (hl : ps.length = 3) (hNg : Ng[2]? = some a) (hva : Vis sg a)
    (hG : Gives1 X.prog X.w X.K X.mg X.base CXg (k + 1) Ng x sg g bg a cdv TT) (TB : TabB X.base X.mg c P) (hcode : X.env.code = .ref c) (hr : Room (k + 2) X.A) (L : LamS1 X.env.scope scope ap) (nN : ap ∉ X.N) (hdef : defaultsOf params X.env = ([], []))
    (hbind : ∀ (q : Str) (cl : List (Str × Addr)) (pm cv ctv u : Value), bindArgs (PySem.W.kla_fn "<lambda>" q params body scope cl pm cv ctv) ⟨[u], []⟩ = pure [(ap, u)])
    (hbody : ∀ (A : Around) (outer : List Env) (s : Shared) (H : Hp) (f c' : Addr), Room k (A.deeper (lamEnv X scope s.heap.objs.size f c')) → PE (lamCx1 X ap A outer s H (fun _ _ _ => False) scope f c') body t)
    (hx : Passes CXg X E) (h1 : PE X e1 t1) (h2 : PE X e2 t2)
    (he1 : starEach [e1, e2, .Lambda params body scope lpos] X.env = (false, eval e1 X.env) :: starEach [e2, .Lambda params body scope lpos] X.env := by rfl) (he2 : starEach [e2, .Lambda params body scope lpos] X.env = (false, eval e2 X.env) :: starEach [.Lambda params body scope lpos] X.env := by rfl)
    (hpl : (backTo pos (starEach [e2, .Lambda params body scope lpos] X.env)).any (·.1) = false := by rfl)
    (hdb : (x == ("__debug__" : Str)) = false := by decide) (hd : (a == ("__debug__" : Str)) = false := by decide) (hcd : (a == ("__classdict__" : Str)) = false := by decide) :
    PE X (.Call (.Name x p) [e1, e2, .Lambda params body scope lpos] [] pos) (tLam3 P (X.env.qual ++ "<lambda>") TT E t1 t2 t) := by
  refine ⟨fun pins s σ H Q I h => ?_⟩
  refine wpAny_Call_Name_kw (ld_glob I hg hm ?_ hdb)
  refine PySem.W.callWith_K (h₀ := X.base) I.ok.mod.kin hk ?_ he1 hpl
  rw [he1]
  show wpAny _ _ (spliced ((false, eval e1 X.env) :: backTo pos (starEach [e2, .Lambda params body scope lpos] X.env))) _ _ s
  refine Calls.spliced_cons (thn (h1.run pins s σ H _ I h) fun u1 s1 ⟨v1, H1, I1, r1, q1⟩ => ?_)
  rw [he2]
  show wpAny _ _ (spliced ((false, eval e2 X.env) :: backTo pos (starEach [.Lambda params body scope lpos] X.env))) _ _ s1
  refine Calls.spliced_cons (thn (h2.run pins s1 σ H1 _ I1 q1) fun u2 s2 ⟨v2, H2, I2, r2, ht, hq⟩ => ?_)
  show wpAny _ _ (spliced ((false, eval (.Lambda params body scope lpos) X.env) :: backTo pos (starEach [] X.env))) _ _ s2
  refine Calls.spliced_cons (lam_make3 I2 TB hcode ht hdef (L.has I2.ok) fun f c' pm' ctv H3 s3 I3 up T3 hf hfn hfr hco => ?_)
  refine Calls.spliced_nil ⟨I3.kIn, ?_⟩
  have rc : codeAny (model X.prog X.w) X.A (.call (.ref g) ⟨[u1, u2, .ref f], []⟩) (CR CXg X.stack X.prog X.w H3 s3 Q E) s3 := by
    refine run_ofS (N := Ng) (ps := ps) (us := [u1, u2, .ref f]) (vs := [v1, v2, .ref f]) lk hcg Sg hr I3.env0 (hb s3 [u1, u2, .ref f] I3.kIn hl.symm) (.cons r1 (.cons r2 (.cons rfl .nil))) hl.symm fun hr' => ?_
    exact hG X.A X.stack s3 H3 E f c' _ v1 v2 _ Q hr' (fun e ta p1 p2 pa he => pe_act1 (i := 2) (pn := []) (xe := (cxOf CXg X.prog X.w X.K X.mg X.base Ng x sg g cdv X.A X.stack s3 H3 E).xe) (CXg := CXg) (Eg := E) (W := fun _ _ _ _ => False) (E := fun _ _ _ => False) I3 L nN hf hfn hfr (hbind _ _ _ _ _) L2.takes0 (fun _ _ _ _ z => z) hr' (fun A outer s H hr2 => hbody A outer s H f c' hr2) pa hNg hva hd hcd he) hco (hq f c' H3 up T3 hco hfn)
  refine wpAny_call (codeAny_mono rc fun r s4 hq => ?_)
  cases r with
  | error e => exact hx pins σ H3 s3 e s4 I3 hq
  | ok fl =>
    cases fl with
    | ret u => exact I3.after hq
    | next => exact False.elim hq
    | brk => exact False.elim hq
    | cont => exact False.elim hq
end
end DW
/-! by data: a lambda of one argument handed to a def as its third argument -/
namespace DW
open PySem PySem.Spec PyProof.Rows L2
open LamX (TabS CodeO codeO_ne)
variable [LamTabs]
theorem tabS_of {H : Hp} {P : Addr} {q : Str} (t : TabQ H P) (h : LamTabs.q P = some q) : TabS H P q := by
  obtain ⟨⟨ps, e, r⟩, k⟩ := t
  exact ⟨ps, e, r, k q h ps e⟩
theorem tabQ_of {H : Hp} {P : Addr} {q : Str} (t : TabS H P q) (h : LamTabs.q P = some q) : TabQ H P := by
  obtain ⟨ps, e, r, k⟩ := t
  refine ⟨⟨ps, e, r⟩, fun q' h' ps' e' => ?_⟩
  rw [h] at h'; cases h'
  rw [e] at e'; cases e'
  exact k
theorem stp_lam {F H H1 : Hp} {P c' : Addr} {q : Str} (sb : Sub F H) (hq : LamTabs.q P = some q) (up : LamUp H H1 P c' q) (T1 : TabS H1 P q) : Stp F H F H1 := by
  rcases up with rfl | ⟨ps, more, hP, tr, hc, rfl⟩
  · exact Stp.refl sb
  · have old : ∀ a o, H a = some o → (∀ ps, o ≠ .tbl ps) → upd (upd H P (.tbl (ps ++ more))) c' (CodeO c' q) a = some o := fun a o e n => by
      rw [upd_ne (ne_of_none e hc), upd_ne (fun z => by rw [z, hP] at e; cases e; exact n _ rfl)]; exact e
    refine ⟨Ex.refl F, ⟨fun a o e n => old a o (sb.ex a o e n) n, sb.nt⟩, old, fun a o e => ?_, fun Q t => ?_, fun _ _ _ n => n⟩
    · by_cases ha : a = P
      · exact ⟨.tbl (ps ++ more), by rw [upd_ne (ne_of_none e hc), ha, upd_same]⟩
      · exact ⟨o, by rw [upd_ne (ne_of_none e hc), upd_ne ha]; exact e⟩
    · by_cases ha : Q = P
      · rw [ha]; exact tabQ_of T1 hq
      · exact t.at_ (fun ps e => by rw [upd_ne (ne_of_none e hc), upd_ne ha]; exact e) fun c q e => old c _ e codeO_ne
theorem holds_app {g : Gd} {G : List Sl} {σ : L2.St} {F H : Hp} {v : V} {d : PyData} (hh : Holds g G σ F H) (hd : Dp g.K F v d) : Holds g (G ++ [.fz d]) (σ ++ [some v]) F H := by
  have get : ∀ (j : Nat) (s : Sl) (o : Option V), (G ++ [.fz d])[j]? = some s → (σ ++ [some v])[j]? = some o → (G[j]? = some s ∧ σ[j]? = some o) ∨ (s = .fz d ∧ o = some v) := fun j s o e1 e2 => by
    by_cases hj : j < G.length
    · rw [List.getElem?_append_left hj] at e1
      rw [List.getElem?_append_left (by rw [hh.len]; exact hj)] at e2
      exact .inl ⟨e1, e2⟩
    · rw [List.getElem?_append_right (by omega)] at e1
      rw [List.getElem?_append_right (by rw [hh.len]; omega), hh.len] at e2
      have h0 : j - G.length = 0 := by
        have := (List.getElem?_eq_some_iff.mp e1).1
        simp only [List.length_cons, List.length_nil] at this
        omega
      rw [h0] at e1 e2
      cases e1; cases e2
      exact .inr ⟨rfl, rfl⟩
  have gat : ∀ (j : Nat) (s : Sl), (G ++ [.fz d])[j]? = some s → s.mine = true → G[j]? = some s := fun j s e m => by
    by_cases hj : j < G.length
    · rw [List.getElem?_append_left hj] at e; exact e
    · rw [List.getElem?_append_right (by omega)] at e
      have h0 : j - G.length = 0 := by
        have := (List.getElem?_eq_some_iff.mp e).1
        simp only [List.length_cons, List.length_nil] at this
        omega
      rw [h0] at e
      cases e; cases m
  refine ⟨by rw [List.length_append, List.length_append, hh.len]; rfl, hh.st, fun j s o e1 e2 => ?_, fun j k s t p e1 e2 m1 m2 e3 e4 => ?_, hh.tab, hh.lo⟩
  · rcases get j s o e1 e2 with ⟨h1, h2⟩ | ⟨rfl, rfl⟩
    · exact hh.sl j s o h1 h2
    · exact ⟨v, rfl, hd⟩
  · have g1 := gat j s e1 m1
    have g2 := gat k t e2 m2
    rw [List.getElem?_append_left (by rw [hh.len]; exact (List.getElem?_eq_some_iff.mp g1).1)] at e3
    rw [List.getElem?_append_left (by rw [hh.len]; exact (List.getElem?_eq_some_iff.mp g2).1)] at e4
    exact hh.apart j k s t p g1 g2 m1 m2 e3 e4
/-- the lambda's reading tl gives p d for each d of S -/
def LamE (g : Gd) (S : PyData → Prop) (p : PyData → Bool) (tl : V → Hp → VK → Prop) : Prop := ∀ d, S d → ∀ (v : V) (F' H' : Hp) (Q' : VK), Stp g.F0 g.H0 F' H' → Dp g.K F' v d → (∀ F'' H'', Stp F' H' F'' H'' → Q' (.bl (p d)) H'') → tl v H' Q'
/-- x(e) of the slot that holds the lambda -/
def tAct (f c' : Addr) (q : Str) (tl : V → Hp → VK → Prop) (ta : TA) : TE := fun σZ HZ Q => σZ[2]? = some (some (.ref f)) ∧ ta σZ HZ fun vs H1 => ∃ v, vs = [v] ∧ H1 c' = some (CodeO c' q) ∧ tl v H1 Q
theorem e_act {g : Gd} {G : List Sl} {ta : TA} {f c' : Addr} {q : Str} {S : PyData → Prop} {p : PyData → Bool} {tl : V → Hp → VK → Prop} {d : PyData} (h : G[2]? = some (.raw (.ref f))) (hc : g.H0 c' = some (CodeO c' q)) (lam : LamE g S p tl) (ha : A g ta G [d]) (hd : S d) : E g (tAct f c' q tl ta) G (.bool (p d)) := fun σ F H hh Q k => by
  obtain ⟨o, eo, ok⟩ := hh.at_ h
  obtain rfl : o = some (.ref f) := ok
  refine ⟨eo, ha σ F H hh _ fun vs F1 H1 s1 d1 => ?_⟩
  cases d1 with
  | cons dv rest =>
    cases rest
    exact ⟨_, rfl, (hh.st.trans s1).h c' _ hc codeO_ne, lam d hd _ F1 H1 Q (hh.st.trans s1) dv fun F2 H2 s2 => k _ F2 H2 (s1.trans s2) (.bl _)⟩
/-- what the def promises of its two data and the lambda's reading -/
def ttL (K : PySem.W.Frag) (Tb : List Addr) (R : PyData → PyData → (PyData → Prop) → (PyData → Bool) → Out → Prop) : V → V → Addr → Addr → Str → (V → Hp → VK → Prop) → Hp → VK → XK → Prop :=
  fun v1 v2 f c' q tl H Q Ek => ∃ F d1 d2 S p o, Sub F H ∧ (∀ P ∈ Tb, TabQ H P) ∧ Dp K F v1 d1 ∧ Dp K F v2 d2 ∧ R d1 d2 S p o ∧ LamE ⟨K, Tb, F, H, F⟩ S p tl ∧ OutOk ⟨K, Tb, F, H, F⟩ Q Ek o
section
variable {P : Program} {w : World} {K : PySem.W.Frag} {mg : Str → Option Value} {base : Heap} {x a : Str} {sg : Scope} {g : Addr} {bg : List Stmt} {Nn : List Str} {k : Nat} {Tb : List Addr} {cdv : Value} {R : PyData → PyData → (PyData → Prop) → (PyData → Bool) → Out → Prop}
/-- the def is given by the walk of its body -/
theorem gives_L (body : ∀ (A : Around) (outer : List Env) (s : Shared) (H : Hp) (E : XK) (f c' : Addr) (q : Str) (tl : V → Hp → VK → Prop), Room k (A.deeper (envOfC x sg s.heap.objs.size g cdv)) →
      (∀ (e : Expr) (ta : TA) (p1 p2 : Pos), PA (cxOf (L2.CX P w) P w K mg base Nn x sg g cdv A outer s H E) [e] ta →
        starEach [e] (cxOf (L2.CX P w) P w K mg base Nn x sg g cdv A outer s H E).env = (false, eval e (cxOf (L2.CX P w) P w K mg base Nn x sg g cdv A outer s H E).env) :: starEach [] (cxOf (L2.CX P w) P w K mg base Nn x sg g cdv A outer s H E).env →
        PE (cxOf (L2.CX P w) P w K mg base Nn x sg g cdv A outer s H E) (.Call (.Name a p1) [e] [] p2) (tAct f c' q tl ta)) →
      ∃ t, PSs (cxOf (L2.CX P w) P w K mg base Nn x sg g cdv A outer s H E) bg t ∧ ∀ d1 d2 (Sd : PyData → Prop) p o F0 H0 Q, H0 c' = some (CodeO c' q) → R d1 d2 Sd p o → LamE ⟨K, Tb, F0, H0, F0⟩ Sd p tl → OutOk ⟨K, Tb, F0, H0, F0⟩ Q E o →
        S ⟨K, Tb, F0, H0, F0⟩ t { nx := fun _ H' => Q .non H', rt := Q } (startS Nn.length [.fz d1, .fz d2, .raw (.ref f)])) :
    Gives1 P w K mg base (L2.CX P w) k Nn x sg g bg a cdv (ttL K Tb R) := by
  intro A outer s H E f c' q v1 v2 tl Q hr act hc tt
  obtain ⟨F, d1, d2, Sd, p, o, sb, ht, h1, h2, r, lam, out⟩ := tt
  obtain ⟨t, b1, b2⟩ := body A outer s H E f c' q tl hr act
  refine ⟨t, b1, b2 d1 d2 Sd p o F H Q hc r lam out _ F H (holds_startS sb ht ?_)⟩
  exact .fz h1 (.fz h2 (.raw .nil))
end
section
variable {g : Gd} {G : List Sl} {t1 t2 t : TE} {P : Addr} {q : Str} {d1 d2 d : PyData} {S : PyData → Prop} {p : PyData → Bool} {R : PyData → PyData → (PyData → Prop) → (PyData → Bool) → Out → Prop} {Ek : XK} {C : Addr} {fs : List (Str × PyData)}
theorem lam_run (h1 : E g t1 G d1) (h2 : E g t2 G d2) (hP : P ∈ g.T) (hq : LamTabs.q P = some q) {o : Out} (r : R d1 d2 S p o) (body : ∀ d, S d → E g t (G ++ [.fz d]) (.bool (p d))) {σ : L2.St} {F H : Hp} (hh : Holds g G σ F H) {Q : VK}
    (out : ∀ F2 H2, Stp F H F2 H2 → OutOk ⟨g.K, g.T, F2, H2, F2⟩ Q Ek o) : tLam3 P q (ttL g.K g.T R) Ek t1 t2 t σ H Q := by
  refine h1 σ F H hh _ fun v1 F1 H1 s1 x1 => h2 σ F1 H1 (hh.mono s1) _ fun v2 F2 H2 s2 x2 => ⟨tabS_of ((hh.mono (s1.trans s2)).tab P hP) hq, fun f c' H3 up T3 hc hf => ?_⟩
  have s3 : Stp F2 H2 F2 H3 := stp_lam s2.i hq up T3
  have hh3 := hh.mono ((s1.trans s2).trans s3)
  refine ⟨F2, d1, d2, S, p, o, s3.i, hh3.tab, s2.f.dp _ v1 x1, x2, r, fun d hd v F' H' Q' s4 dv k => ?_, out F2 H3 ((s1.trans s2).trans s3)⟩
  have s4 : Stp F2 H3 F' H' := s4
  exact body d hd _ F' H' (holds_app (hh3.mono s4) dv) Q' fun u F'' H'' s5 du => by cases du; exact k F'' H'' s5
/-- x(e1, e2, lambda ..) gives d -/
theorem e_lam3 (h1 : E g t1 G d1) (h2 : E g t2 G d2) (hP : P ∈ g.T) (hq : LamTabs.q P = some q) (r : R d1 d2 S p (.val d)) (body : ∀ d, S d → E g t (G ++ [.fz d]) (.bool (p d))) : E g (tLam3 P q (ttL g.K g.T R) Ek t1 t2 t) G d := fun σ F H hh Q k =>
  lam_run h1 h2 hP hq r body hh fun F2 H2 s v F3 H3 s3 d3 => k v F3 H3 (s.trans s3) d3
/-- x(e1, e2, lambda ..) raises -/
theorem nor_lam3 (h1 : E g t1 G d1) (h2 : E g t2 G d2) (hP : P ∈ g.T) (hq : LamTabs.q P = some q) (r : R d1 d2 S p (.exc C fs)) (body : ∀ d, S d → E g t (G ++ [.fz d]) (.bool (p d))) (k : XtOk g Ek C fs) : NoRet g (tLam3 P q (ttL g.K g.T R) Ek t1 t2 t) G := fun σ F H hh Q =>
  lam_run h1 h2 hP hq r body hh fun F2 H2 s dx ws F3 H3 s3 h0 hF hH hf => k dx ws F3 H3 ((hh.mono s).st.trans s3) (old_free (hh.mono s).st h0) hF hH hf
end
/-- a def at hand that takes a lambda as its third argument -/
structure DfL (P : Program) (w : World) (K : PySem.W.Frag) (mg : Str → Option Value) (base : Heap) (Tb : List Addr) (k : Nat) (x : Str) (R : PyData → PyData → (PyData → Prop) → (PyData → Bool) → Out → Prop) : Prop where
  ex : ∃ (st : Stmt) (g : Addr) (fd : FuncData) (Nn ps : List Str) (a : Str), Fun K x x st g fd ∧ mg x = some (.ref g) ∧ L2.Binds K fd ps [] ∧ FnScope Nn ps (defScope st) ∧ ps.length = 3 ∧ Nn[2]? = some a ∧ Vis (defScope st) a ∧ (a == ("__debug__" : Str)) = false ∧ (a == ("__classdict__" : Str)) = false ∧
    ∀ cdv, Gives1 P w K mg base (L2.CX P w) k Nn x (defScope st) g (defBody st) a cdv (ttL K Tb R)
theorem pe_lamD {X : Cx} {Tb : List Addr} {x ap : Str} {c P : Addr} {k m : Nat} {R : PyData → PyData → (PyData → Prop) → (PyData → Bool) → Out → Prop} {params : Arguments} {e1 e2 body : Expr} {scope : Scope} {t1 t2 t : TE} {E : XK} {p lpos pos : Pos}
    (D : DfL X.prog X.w X.K X.mg X.base Tb (k + 1) x R) (hg : Gl X x) (TB : LamX.TabB X.base X.mg c P) (hcode : X.env.code = .ref c) (hr : Room m X.A) (hm : k + 2 ≤ m) (L : LamS1 X.env.scope scope ap) (nN : ap ∉ X.N) (hdef : defaultsOf params X.env = ([], []))
    (hbind : ∀ (q : Str) (cl : List (Str × Addr)) (pm cv ctv u : Value), bindArgs (PySem.W.kla_fn "<lambda>" q params body scope cl pm cv ctv) ⟨[u], []⟩ = pure [(ap, u)])
    (hbody : ∀ (A : Around) (outer : List Env) (s : Shared) (H : Hp) (f c' : Addr), Room k (A.deeper (LamX.lamEnv X scope s.heap.objs.size f c')) → PE (lamCx1 X ap A outer s H (fun _ _ _ => False) scope f c') body t)
    (hx : Passes (L2.CX X.prog X.w) X E) (h1 : PE X e1 t1) (h2 : PE X e2 t2) (hdb : (x == ("__debug__" : Str)) = false := by decide)
    (he1 : starEach [e1, e2, .Lambda params body scope lpos] X.env = (false, eval e1 X.env) :: starEach [e2, .Lambda params body scope lpos] X.env := by rfl) (he2 : starEach [e2, .Lambda params body scope lpos] X.env = (false, eval e2 X.env) :: starEach [.Lambda params body scope lpos] X.env := by rfl)
    (hpl : (backTo pos (starEach [e2, .Lambda params body scope lpos] X.env)).any (·.1) = false := by rfl) :
    PE X (.Call (.Name x p) [e1, e2, .Lambda params body scope lpos] [] pos) (tLam3 P (X.env.qual ++ "<lambda>") (ttL X.K Tb R) E t1 t2 t) := by
  obtain ⟨st, g, fd, Nn, ps, a, F, hmx, hb, Sg, hl, hN, hv, d1, d2, G⟩ := D.ex
  obtain ⟨oc, od, kV, doc, pm, an, cdv, ct, osl, rfl, lk, hcd⟩ := F.ex
  exact pe_lam3 hg hmx F.kp lk hcd hb Sg hl hN hv (G cdv) TB hcode (hr.mono hm) L nN hdef hbind hbody hx h1 h2 he1 he2 hpl hdb d1 d2
section
variable {P : Program} {w : World} {K : PySem.W.Frag} {mg : Str → Option Value} {base : Heap} {x qual : Str} {st : Stmt} {f c Pt : Addr} {fd : FuncData} {Nn ps : List Str} {k : Nat} {Tb : List Addr}
/-- a def that makes lambdas (its code object is known), takes slots and may raise -/
theorem df_SXT (F : Fun K x qual st f fd) (hns : PySem.W.nsIn K mainGlobals x = some (some (.ref f))) (ht : PySem.W.tabIn K x = some (c, Pt)) (Sc : FnScope Nn ps (defScope st)) (hm : mg x = some (.ref f)) (hb : L2.Binds K fd ps []) {R : Hp → List Sl → Out → Prop} (hlen : ∀ F Gs o, R F Gs o → Gs.length = ps.length)
    (body : ∀ (A : Around) (outer : List Env) (s : Shared) (H : Hp) (E : XK), Room k (A.deeper (envOfC qual (defScope st) s.heap.objs.size f (.ref c))) →
      ∃ t, PSs (cxOf (L2.CX P w) P w K mg base Nn qual (defScope st) f (.ref c) A outer s H E) (defBody st) t ∧ ∀ (Gs : List Sl) (o : Out) (F0 H0 : Hp) (Q : VK), R F0 Gs o → OutOk ⟨K, Tb, F0, H0, F0⟩ Q E o → S ⟨K, Tb, F0, H0, F0⟩ t { nx := fun _ H' => Q .non H', rt := Q } (startS Nn.length Gs)) :
    DfX P w K mg base (k + 1) x ps (spSX K Tb R) := by
  have hc := code_of F hns ht
  refine ⟨f, fd, ?_, hm, F.kp, hb⟩
  obtain ⟨oc, od, kV, doc, pm, an, cdv, ct, osl, rfl, lk, hcd⟩ := F.ex
  have hc' : cdv = .ref c := hc
  subst hc'
  refine fn_of lk hcd Sc (fun vs H Q E h => ?_) fun A outer s H vs Q E hr h => ?_
  · obtain ⟨F, Gs, o, _, _, hd, r, _⟩ := h
    exact hd.len.trans (hlen F Gs o r)
  · obtain ⟨F1, Gs, o, sb, ht, hd, r, q⟩ := h
    obtain ⟨t, h1, h2⟩ := body A outer s H E hr
    exact ⟨t, h1, h2 Gs o F1 H Q r q _ F1 H (holds_startS sb ht hd)⟩
end
end DW
/-! comparisons with three signs -/
namespace DW
open PySem PySem.Spec PyProof.Rows L2
variable [LamTabs]
section
variable {X : Cx} {a b c d : Expr} {ta tb tc td : TE} {pos : Pos}
/-- a op1 b op2 c op3 d -/
def tChain3 (r r' r'' : R2) (ta tb tc td : TE) : TE := fun σ H Q => ta σ H fun x H1 => tb σ H1 fun y H2 => r x y H2 fun z H3 => ∃ k, z = .bl k ∧
  (if k = true then tc σ H3 fun w' H4 => r' y w' H4 fun z' H5 => ∃ k', z' = .bl k' ∧ (if k' = true then td σ H5 fun t H6 => r'' w' t H6 Q else Q (.bl false) H5) else Q (.bl false) H3)
theorem pe_chain3 {op op' op'' : CmpOp} {r r' r'' : R2} (ho : OpR X (compareOp op) r) (ho' : OpR X (compareOp op') r') (ho'' : OpR X (compareOp op'') r'') (ha : PE X a ta) (hb : PE X b tb) (hc : PE X c tc) (hd : PE X d td)
    (hm : lastMarks [op, op', op''] [b, c, d] = false := by with_unfolding_all rfl) : PE X (.Compare a [op, op', op''] [b, c, d] pos) (tChain3 r r' r'' ta tb tc td) := by
  refine ⟨fun pins s σ H Q I h => ?_⟩
  refine Compare_chain (thn (ha.run pins s σ H _ I h) fun v s1 ⟨x, H1, I1, r1, q1⟩ => chain_link (thn (hb.run pins s1 σ H1 _ I1 q1) fun u s2 ⟨y, H2, I2, r2, q2⟩ =>
    thn (ho pins s2 σ H2 x y v u _ I2 r1 r2 q2) fun _ s3 ⟨z, H3, I3, r3, k, e, q3⟩ => ?_)) hm
  subst e
  cases r3
  refine wpAny_truthy_bool ?_
  cases k with
  | false => exact ite_ff ⟨.bl false, H3, I3, rfl, q3⟩
  | true =>
    refine ite_tt (chain_link (thn (hc.run pins s3 σ H3 _ I3 q3) fun w' s4 ⟨z', H4, I4, r4, q4⟩ => thn (ho' pins s4 σ H4 y z' u w' _ I4 r2 r4 q4) fun _ s5 ⟨z2, H5, I5, r5, k', e', q5⟩ => ?_))
    subst e'
    cases r5
    refine wpAny_truthy_bool ?_
    cases k' with
    | false => exact ite_ff ⟨.bl false, H5, I5, rfl, q5⟩
    | true => exact ite_tt (chain_last (thn (hd.run pins s5 σ H5 _ I5 q5) fun t s6 ⟨z3, H6, I6, r6, q6⟩ => ho'' pins s6 σ H6 z' z3 w' t Q I6 r4 r6 q6))
end
section
variable {g : Gd} {G : List Sl} {ta tb tc td : TE} {x y z t : PyData}
theorem e_chain3 {r r' r'' : R2} {a b c : Bool} (ha : B g ta G x) (hb : B g tb G y) (hc : a = true → B g tc G z) (hd : a = true → b = true → B g td G t) (h1 : RB g r x y (.bool a)) (h2 : a = true → RB g r' y z (.bool b)) (h3 : a = true → b = true → RB g r'' z t (.bool c)) :
    E g (tChain3 r r' r'' ta tb tc td) G (.bool (a && (b && c))) := fun σ F H hh Q q => ha σ F H hh _ fun v F1 H1 s1 d1 => hb σ F1 H1 (hh.mono s1) _ fun u F2 H2 s2 d2 => by
  refine h1 v u H2 (s2.h.dp x v d1) d2 _ fun w dw => ?_
  cases dw
  refine ⟨a, rfl, ?_⟩
  cases a with
  | false => exact q _ F2 H2 (s1.trans s2) (.bl false)
  | true =>
    refine hc rfl σ F2 H2 ((hh.mono s1).mono s2) _ fun u3 F3 H3 s3 d3 => h2 rfl u u3 H3 (s3.h.dp y u d2) d3 _ fun w' dw' => ?_
    cases dw'
    refine ⟨b, rfl, ?_⟩
    cases b with
    | false => exact q _ F3 H3 ((s1.trans s2).trans s3) (.bl false)
    | true =>
      refine hd rfl rfl σ F3 H3 (((hh.mono s1).mono s2).mono s3) _ fun u4 F4 H4 s4 d4 => h3 rfl rfl u3 u4 H4 (s4.h.dp z u3 d3) d4 Q fun w2 dw2 => ?_
      cases dw2
      exact q _ F4 H4 (((s1.trans s2).trans s3).trans s4) (.bl _)
end
end DW
/-! objects that stood there at the def's entry: their facts hold in each loop and each comprehension; loops that know that the kept heap has grown -/
namespace DW
open PySem PySem.Spec PyProof.Rows L2
variable [LamTabs]
section
variable {g : Gd} {G Gs : List Sl} {te : TE} {ta : TA} {tw : TS} {d : PyData} {es : List PyData} {i : Nat} {D : Ends} {v : V} {a C : Addr} {fs : List (Str × PyData)} {n : Str}
theorem e_fld0 (hi : G[i]? = some (.raw (.ref a))) (ob : ObF g.K g.F0 a C fs) (hC : Cls g.K C) (hn : NoAttr g.K C n) (hl : fs.lookup n = some d) : E g (tFld g.K (tVar i) n) G d := fun σ F H hh Q q => by
  obtain ⟨o, eo, ok⟩ := hh.at_ hi
  obtain rfl : o = some (.ref a) := ok
  obtain ⟨dx, ws, h1, h2, h3⟩ := ob.mono hh.st.f
  have hH : H a = some (.ins C dx ws) := hh.st.i.ex a _ h1 fun _ z => by cases z
  obtain ⟨v, e1, e2⟩ := FsOk.get h3 hl
  exact ⟨.ref a, eo, a, C, dx, ws, v, rfl, hH, hC, hn, e1, q v F H (Stp.refl hh.st.i) e2⟩
theorem e_callS0 {R : Hp → List Sl → PyData → Prop} {Ek : XK} (h : AS g ta G Gs) (r : ∀ F, Ex g.F0 F → R F Gs d) : E g (tCall (spS g.K g.T R) [] Ek ta) G d := fun σ F H hh Q q => h σ F H hh _ fun vs F1 H1 s1 d1 => by
  rw [List.append_nil]
  exact ⟨F1, Gs, d, s1.i, (hh.mono s1).tab, d1, r F1 (hh.mono s1).st.f, fun v F2 H2 s2 d2 => q v F2 H2 (s1.trans s2) d2⟩
theorem el_callS0 {R : Hp → List Sl → List PyData → Prop} {Ek : XK} (h : AS g ta G Gs) (r : ∀ F, Ex g.F0 F → R F Gs es) : EL g (tCall (spSL g.K g.T R) [] Ek ta) G es := fun σ F H hh Q q => h σ F H hh _ fun vs F1 H1 s1 d1 => by
  rw [List.append_nil]
  exact ⟨F1, Gs, es, s1.i, (hh.mono s1).tab, d1, r F1 (hh.mono s1).st.f, fun p ws F2 H2 s2 h0 hF hH d2 => q p ws F2 H2 (s1.trans s2) (old_free s1 h0) hF hH d2⟩
end
section
variable {g : Gd} {G : List Sl} {ds : List PyData} {tg : TG} {tu tw : TS} {D : Ends}
theorem s_forE {α : Type} {wi : TI} (Iv : Nat → α → List Sl) (P : Nat → α → Prop) (it : IT g wi G ds) (a0 : α) (p0 : P 0 a0) (w0 : Wk G (Iv 0 a0))
    (turn : ∀ F1, Ex g.Fl F1 → ∀ (i : Nat) (a : α) (d : PyData), ds[i]? = some d → P i a → ∃ G1 ix, Tg { g with Fl := F1 } tg d (Iv i a) G1 ix ∧
      S { g with Fl := F1 } tu { D with nx := nxI { g with Fl := F1 } (Iv (i + 1)) (P (i + 1)), ct := nxI { g with Fl := F1 } (Iv (i + 1)) (P (i + 1)), bk := D.nx } G1)
    (done : ∀ a, P ds.length a → N g D.nx (Iv ds.length a)) : S g (tFor wi tg tu) D G := fun σ F H hh => it σ F H hh _ fun J F1 H1 s1 W => by
  have up : ∀ {G : List Sl} {σ : L2.St} {F H : Hp}, Ex g.Fl F1 → Holds { g with Fl := F1 } G σ F H → Holds g G σ F H := fun e h => ⟨h.len, h.st, h.sl, h.apart, h.tab, e.trans h.lo⟩
  have el : Ex g.Fl F1 := hh.lo.trans s1.f
  refine ⟨fun i m σ H => m = ds.length - i ∧ i ≤ ds.length ∧ nxI { g with Fl := F1 } (Iv i) (P i) σ H, ⟨ds.length, by simp, Nat.zero_le _, a0, p0, F1, ?_⟩, ?_⟩
  · have h1 := (hh.mono s1).wk w0
    exact ⟨h1.len, h1.st, h1.sl, h1.apart, h1.tab, Ex.refl F1⟩
  · rintro i m σ2 H2 ⟨rfl, hi, a, p, F2, hh2⟩
    by_cases hlt : i < ds.length
    · refine .inr ⟨W.go i F2 H2 hh2.lo hh2.st.i hlt, nxI { g with Fl := F1 } (Iv (i + 1)) (P (i + 1)), fun σ' H' q => ⟨ds.length - (i + 1), by omega, rfl, hlt, q⟩, fun x H' y => ?_⟩
      obtain ⟨F3, s3, d3⟩ := W.yld i F2 H2 x H' ds[i] hh2.lo hh2.st.i (List.getElem?_eq_getElem hlt) y
      obtain ⟨G1, ix, ht, hs⟩ := turn F1 el i a ds[i] (List.getElem?_eq_getElem hlt) p
      exact ht x σ2 F3 H' (hh2.mono s3) d3 _ fun σ' h' _ => hs σ' F3 H' h'
    · have e : i = ds.length := by omega
      subst e
      exact .inl ⟨W.stop F2 H2 hh2.lo hh2.st.i, done a p σ2 F2 H2 (up el hh2)⟩
theorem q_forE {α : Type} {wi : TI} (Iv : Nat → α → List Sl) (P : Nat → α → Prop) (it : IT g wi G ds) (a0 : α) (p0 : P 0 a0) (w0 : Wk G (Iv 0 a0))
    (turn : ∀ F1, Ex g.Fl F1 → ∀ (i : Nat) (a : α) (d : PyData), ds[i]? = some d → P i a → ∃ G1 ix, Tg { g with Fl := F1 } tg d (Iv i a) G1 ix ∧
      S { g with Fl := F1 } tu { nx := nxI { g with Fl := F1 } (Iv (i + 1)) (P (i + 1)), rt := D.rt, ct := nxI { g with Fl := F1 } (Iv (i + 1)) (P (i + 1)), bk := tw D } G1)
    (done : ∀ a, P ds.length a → S g tw D (Iv ds.length a)) : S g (tSeq (tFor wi tg tu) tw) D G := s_forE (D := { D with nx := tw D }) Iv P it a0 p0 w0 turn done
end
end DW
/-! defs that give an object or raise, called by keywords alone; __init__ of data by a row of fields -/
namespace DW
open PySem PySem.Spec PyProof.Rows L2
variable [LamTabs]
/-- the object stands, or what is raised -/
def OutOb (g : Gd) (Q : VK) (Ek : XK) (C : Addr) (fs : List (Str × PyData)) : Out → Prop
  | .val _ => RtO g Q C fs
  | .exc D es => XtOk g Ek D es
/-- a promise by slots: an object of the class C, or what is raised -/
def spOX (K : PySem.W.Frag) (Tb : List Addr) (C : Addr) (R : Hp → List Sl → List (Str × PyData) → Out → Prop) : Sp := fun vs H Q Ek => ∃ F Gs fs o, Sub F H ∧ (∀ P ∈ Tb, TabQ H P) ∧ ByS K F vs Gs ∧ R F Gs fs o ∧ OutOb ⟨K, Tb, F, H, F⟩ Q Ek C fs o
section
variable {P : Program} {w : World} {K : PySem.W.Frag} {mg : Str → Option Value} {base : Heap} {x qual : Str} {params : Arguments} {bd : List Stmt} {scope : Scope} {dvs : List V} {kws : List (Str × V)} {f C : Addr} {fd : FuncData} {Nn ps : List Str} {k : Nat} {Tb : List Addr}
theorem fn_OX (F : FunD K x qual params bd scope dvs kws f fd) (Sc : FnScope Nn ps scope) {R : Hp → List Sl → List (Str × PyData) → Out → Prop} (hlen : ∀ F Gs fs o, R F Gs fs o → Gs.length = ps.length)
    (body : ∀ (cdv : Value) (A : Around) (outer : List Env) (s : Shared) (H : Hp) (E : XK), Room k (A.deeper (envOfC qual scope s.heap.objs.size f cdv)) →
      ∃ t, PSs (cxOf (L2.CX P w) P w K mg base Nn qual scope f cdv A outer s H E) bd t ∧ ∀ (Gs : List Sl) (fs : List (Str × PyData)) (o : Out) (F0 H0 : Hp) (Q : VK), R F0 Gs fs o → OutOb ⟨K, Tb, F0, H0, F0⟩ Q E C fs o → S ⟨K, Tb, F0, H0, F0⟩ t { nx := fun _ H' => Q .non H', rt := Q } (startS Nn.length Gs)) :
    FnOk P w K mg base (L2.CX P w) (k + 1) f fd ps (spOX K Tb C R) := by
  refine F.ok Sc (fun vs H Q E h => ?_) (fun cdv A outer s H vs Q E hr h => ?_)
  · obtain ⟨F1, Gs, fs, o, _, _, hd, r, _⟩ := h
    exact hd.len.trans (hlen F1 Gs fs o r)
  · obtain ⟨F1, Gs, fs, o, sb, ht, hd, r, q⟩ := h
    obtain ⟨t, h1, h2⟩ := body cdv A outer s H E hr
    exact ⟨t, h1, h2 Gs fs o F1 H Q r q _ F1 H (holds_startS sb ht hd)⟩
/-- a def that may raise at hand, called by keywords alone; gV sets the lacking ones in -/
structure DfKX (P : Program) (w : World) (K : PySem.W.Frag) (mg : Str → Option Value) (base : Heap) (k : Nat) (x : Str) (ks : List Str) (gV : List V → List V → List V) (sp : Sp) : Prop where
  ex : ∃ f fd ps g, FnOk P w K mg base (L2.CX P w) k f fd ps sp ∧ mg x = some (.ref f) ∧ PySem.W.keepIn K (.ref f) = true ∧ KBn K fd ps 0 ks g gV
end
theorem pe_dfKX {X : Cx} {j k : Nat} {x : Str} {ks : List Str} {gV : List V → List V → List V} {sp : Sp} {p pos : Pos} {kws : List Keyword} {tk : TA} {E : XK} (D : DfKX X.prog X.w X.K X.mg X.base j x ks gV sp) (hr : Room k X.A) (hj : j ≤ k) (hg : Gl X x) (hx : Passes (L2.CX X.prog X.w) X E) (hkw : PK X kws tk)
    (hall : (backToKw pos (keywordEach kws X.env)).all (·.1.isSome) = true := by rfl) (hks : (backToKw pos (keywordEach kws X.env)).filterMap (·.1) = ks := by rfl) (hdb : (x == ("__debug__" : Str)) = false := by decide)
    (hpl : ((backTo pos (starEach [] X.env)).any (·.1) || (backToKw pos (keywordEach kws X.env)).any (·.1.isNone)) = false := by rfl) :
    PE X (.Call (.Name x p) [] kws pos) (tCallN 0 ks.length sp gV E tNil tk) := by
  obtain ⟨f, fd, ps, g, F, hm, hk, hb⟩ := D.ex
  exact pe_callN0 F (hr.mono hj) hg hm hk hb hx hkw hall hks hdb hpl
section
variable {g : Gd} {G Gs : List Sl} {tk : TA} {tw : TS} {ds : List PyData} {i m : Nat} {D : Ends} {C : Addr} {fs : List (Str × PyData)} {gV : List V → List V → List V} {d : PyData}
/-- return f(k = v, ..), an object -/
theorem s_retKX {R : Hp → List Sl → List (Str × PyData) → Out → Prop} {Ek : XK} (hA : A g tk G ds) (hm : ds.length = m) (hg : ∀ F zs, Ex g.F0 F → DpAll g.K F zs ds → ByS g.K F (gV [] zs) Gs) (r : ∀ F, Ex g.Fl F → R F Gs fs (.val d)) (k : RtO g D.rt C fs) : S g (tRet (tCallN 0 m (spOX g.K g.T C R) gV Ek tNil tk)) D G := fun σ F H hh => hA σ F H hh _ fun vs F1 H1 s1 d1 =>
  ⟨rfl, (dps_len d1).trans hm, F1, Gs, fs, .val d, s1.i, (hh.mono s1).tab, hg F1 vs (hh.mono s1).st.f d1, r F1 (hh.mono s1).lo, fun a F2 H2 s2 ob => k a F2 H2 ((hh.mono s1).st.trans s2) ob⟩
end
/-- a list or a tuple as the list of its own -/
def asL : PyData → Option (List PyData)
  | .list l => some l
  | .tuple l => some l
  | _ => none
theorem asL_or {K : PySem.W.Frag} {F : Hp} {v : V} {d : PyData} {l : List PyData} (h : asL d = some l) (hd : Dp K F v d) : Dp K F v (.list l) ∨ Dp K F v (.tuple l) := by
  unfold asL at h
  split at h
  · cases h; exact .inl hd
  · cases h; exact .inr hd
  · cases h
section
variable {K : PySem.W.Frag} {C : Addr} {F H2 : Hp} {a dx : Addr} {fs : List (Str × PyData)} {f : Str} {d : PyData} {σ : L2.St} {tw : TS} {D : Ends} {j : Nat} {v : V} {l : List PyData}
theorem si_valq (h0 : σ[0]? = some (some (.ref a))) (hj : σ[j]? = some (some v)) (hd : Dp K F v d) (hC : Cls K C) (hn : NoAttr K C f) (hf : f ∉ fs.map (·.1)) (hl : fs.length < 1000) (k : SI K C F H2 a dx σ (fs ++ [(f, d)]) (tw) D) : SI K C F H2 a dx σ fs (tSeq (sFld K (tVar 0) (tVar j) f) tw) D := si_seq (si_val h0 hj hd hC hn hf hl k)
theorem si_listq (h0 : σ[0]? = some (some (.ref a))) (hj : σ[j]? = some (some v)) (hd : Dp K F v d) (ha : asL d = some l) (hC : Cls K C) (hn : NoAttr K C f) (hf : f ∉ fs.map (·.1)) (hl : fs.length < 1000) (k : SI K C F H2 a dx σ (fs ++ [(f, .list l)]) tw D) : SI K C F H2 a dx σ fs (tSeq (sFld K (tVar 0) (tCB (rListW K) (tCons (tVar j) tNil)) f) tw) D := si_seq (si_list h0 hj (asL_or ha hd) hC hn hf hl k)
end
end DW
/-! a def all of whose parameters are keyword-only, some with defaults: what its call binds -/
namespace DW
open PySem PySem.Spec PyProof.Rows L2
theorem forIn_run {m : Type → Type} [Monad m] [LawfulMonad m] {α β : Type} (f : α → β → m (ForInStep β)) (g : Nat → β) : ∀ (l : List α) (n : Nat), (∀ i x, l[i]? = some x → f x (g (n + i)) = pure (.yield (g (n + i + 1)))) → forIn l (g n) f = pure (g (n + l.length))
  | [], n, _ => by rw [List.forIn_nil]; rfl
  | x :: l, n, h => by
    have h0 := h 0 x rfl
    rw [Nat.add_zero] at h0
    rw [List.forIn_cons, h0, pure_bind]
    show forIn l (g (n + 0 + 1)) f = _
    rw [forIn_run f g l (n + 0 + 1) fun i y e => by
      have := h (i + 1) y (by simpa using e)
      rwa [show n + (i + 1) = n + 0 + 1 + i by omega] at this]
    rw [List.length_cons, show n + 0 + 1 + l.length = n + (l.length + 1) by omega]
theorem looks_forIn {M : Model} {h : Heap} {α β : Type} (f : α → β → Sem (ForInStep β)) (g : Nat → β) : ∀ (l : List α) (n : Nat), (∀ i x, l[i]? = some x → PySem.W.Looks M h (f x (g (n + i))) (.yield (g (n + i + 1)))) → PySem.W.Looks M h (forIn l (g n) f) (g (n + l.length))
  | [], n, _ => by rw [List.forIn_nil]; exact PySem.W.Looks.of_pure rfl
  | x :: l, n, hx => by
    rw [List.forIn_cons, List.length_cons, show n + (l.length + 1) = n + 0 + 1 + l.length by omega]
    exact (hx 0 x rfl).andThen (looks_forIn f g l (n + 0 + 1) fun i y e => by
      have := hx (i + 1) y (by simpa using e)
      rwa [show n + (i + 1) = n + 0 + 1 + i by omega] at this)
theorem lookup_app {α : Type} {n : Str} : ∀ {l r : List (Str × α)}, (l ++ r).lookup n = match l.lookup n with | some x => some x | none => r.lookup n
  | [], r => rfl
  | (k, v) :: l, r => by
    rw [List.cons_append, List.lookup_cons, List.lookup_cons]
    cases n == k with
    | true => rfl
    | false => exact lookup_app
theorem lookup_none_of {α : Type} {n : Str} : ∀ {l : List (Str × α)}, n ∉ l.map (·.1) → l.lookup n = none
  | [], _ => rfl
  | (k, v) :: l, h => by
    rw [List.map_cons, List.mem_cons, not_or] at h
    rw [List.lookup_cons, show (n == k) = false from beq_eq_false_iff_ne.mpr h.1]
    exact lookup_none_of h.2
theorem nodup_at {l : List Str} (nd : l.Nodup) {i : Nat} {x : Str} (e : l[i]? = some x) : x ∉ l.take i := fun h => by
  obtain ⟨j, hj⟩ := List.mem_iff_getElem?.mp h
  rw [List.getElem?_take] at hj
  split at hj
  · next hlt =>
    obtain ⟨a1, a2⟩ := List.getElem?_eq_some_iff.mp e
    obtain ⟨b1, b2⟩ := List.getElem?_eq_some_iff.mp hj
    exact List.pairwise_iff_getElem.mp nd j i b1 a1 hlt (b2.trans a2.symm)
  · cases hj
theorem take_s {α : Type} {l : List α} {i : Nat} {x : α} (e : l[i]? = some x) : l.take (i + 1) = l.take i ++ [x] := by
  rw [List.take_add_one, e]; rfl
/-- the value of a parameter: what is written, else the default -/
def kwv (kw : List (Str × Value)) (mv : Str → Value) (n : Str) : Value := (kw.lookup n).getD (mv n)
def dfl (ks : List Str) (mv : Str → Value) (l : List Str) : List (Str × Value) := l.filterMap fun n => if n ∈ ks then none else some (n, mv n)
theorem dfl_none {ks : List Str} {mv : Str → Value} {n : Str} {l : List Str} (h : n ∉ l) : (dfl ks mv l).lookup n = none := lookup_none_of fun z => by
  obtain ⟨p, hp, e⟩ := List.mem_map.mp z
  obtain ⟨m, hm, e2⟩ := List.mem_filterMap.mp hp
  split at e2
  · cases e2
  · cases e2; exact h (e ▸ hm)
theorem dfl_some {ks : List Str} {mv : Str → Value} {n : Str} (hk : n ∉ ks) : ∀ {l : List Str}, n ∈ l → (dfl ks mv l).lookup n = some (mv n)
  | [], h => by cases h
  | k :: l, h => by
    unfold dfl
    by_cases e : k = n
    · subst e
      rw [List.filterMap_cons, if_neg hk, List.lookup_cons]; simp
    · have ih := dfl_some (mv := mv) hk ((List.mem_cons.mp h).resolve_left (Ne.symm e))
      unfold dfl at ih
      by_cases hk' : k ∈ ks
      · rw [List.filterMap_cons, if_pos hk']; exact ih
      · rw [List.filterMap_cons, if_neg hk']
        show List.lookup n ((k, mv k) :: _) = _
        rw [List.lookup_cons, show (n == k) = false from beq_eq_false_iff_ne.mpr (Ne.symm e)]
        exact ih
theorem lookup_some_of {α : Type} {n : Str} : ∀ {l : List (Str × α)}, n ∈ l.map (·.1) → ∃ v, l.lookup n = some v
  | [], h => by cases h
  | (k, v) :: l, h => by
    rw [List.lookup_cons]
    by_cases e : n = k
    · subst e; exact ⟨v, by simp⟩
    · rw [show (n == k) = false from beq_eq_false_iff_ne.mpr e]
      exact lookup_some_of ((List.mem_cons.mp h).resolve_left e)
theorem looks_kw {K : PySem.W.Frag} {M : Model} {h : Heap} {fd : FuncData} {kw : List (Str × Value)} {names : List Str} {D : Addr} {mv : Str → Value} (X : K.In h)
    (hpos : fd.params.posonlyargs = []) (hargs : fd.params.args = []) (hkwo : fd.params.kwonlyargs.map (·.arg) = names) (hva : fd.params.vararg = none) (hkwa : fd.params.kwarg = none) (hd : fd.defaults = .none) (hkd : fd.kwdefaults = .ref D)
    (hk : ∀ n ∈ kw.map (·.1), n ∈ names) (ndk : (kw.map (·.1)).Nodup) (nd : names.Nodup) (hm : ∀ n ∈ names, n ∉ kw.map (·.1) → PySem.W.nsIn K D n = some (some (mv n))) :
    PySem.W.Looks M h (bindArgs fd ⟨[], kw⟩) (names.map fun n => (n, kwv kw mv n)) := by
  unfold bindArgs
  simp only [hpos, hargs, hkwo, hva, hkwa, hd, hkd, List.map_nil, List.nil_append, List.zip_nil_left, List.append_nil]
  have e1 : ∀ (F : Str × Value → List (Str × Value) × List (Str × Value) → Sem (ForInStep (List (Str × Value) × List (Str × Value)))),
      (∀ i x, kw[i]? = some x → F x (kw.take i, []) = pure (.yield (kw.take (i + 1), []))) → forIn kw (([], []) : List (Str × Value) × List (Str × Value)) F = pure (kw, []) := fun F hF => by
    have := forIn_run F (fun i => (kw.take i, ([] : List (Str × Value)))) kw 0 fun i x e => by rw [Nat.zero_add]; exact hF i x e
    rw [Nat.zero_add, List.take_length] at this
    exact this
  rw [e1 _ fun i x e => ?_, pure_bind]
  · have e2 : seqItems? Value.none = pure none := rfl
    rw [e2, pure_bind]
    have z0 : (Array.toList (α := Value) ((none : Option (Array Value)).getD #[])) = [] := rfl
    simp only [z0, List.length_nil, List.drop_nil, List.take_nil, List.filter_nil, List.isEmpty_nil, Bool.not_true, List.zip_nil_left, List.forIn_nil, pure_bind, gt_iff_lt, Nat.lt_irrefl, decide_false, Bool.false_and]
    rw [if_neg (by decide), if_neg (by decide)]
    have key := looks_forIn (M := M) (h := h) (fun (name : Str) (s : List (Str × Value) × List Str) => (if (List.lookup name s.1).isNone = true then do
                let dflt ← nsGet D name
                match dflt with
                  | some v => pure (ForInStep.yield (s.1 ++ [(name, v)], s.2))
                  | none => pure (ForInStep.yield (s.1, s.2 ++ [name]))
              else pure (ForInStep.yield (s.1, s.2)) : Sem (ForInStep (List (Str × Value) × List Str))))
      (fun i => (kw ++ dfl (kw.map (·.1)) mv (names.take i), ([] : List Str))) names 0 fun i x e => ?_
    · rw [Nat.zero_add, List.take_length] at key
      rw [List.take_zero, show dfl (kw.map (·.1)) mv [] = [] from rfl, List.append_nil] at key
      refine key.andThen (PySem.W.Looks.of_pure ?_)
      show (if (!List.isEmpty ([] : List Str)) = true then _ else _) = _
      rw [if_neg (by decide)]
      congr 1
      have all : ∀ n ∈ names, List.lookup n (kw ++ dfl (kw.map (·.1)) mv names) = some (kwv kw mv n) := fun n hn => by
        rw [lookup_app]
        unfold kwv
        by_cases hk' : n ∈ kw.map (·.1)
        · obtain ⟨v, hv⟩ := lookup_some_of hk'
          rw [hv]; rfl
        · rw [lookup_none_of hk', dfl_some hk' hn]; rfl
      show names.filterMap (fun n => Option.map (fun x => (n, x)) (List.lookup n (kw ++ dfl (kw.map (·.1)) mv names))) = _
      clear key hm hkwo
      generalize kw ++ dfl (kw.map (·.1)) mv names = S at all
      revert all
      clear nd hk
      induction names with
      | nil => intro _; rfl
      | cons a l ih =>
        intro all
        rw [List.filterMap_cons, all a (List.mem_cons_self ..), List.map_cons]
        show _ :: _ = _
        rw [ih fun n hn => all n (List.mem_cons_of_mem _ hn)]
    · rw [Nat.zero_add, take_s e]
      have hx : x ∈ names := List.mem_of_getElem? e
      have sp : dfl (kw.map (·.1)) mv (names.take i ++ [x]) = dfl (kw.map (·.1)) mv (names.take i) ++ dfl (kw.map (·.1)) mv [x] := by unfold dfl; rw [List.filterMap_append]
      rw [sp]
      by_cases hk' : x ∈ kw.map (·.1)
      · obtain ⟨v, hv⟩ := lookup_some_of hk'
        have e3 : dfl (kw.map (·.1)) mv [x] = [] := by unfold dfl; rw [List.filterMap_cons, if_pos hk']; rfl
        rw [e3, List.append_nil]
        refine PySem.W.Looks.of_pure ?_
        show (if (List.lookup x (kw ++ dfl (kw.map (·.1)) mv (names.take i))).isNone = true then _ else _) = _
        rw [lookup_app, hv]
        rfl
      · have e3 : dfl (kw.map (·.1)) mv [x] = [(x, mv x)] := by unfold dfl; rw [List.filterMap_cons, if_neg hk']; rfl
        have e4 : List.lookup x (kw ++ dfl (kw.map (·.1)) mv (names.take i)) = none := by rw [lookup_app, lookup_none_of hk', dfl_none (nodup_at nd e)]
        rw [e3, ← List.append_assoc]
        show PySem.W.Looks M h (if (List.lookup x (kw ++ dfl (kw.map (·.1)) mv (names.take i))).isNone = true then _ else _) _
        rw [e4, if_pos (show (none : Option Value).isNone = true from rfl)]
        exact (PySem.W.looks_nsIn X (hm x hx hk')).andThen (PySem.W.Looks.of_pure rfl)
  · have hx : (names.contains x.1) = true := by
      rw [List.contains_iff_mem]
      exact hk _ (List.mem_map.mpr ⟨x, List.mem_of_getElem? e, rfl⟩)
    have hl : (kw.take i).lookup x.1 = none := lookup_none_of (by
      rw [List.map_take]
      exact nodup_at ndk (by rw [List.getElem?_map, e]; rfl))
    rw [if_pos (by rw [hx, Bool.or_true])]
    show (if (List.lookup x.1 (kw.take i)).isSome = true then _ else _) = _
    rw [hl, if_neg (by decide), take_s e]
section
variable {K : PySem.W.Frag} {x qual : Str} {params : Arguments} {body : List Stmt} {scope : Scope} {kws : List (Str × V)} {f : Addr} {fd : FuncData} {ps : List Str}
/-- f(k = v, ..): the values by the parameters' order -/
def kwV (kws : List (Str × V)) (ps ks : List Str) (zs : List V) : List V := ps.map fun n => ((ks.zip zs).lookup n).getD ((kws.lookup n).getD .non)
theorem zip_lookup {vs : List V} {us : List Value} (r : Vals vs us) : ∀ (ks : List Str) (n : Str), ((ks.zip vs).lookup n = none ∧ (ks.zip us).lookup n = none) ∨ ∃ v u, (ks.zip vs).lookup n = some v ∧ (ks.zip us).lookup n = some u ∧ RelV v u := by
  induction r with
  | nil => intro ks n; cases ks <;> exact .inl ⟨rfl, rfl⟩
  | cons a t ih =>
    intro ks n
    cases ks with
    | nil => exact .inl ⟨rfl, rfl⟩
    | cons k ks =>
      rw [List.zip_cons_cons, List.zip_cons_cons, List.lookup_cons, List.lookup_cons]
      cases n == k with
      | true => exact .inr ⟨_, _, rfl, rfl, a⟩
      | false => exact ih ks n
theorem vals_map {p : Str → V} {q : Str → Value} (h : ∀ n, RelV (p n) (q n)) : ∀ l : List Str, Vals (l.map p) (l.map q)
  | [] => .nil
  | n :: l => .cons (h n) (vals_map h l)
theorem kb_kw (F : FunD K x qual params body scope [] kws f fd) (ks : List Str) (hne : kws ≠ []) (hpos : params.posonlyargs = []) (hargs : params.args = []) (hkwo : params.kwonlyargs.map (·.arg) = ps) (hva : params.vararg = none) (hkwa : params.kwarg = none)
    (hk : ∀ n ∈ ks, n ∈ ps) (ndk : ks.Nodup) (nd : ps.Nodup) (hm : ∀ n ∈ ps, n ∉ ks → (kws.lookup n).isSome = true) : ∃ g, KBn K fd ps 0 ks g (fun _ zs => kwV kws ps ks zs) := by
  obtain ⟨oc, od, dV, kV, doc, pm, an, cdv, ct, osl, rfl, lk, hcd, hD, hK⟩ := F.ex
  rcases hD with ⟨_, rfl⟩ | ⟨e, _⟩
  · rcases hK with e | ⟨D, rfl, hq⟩
    · exact absurd e hne
    · have hv : ∀ n, ∃ u, (∀ v, kws.lookup n = some v → PySem.W.nsIn K D n = some (some u)) ∧ RelV ((kws.lookup n).getD .non) u := fun n => by
        cases h : kws.lookup n with
        | none => exact ⟨.none, fun v z => (by cases z), rfl⟩
        | some v =>
          obtain ⟨u, h1, h2⟩ := hq (n, v) (PySem.mem_of_lookup h)
          exact ⟨u, fun _ _ => h1, h2⟩
      let mv : Str → Value := fun n => Classical.choose (hv n)
      have mvs : ∀ n, (∀ v, kws.lookup n = some v → PySem.W.nsIn K D n = some (some (mv n))) ∧ RelV ((kws.lookup n).getD .non) (mv n) := fun n => Classical.choose_spec (hv n)
      refine ⟨fun _ ws => ps.map fun n => kwv (ks.zip ws) mv n, fun s us ws X l1 l2 => ?_, fun {vs us zs ws} r1 r2 => ?_⟩
      · obtain rfl := List.length_eq_zero_iff.mp l1
        have ek : (ks.zip ws).map (·.1) = ks := by rw [List.map_fst_zip (by omega)]
        refine BindsTo.of_looks fun M => ?_
        have L := looks_kw (M := M) (h := s.heap) (fd := PySem.W.fnOf x qual params body scope .none (.ref D) doc pm an cdv ct) (kw := ks.zip ws) (names := ps) (D := D) (mv := mv) X hpos hargs hkwo hva hkwa rfl rfl (by rw [ek]; exact hk) (by rw [ek]; exact ndk) nd fun n hn hnk => by
          rw [ek] at hnk
          obtain ⟨v, e⟩ := Option.isSome_iff_exists.mp (hm n hn hnk)
          exact (mvs n).1 v e
        have ez : ∀ (l : List Str) (g : Str → Value), (l.map fun n => (n, g n)) = l.zip (l.map g) := fun l g => by
          induction l with
          | nil => rfl
          | cons a l ih => rw [List.map_cons, List.map_cons, List.zip_cons_cons, ih]
        rw [ez] at L
        exact L
      · exact vals_map (fun n => by
          unfold kwv
          rcases zip_lookup r2 ks n with ⟨e1, e2⟩ | ⟨v, u, e1, e2, e3⟩
          · rw [e1, e2]; exact (mvs n).2
          · rw [e1, e2]; exact e3) ps
  · exact absurd rfl e
end
end DW
/-! a row of checks, each of which may raise -/
namespace DW
open PySem PySem.Spec PyProof.Rows L2
variable [LamTabs]
def thE : Out → Out → Out
  | .val _, o => o
  | .exc C es, _ => .exc C es
section
variable {g : Gd} {G Gs : List Sl} {ta : TA} {tw : TS} {D : Ends} {ds : List PyData} {o o2 : Out} {Q : VK} {Ek : XK} {C : Addr} {fs : List (Str × PyData)}
theorem nor_callS {C : Addr} {R : Hp → List Sl → Out → Prop} {Es : L2.St → XK} (h : AS g ta G Gs) (r : ∀ F, Ex g.Fl F → R F Gs (.exc C fs)) (k : ∀ σ, XtOk g (Es σ) C fs) : NoRet g (tCallS (spSX g.K g.T R) Es ta) G := fun σ F H hh Q => h σ F H hh _ fun vs F1 H1 s1 d1 =>
  ⟨F1, Gs, .exc C fs, s1.i, (hh.mono s1).tab, d1, r F1 (hh.mono s1).lo, fun dx ws F2 H2 s2 h0 hF hH hf => k σ dx ws F2 H2 ((hh.mono s1).st.trans s2) (old_free (hh.mono s1).st h0) hF hH hf⟩
theorem ev_callX {R : List PyData → Out → Prop} {Es : L2.St → XK} {d : PyData} (h : A g ta G ds) (r : R ds (.val d)) : E g (tCallS (spX g.K g.T R) Es ta) G d := fun σ F H hh Q q => h σ F H hh _ fun vs F1 H1 s1 d1 =>
  ⟨F1, ds, .val d, s1.i, (hh.mono s1).tab, d1, r, fun v F2 H2 s2 d2 => q v F2 H2 (s1.trans s2) d2⟩
/-- f(..) for its outcome, arguments by slots -/
theorem q_chkS {R : Hp → List Sl → Out → Prop} {Es : L2.St → XK} (h : AS g ta G Gs) (r : ∀ F, Ex g.Fl F → R F Gs o) (hE : ∀ σ, Es σ = Ek) (rt : OutOb ⟨g.K, g.T, g.F0, g.H0, g.F0⟩ Q Ek C fs (thE o o2)) (k : OutOb ⟨g.K, g.T, g.F0, g.H0, g.F0⟩ Q Ek C fs o2 → S g tw D G) : S g (tSeq (tDrop (tCallS (spSX g.K g.T R) Es ta)) tw) D G := by
  cases o with
  | val d => exact q_drop (e_callSX h r) (k rt)
  | exc C' es => exact q_dropE (nor_callS h r fun σ => by rw [hE]; exact rt)
/-- .. by data -/
theorem q_chkX {R : List PyData → Out → Prop} {Es : L2.St → XK} (h : A g ta G ds) (r : R ds o) (hE : ∀ σ, Es σ = Ek) (rt : OutOb ⟨g.K, g.T, g.F0, g.H0, g.F0⟩ Q Ek C fs (thE o o2)) (k : OutOb ⟨g.K, g.T, g.F0, g.H0, g.F0⟩ Q Ek C fs o2 → S g tw D G) : S g (tSeq (tDrop (tCallS (spX g.K g.T R) Es ta)) tw) D G := by
  cases o with
  | val d => exact q_drop (ev_callX h r) (k rt)
  | exc C' es => exact q_dropE (nor_call h r fun σ => by rw [hE]; exact rt)
end
/-- a test of what is coded, as a test of the code -/
noncomputable def liftB {α : Type} (enc : α → PyData) (q : α → Bool) (d : PyData) : Bool := by
  classical exact if h : ∃ x, enc x = d then q h.choose else true
theorem liftB_enc {α : Type} {enc : α → PyData} (inj : ∀ x y, enc x = enc y → x = y) (q : α → Bool) (x : α) : liftB enc q (enc x) = q x := by
  unfold liftB
  have h : ∃ y, enc y = enc x := ⟨x, rfl⟩
  rw [dif_pos h, inj _ _ h.choose_spec]
end DW
/-! xs.index(x); range(a, b) of great numbers -/
namespace DW
open PySem PySem.Spec PyProof.Rows L2
end DW
/-! plain defs that give an object; a class's default tuples -/
namespace DW
open PySem PySem.Spec PyProof.Rows L2
variable [LamTabs]
section
variable {P : Program} {w : World} {K : PySem.W.Frag} {mg : Str → Option Value} {base : Heap} {x qual : Str} {st : Stmt} {f C : Addr} {fd : FuncData} {Nn ps : List Str} {k : Nat} {Tb : List Addr}
theorem df_SO (F : Fun K x qual st f fd) (Sc : FnScope Nn ps (defScope st)) (hm : mg x = some (.ref f)) (hb : Binds K fd ps []) {R : Hp → List Sl → List (Str × PyData) → Prop} (hlen : ∀ F Gs d, R F Gs d → Gs.length = ps.length)
    (body : ∀ (cdv : Value) (A : Around) (outer : List Env) (s : Shared) (H : Hp) (E : XK), Room k (A.deeper (envOfC qual (defScope st) s.heap.objs.size f cdv)) →
      ∃ t, PSs (cxOf CX0 P w K mg base Nn qual (defScope st) f cdv A outer s H E).nox (defBody st) t ∧ ∀ (Gs : List Sl) (fs : List (Str × PyData)) (F0 H0 : Hp) (Q : VK), R F0 Gs fs → RtO ⟨K, Tb, F0, H0, F0⟩ Q C fs → S ⟨K, Tb, F0, H0, F0⟩ t { nx := fun _ H' => Q .non H', rt := Q } (startS Nn.length Gs)) :
    Df P w K mg base (k + 1) x ps (spSO K Tb C R) := by
  refine ⟨f, fd, F.ok Sc (fun vs H Q E h => ?_) (fun cdv A outer s H vs Q E hr h => ?_), hm, F.kp, hb⟩
  · obtain ⟨F, Gs, d, _, _, hd, r, _⟩ := h
    exact hd.len.trans (hlen F Gs d r)
  · obtain ⟨F1, Gs, fs, sb, ht, hd, r, q⟩ := h
    obtain ⟨t, h1, h2⟩ := body cdv A outer s H E hr
    exact ⟨t, h1, h2 Gs fs F1 H Q r q _ F1 H (holds_startS sb ht hd)⟩
end
/-- a tuple of the module's own, by data -/
def TupK (K : PySem.W.Frag) (p : Addr) (vs : List V) : Prop := ∃ (o : Obj) (its : Array Value) (n : Nat), K.lookup p = some o ∧ o.cls = .type "tuple" ∧ o.data = .seq its n ∧ its.size ≤ sizeLine ∧ Vals vs its.toList
theorem TupK.dp {K : PySem.W.Frag} {p : Addr} {vs : List V} {ds : List PyData} {F : Hp} (h : TupK K p vs) (d : DpAll K F vs ds) : Dp K F (.ref p) (.tuple ds) := .tup (.inr h) d
end DW
/-! D.get(k) of a module's written dict -/
namespace DW
open PySem PySem.Spec PyProof.Rows L2
end DW
/-! lists and tuples some of whose entries are objects: displayed, returned, unpacked -/
namespace DW
open PySem PySem.Spec PyProof.Rows L2
variable [LamTabs]
/-- a list (tuple) that stays, its entries by slots -/
def MxL (K : PySem.W.Frag) (F : Hp) (v : V) (Gs : List Sl) : Prop := ∃ t vs, v = .ref t ∧ SqL K F t vs ∧ ByS K F vs Gs
def MxT (K : PySem.W.Frag) (F : Hp) (v : V) (Gs : List Sl) : Prop := ∃ t vs, v = .ref t ∧ SqT K F t vs ∧ ByS K F vs Gs
/-- the promise of a def that takes data and gives such a list (tuple), with a property -/
def spML (K : PySem.W.Frag) (Tb : List Addr) (Ad : List PyData → Prop) (R : List PyData → Hp → List Sl → Prop) : Sp := fun vs H Q _ => ∃ F ds, Sub F H ∧ (∀ P ∈ Tb, TabQ H P) ∧ DpAll K F vs ds ∧ Ad ds ∧ ∀ v Gs F' H', Stp F H F' H' → MxL K F' v Gs → R ds F' Gs → Q v H'
def spMT (K : PySem.W.Frag) (Tb : List Addr) (Ad : List PyData → Prop) (R : List PyData → Hp → List Sl → Prop) : Sp := fun vs H Q _ => ∃ F ds, Sub F H ∧ (∀ P ∈ Tb, TabQ H P) ∧ DpAll K F vs ds ∧ Ad ds ∧ ∀ v Gs F' H', Stp F H F' H' → MxT K F' v Gs → R ds F' Gs → Q v H'
def RtML (g : Gd) (rt : VK) (P : Hp → List Sl → Prop) : Prop := ∀ v Gs F H, Stp g.F0 g.H0 F H → MxL g.K F v Gs → P F Gs → rt v H
def RtMT (g : Gd) (rt : VK) (P : Hp → List Sl → Prop) : Prop := ∀ v Gs F H, Stp g.F0 g.H0 F H → MxT g.K F v Gs → P F Gs → rt v H
section
variable {P : Program} {w : World} {K : PySem.W.Frag} {mg : Str → Option Value} {base : Heap} {x qual : Str} {st : Stmt} {f : Addr} {fd : FuncData} {Nn ps : List Str} {k : Nat} {Tb : List Addr}
theorem df_ML (F : Fun K x qual st f fd) (Sc : FnScope Nn ps (defScope st)) (hm : mg x = some (.ref f)) (hb : Binds K fd ps []) {Ad : List PyData → Prop} {R : List PyData → Hp → List Sl → Prop} (hlen : ∀ ds, Ad ds → ds.length = ps.length)
    (body : ∀ (cdv : Value) (A : Around) (outer : List Env) (s : Shared) (H : Hp) (E : XK), Room k (A.deeper (envOfC qual (defScope st) s.heap.objs.size f cdv)) →
      ∃ t, PSs (cxOf CX0 P w K mg base Nn qual (defScope st) f cdv A outer s H E).nox (defBody st) t ∧ ∀ (ds : List PyData) (F0 H0 : Hp) (Q : VK), Ad ds → RtML ⟨K, Tb, F0, H0, F0⟩ Q (R ds) → S ⟨K, Tb, F0, H0, F0⟩ t { nx := fun _ H' => Q .non H', rt := Q } (startG Nn.length ds)) :
    Df P w K mg base (k + 1) x ps (spML K Tb Ad R) := by
  refine ⟨f, fd, F.ok Sc (fun vs H Q E h => ?_) (fun cdv A outer s H vs Q E hr h => ?_), hm, F.kp, hb⟩
  · obtain ⟨F, ds, _, _, hd, r, _⟩ := h
    exact (dps_len hd).trans (hlen ds r)
  · obtain ⟨F1, ds, sb, ht, hd, r, q⟩ := h
    obtain ⟨t, h1, h2⟩ := body cdv A outer s H E hr
    exact ⟨t, h1, h2 ds F1 H Q r (fun v Gs F H s m r => q v Gs F H s m r) _ F1 H (holds_start sb ht hd)⟩
theorem df_MT (F : Fun K x qual st f fd) (Sc : FnScope Nn ps (defScope st)) (hm : mg x = some (.ref f)) (hb : Binds K fd ps []) {Ad : List PyData → Prop} {R : List PyData → Hp → List Sl → Prop} (hlen : ∀ ds, Ad ds → ds.length = ps.length)
    (body : ∀ (cdv : Value) (A : Around) (outer : List Env) (s : Shared) (H : Hp) (E : XK), Room k (A.deeper (envOfC qual (defScope st) s.heap.objs.size f cdv)) →
      ∃ t, PSs (cxOf CX0 P w K mg base Nn qual (defScope st) f cdv A outer s H E).nox (defBody st) t ∧ ∀ (ds : List PyData) (F0 H0 : Hp) (Q : VK), Ad ds → RtMT ⟨K, Tb, F0, H0, F0⟩ Q (R ds) → S ⟨K, Tb, F0, H0, F0⟩ t { nx := fun _ H' => Q .non H', rt := Q } (startG Nn.length ds)) :
    Df P w K mg base (k + 1) x ps (spMT K Tb Ad R) := by
  refine ⟨f, fd, F.ok Sc (fun vs H Q E h => ?_) (fun cdv A outer s H vs Q E hr h => ?_), hm, F.kp, hb⟩
  · obtain ⟨F, ds, _, _, hd, r, _⟩ := h
    exact (dps_len hd).trans (hlen ds r)
  · obtain ⟨F1, ds, sb, ht, hd, r, q⟩ := h
    obtain ⟨t, h1, h2⟩ := body cdv A outer s H E hr
    exact ⟨t, h1, h2 ds F1 H Q r (fun v Gs F H s m r => q v Gs F H s m r) _ F1 H (holds_start sb ht hd)⟩
end
section
variable {g : Gd} {G G' Gs : List Sl} {ta : TA} {u : TGs} {tw : TS} {D : Ends} {ds : List PyData} {d : PyData} {i n : Nat} {v : V} {Pm : Hp → List Sl → Prop} {Ad : List PyData → Prop} {R : List PyData → Hp → List Sl → Prop} {Ek : XK}
/-- return [.., o, ..] -/
theorem s_retML (h : AS g ta G Gs) (hl : Gs.length ≤ 100000) (r : ∀ F, Ex g.Fl F → Pm F Gs) (k : RtML g D.rt Pm) : S g (tRet (tLst ta)) D G := fun σ F H hh => h σ F H hh _ fun vs F1 H1 s1 d1 =>
  ⟨by rw [d1.len]; exact Nat.le_trans hl (by decide), fun p hp => by
    have st := Stp.new (o := .lst vs) s1.i hp fun _ z => by cases z
    exact k (.ref p) Gs _ _ ((hh.st.trans s1).trans st) ⟨p, vs, rfl, .inl (.inl upd_same), d1.mono st.f⟩ (r _ ((hh.mono s1).lo.trans st.f))⟩
/-- return .., o, .. -/
theorem s_retMT (h : AS g ta G Gs) (hl : Gs.length ≤ 100000) (r : ∀ F, Ex g.Fl F → Pm F Gs) (k : RtMT g D.rt Pm) : S g (tRet (tTup ta)) D G := fun σ F H hh => h σ F H hh _ fun vs F1 H1 s1 d1 =>
  ⟨by rw [d1.len]; exact Nat.le_trans hl (by decide), fun p hp => by
    have st := Stp.new (o := .tup vs) s1.i hp fun _ z => by cases z
    exact k (.ref p) Gs _ _ ((hh.st.trans s1).trans st) ⟨p, vs, rfl, .inl (.inl upd_same), d1.mono st.f⟩ (r _ ((hh.mono s1).lo.trans st.f))⟩
/-- targets by slots -/
def TgsS (g : Gd) (u : TGs) (Gs G G' : List Sl) : Prop := ∀ vs σ F H, Holds g G σ F H → ByS g.K F vs Gs → ∀ Q : L2.St → Hp → Prop, (∀ σ', Holds g G' σ' F H → Q σ' H) → u vs σ H Q
theorem us_nil : TgsS g gNil [] G G := fun vs σ F H hh hd Q q => by cases hd; exact ⟨rfl, q σ hh⟩
theorem us_fz (t : TgsS g u Gs (G.set i (.fz d)) G') : TgsS g (gCons (gName i) u) (.fz d :: Gs) G G' := fun vs σ F H hh hd Q q => by
  cases hd with
  | fz a b => exact ⟨_, _, rfl, t _ _ F H (hh.setF a) b Q q⟩
theorem us_raw (t : TgsS g u Gs (G.set i (.raw v)) G') : TgsS g (gCons (gName i) u) (.raw v :: Gs) G G' := fun vs σ F H hh hd Q q => by
  cases hd with
  | raw b => exact ⟨_, _, rfl, t _ _ F H (hh.set (i := i) (v := v) (s := .raw v) rfl fun z => by cases z) b Q q⟩
/-- a, b, c = f(..) -/
theorem q_unpML (h : A g ta G ds) (ad : Ad ds) (k : ∀ F1 Gs, Ex g.Fl F1 → R ds F1 Gs → Gs.length = n ∧ ∃ G', TgsS { g with Fl := F1 } u Gs G G' ∧ S { g with Fl := F1 } tw D G') :
    S g (tSeq (tAsg (tCall (spML g.K g.T Ad R) [] Ek ta) (gUnl g.K n u)) tw) D G := fun σ F H hh => h σ F H hh _ fun vs F1 H1 s1 d1 => by
  rw [List.append_nil]
  refine ⟨F1, ds, s1.i, (hh.mono s1).tab, d1, ad, fun v Gs F2 H2 s2 m r => ?_⟩
  have hh2 := hh.mono (s1.trans s2)
  obtain ⟨hn, G', ht, hk⟩ := k F2 Gs hh2.lo r
  obtain ⟨t, ws, rfl, sq, by_⟩ := m
  have h3 : Holds { g with Fl := F2 } G σ F2 H2 := ⟨hh2.len, hh2.st, hh2.sl, hh2.apart, hh2.tab, Ex.refl _⟩
  exact ⟨t, ws, rfl, h3.st.i.ex.l sq, by_.len.trans hn, ht ws σ F2 H2 h3 by_ _ fun σ' h' => hk σ' F2 H2 h'⟩
theorem q_unpMT (h : A g ta G ds) (ad : Ad ds) (k : ∀ F1 Gs, Ex g.Fl F1 → R ds F1 Gs → Gs.length = n ∧ ∃ G', TgsS { g with Fl := F1 } u Gs G G' ∧ S { g with Fl := F1 } tw D G') :
    S g (tSeq (tAsg (tCall (spMT g.K g.T Ad R) [] Ek ta) (gTup g.K n u)) tw) D G := fun σ F H hh => h σ F H hh _ fun vs F1 H1 s1 d1 => by
  rw [List.append_nil]
  refine ⟨F1, ds, s1.i, (hh.mono s1).tab, d1, ad, fun v Gs F2 H2 s2 m r => ?_⟩
  have hh2 := hh.mono (s1.trans s2)
  obtain ⟨hn, G', ht, hk⟩ := k F2 Gs hh2.lo r
  obtain ⟨t, ws, rfl, sq, by_⟩ := m
  have h3 : Holds { g with Fl := F2 } G σ F2 H2 := ⟨hh2.len, hh2.st, hh2.sl, hh2.apart, hh2.tab, Ex.refl _⟩
  exact ⟨t, ws, rfl, h3.st.i.ex.t sq, by_.len.trans hn, ht ws σ F2 H2 h3 by_ _ fun σ' h' => hk σ' F2 H2 h'⟩
end
end DW
/-! own dicts keyed by ints: {}, k not in d, d[k], d[k] = v -/
namespace DW
open PySem PySem.Spec PyProof.Rows L2
variable [LamTabs]
abbrev IE := Int × V
def IdRel : List IE → List (Int × Value) → Prop := Paired fun p q => p.1 = q.1 ∧ RelV p.2 q.2
def idO (P : Program) (w : World) (D : Addr) (kvs : List IE) : HO := .ext fun h => kvs.length ≤ sizeLine ∧ (D == sysModules) = false ∧ ∃ xs, IdRel kvs xs ∧ h.DictOf (PySem.intKind P w) D xs
def atK (kvs : List IE) (k : Int) : Option V := (kvs.find? fun x => decide (x.1 = k)).map (·.2)
def storeK (kvs : List IE) (k : Int) (v : V) : List IE := if (kvs.any fun x => decide (x.1 = k)) = true then kvs.map (fun x => if x.1 = k then (x.1, v) else x) else kvs ++ [(k, v)]
theorem idr_at (k : Int) : ∀ {kvs : List IE} {xs : List (Int × Value)}, IdRel kvs xs → (atK kvs k = none ∧ valueAt xs k = none) ∨ ∃ v u, atK kvs k = some v ∧ valueAt xs k = some u ∧ RelV v u
  | _, _, .nil => .inl ⟨rfl, rfl⟩
  | p :: ps, q :: qs, .cons h t => by
    obtain ⟨h1, h3⟩ := h
    unfold atK valueAt
    rw [List.find?_cons, List.find?_cons, ← h1]
    by_cases e : p.1 = k
    · rw [decide_eq_true e]
      exact .inr ⟨p.2, q.2, rfl, rfl, h3⟩
    · rw [decide_eq_false e]
      exact idr_at k t
theorem idr_any (k : Int) : ∀ {kvs : List IE} {xs : List (Int × Value)}, IdRel kvs xs → (kvs.any fun x => decide (x.1 = k)) = xs.any fun x => decide (x.1 = k)
  | _, _, .nil => rfl
  | p :: ps, q :: qs, .cons h t => by rw [List.any_cons, List.any_cons, idr_any k t, h.1]
theorem idr_map (k : Int) {v : V} {u : Value} (r : RelV v u) : ∀ {kvs : List IE} {xs : List (Int × Value)}, IdRel kvs xs → IdRel (kvs.map (fun x => if x.1 = k then (x.1, v) else x)) (xs.map fun kv => if kv.1 = k then (kv.1, u) else kv)
  | _, _, .nil => .nil
  | p :: ps, q :: qs, .cons h t => by
    obtain ⟨h1, h3⟩ := h
    rw [List.map_cons, List.map_cons]
    refine .cons ?_ (idr_map k r t)
    rw [← h1]
    by_cases e : p.1 = k
    · rw [if_pos e, if_pos e]; exact ⟨rfl, r⟩
    · rw [if_neg e, if_neg e]; exact ⟨h1, h3⟩
theorem idr_app {k : Int} {v : V} {u : Value} (r : RelV v u) : ∀ {kvs : List IE} {xs : List (Int × Value)}, IdRel kvs xs → IdRel (kvs ++ [(k, v)]) (xs ++ [(k, u)])
  | _, _, .nil => .cons ⟨rfl, r⟩ .nil
  | _ :: _, _ :: _, .cons h t => .cons h (idr_app r t)
theorem idr_store {k : Int} {v : V} {u : Value} (r : RelV v u) {kvs : List IE} {xs : List (Int × Value)} (h : IdRel kvs xs) : IdRel (storeK kvs k v) (stored xs k u) := by
  unfold storeK stored
  rw [idr_any k h]
  by_cases e : (xs.any fun x => decide (x.1 = k)) = true
  · rw [if_pos e, if_pos e]; exact idr_map k r h
  · rw [if_neg e, if_neg e]; exact idr_app r h
theorem storeK_len (kvs : List IE) (k : Int) (v : V) : (storeK kvs k v).length ≤ kvs.length + 1 := by
  unfold storeK
  split
  · rw [List.length_map]; omega
  · rw [List.length_append]; exact Nat.le_refl _
section
variable {X : Cx} {pins : List (Addr × Obj)} {σ : L2.St} {H : Hp} {s : Shared} {D : Addr} {kvs : List IE} {k : Int}
theorem id_of (I : Inv X pins σ H s) (e : H D = some (idO X.prog X.w D kvs)) : kvs.length ≤ sizeLine ∧ (D == sysModules) = false ∧ ∃ xs, IdRel kvs xs ∧ s.heap.DictOf (PySem.intKind X.prog X.w) D xs := by
  obtain ⟨h, _, _⟩ := (show ObjOk X.prog X.w H s.heap D (idO X.prog X.w D kvs) from I.hok D _ e)
  exact h
theorem id_new {P : Program} {w : World} {H' : Hp} {h' : Heap} {xs : List (Int × Value)} (z : kvs.length ≤ sizeLine) (hd : (D == sysModules) = false) (rel : IdRel kvs xs) (dd : h'.DictOf (PySem.intKind P w) D xs) :
    ObjOk P w H' h' D (idO P w D kvs) := by
  obtain ⟨o, es, ep, h1, rest⟩ := dd
  refine ⟨⟨z, hd, xs, rel, o, es, ep, h1, rest⟩, ⟨o, h1⟩, fun g1 g2 ⟨z, y, xs, r, o, es, ep, h1, rest⟩ keep => ⟨z, y, xs, r, o, es, ep, keep o h1, rest⟩⟩
theorem id_empty {P : Program} {w : World} {H : Hp} (h : Heap) (hb : sysModules < h.objs.size) : ObjOk P w H (h.push { cls := .type "dict", data := .dict #[] }) h.objs.size (idO P w h.objs.size []) :=
  id_new (xs := []) (Nat.zero_le _) (beq_eq_false_iff_ne.mpr (Ne.symm (Nat.ne_of_lt hb))) .nil (Heap.DictOf.new h)
theorem id_write {h' : Heap} {t' : Nat} {xs : List (Int × Value)} {v : V} {r : Value} (I : Inv X pins σ H s) (e : H D = some (idO X.prog X.w D kvs)) (hz : kvs.length < sizeLine) (hd : (D == sysModules) = false) (rel : IdRel kvs xs) (rv : RelV v r) (dd : h'.DictOf (PySem.intKind X.prog X.w) D (stored xs k r)) (hs : Heap.SameBut D s.heap h') :
    Inv X pins σ (upd H D (idO X.prog X.w D (storeK kvs k v))) { s with heap := h', toks := t' } := by
  have he : ∃ q, h'.get? D = some q := let ⟨q, _, _, hq, _⟩ := dd; ⟨q, hq⟩
  exact d_write I (by rw [e]; exact True.intro) hs he (id_new (Nat.le_trans (storeK_len _ _ _) hz) hd (idr_store rv rel) dd)
end
def rNiI (P : Program) (w : World) : R2 := fun x y H Q => ∃ D kvs k, x = .int k ∧ y = .ref D ∧ H D = some (idO P w D kvs) ∧ Q (.bl (!(atK kvs k).isSome)) H
def tDNewI (P : Program) (w : World) : TE := fun _ H Q => ∀ p, H p = none → Q (.ref p) (upd H p (idO P w p []))
def tDGetI (P : Program) (w : World) (td ty : TE) : TE := fun σ H Q => td σ H fun x H1 => ty σ H1 fun y H2 => ∃ D kvs k v, x = .ref D ∧ y = .int k ∧ H2 D = some (idO P w D kvs) ∧ atK kvs k = some v ∧ Q v H2
def sDPutI (P : Program) (w : World) (td ty tv : TE) : TS := fun D σ H => tv σ H fun v H1 => td σ H1 fun x H2 => ty σ H2 fun y H3 => ∃ d kvs k, x = .ref d ∧ y = .int k ∧ H3 d = some (idO P w d kvs) ∧ kvs.length < sizeLine ∧ D.nx σ (upd H3 d (idO P w d (storeK kvs k v)))
section
variable {X : Cx} {o e f value i : Expr} {pos pos' : Pos} {td ty tv : TE}
theorem op_niI : OpR X (compareOp .NotIn) (rNiI X.prog X.w) := by
  intro pins s σ H x y v u Q I rx ry h
  obtain ⟨D, kvs, k, rfl, rfl, e, q⟩ := h
  obtain ⟨t, rfl⟩ := rx
  cases (show u = Value.ref D from ry)
  obtain ⟨z, hd, xs, rel, dd⟩ := id_of I e
  refine wpAny_notIn_of (knd := PySem.intKind X.prog X.w) (intKind_is X.prog X.w k t) hd dd.mapOf ?_
  have q2 : (valueAt xs k).isSome = (atK kvs k).isSome := by rcases idr_at k rel with ⟨e1, e2⟩ | ⟨z, y, e1, e2, _⟩ <;> rw [e1, e2] <;> rfl
  rw [q2]
  exact ⟨V.bl _, H, I.tok _, rfl, q⟩
theorem uNiI (P : Program) (w : World) (hP : X.prog = P := by rfl) (hw : X.w = w := by rfl) : OpR X (compareOp .NotIn) (rNiI P w) := by subst hP hw; exact op_niI
theorem pe_dnewI (P : Program) (w : World) (hP : X.prog = P := by rfl) (hw : X.w = w := by rfl) : PE X (.Dict [] [] pos) (tDNewI P w) := by
  subst hP hw
  refine ⟨fun pins s σ H Q I h => wpAny_Dict_empty ?_⟩
  have n := I.hok.fresh (Nat.le_refl s.heap.objs.size)
  exact ⟨.ref s.heap.objs.size, _, I.laid (t' := s.toks) (fun _ _ q => Heap.get?_push_of_some _ q) (Nat.le_refl _) (id_empty s.heap I.big), rfl, h _ n⟩
theorem pe_dgetI (P : Program) (w : World) (ho : PE X o td) (hi : PE X i ty) (hs : NoSl i) (hP : X.prog = P := by rfl) (hw : X.w = w := by rfl) : PE X (.Subscript o i pos) (tDGetI P w td ty) := by
  subst hP hw
  refine ⟨fun pins s σ H Q I h => subD_of PySem.F.slot_dict_getitem.lookup hs ?_⟩
  refine thn (ho.run pins s σ H _ I h) fun u s1 ⟨x, H1, I1, rx, q1⟩ => thn (hi.run pins s1 σ H1 _ I1 q1) fun iv s2 ⟨y, H2, I2, ry, D, kvs, k, v, ex, ey, e2, ev, q2⟩ => ?_
  subst ex ey
  cases (show u = Value.ref D from rx)
  obtain ⟨t, rfl⟩ : ∃ t, iv = Value.int k t := ry
  obtain ⟨_, hd, xs, rel, dd⟩ := id_of I2 e2
  refine ⟨dd.typeIs, ?_⟩
  rcases idr_at k rel with ⟨e1, _⟩ | ⟨z', u', e1, e3, rr⟩
  · rw [ev] at e1; cases e1
  · rw [ev] at e1; cases e1
    exact wpAny_getItem_of (knd := PySem.intKind X.prog X.w) (intKind_is X.prog X.w k t) dd.mapOf e3 ⟨_, H2, I2.tok _, rr, q2⟩
theorem ps_dputI (P : Program) (w : World) (ho : PE X o td) (hi : PE X i ty) (hv : PE X value tv) (hs : swapsWith value (some (.Subscript o i pos')) pos.line X.env = pure false) (hP : X.prog = P := by rfl) (hw : X.w = w := by rfl) :
    PS X (.Assign [.Subscript o i pos'] value pos) (sDPutI P w td ty tv) := by
  subst hP hw
  refine ⟨fun pins s σ H D I h => wpAny_Assign_Subscript ?_ hs⟩
  refine thn (hv.run pins s σ H _ I h) fun r s1 ⟨v, H1, I1, rv, q1⟩ => thn (ho.run pins s1 σ H1 _ I1 q1) fun u s2 ⟨x, H2, I2, rx, q2⟩ => ?_
  refine thn (hi.run pins s2 σ H2 _ I2 q2) fun iv s3 ⟨y, H3, I3, ry, d, kvs, k, ex, ey, e3, hz, q3⟩ => ?_
  subst ex ey
  cases (show u = Value.ref d from rx)
  obtain ⟨t, rfl⟩ : ∃ t, iv = Value.int k t := ry
  obtain ⟨z, hd, xs, rel, dd⟩ := id_of I3 e3
  have hx : xs.length ≤ sizeLine := by rw [← Paired.length rel]; exact z
  refine wpAny_setItem_pairs (knd := PySem.intKind X.prog X.w) (hsz := hx) (intKind_is X.prog X.w k t) dd fun h' dd' hs' => ?_
  exact ⟨σ, _, id_write I3 e3 hz hd rel rv dd' hs', q3⟩
end
theorem idO_nt {P : Program} {w : World} {D : Addr} {kvs : List IE} : ∀ ps, idO P w D kvs ≠ .tbl ps := fun _ z => by unfold idO at z; cases z
end DW
namespace K68
open PySem PySem.Spec PyProof.Rows L2 DW
section LT
variable [LamTabs]
/- the words of the walk: "side" an arithmetic side, "r" an operator's data, "c" a call's, "e" anything that is evaluated -/
local macro_rules | `(tactic| walk_at "side") => `(tactic| first | assumption | decide | exact Nat.le_of_ble_eq_true rfl | omega | rfl | skip)
local macro_rules | `(tactic| walk_at "r") => `(tactic| first
  | exact add_i | exact sub_i | (apply mod_i; walk_at "side") | (apply div_i <;> walk_at "side") | (apply mul_i; first | (left; constructor <;> omega) | (right; constructor <;> omega) | skip) | (apply pow_i; first | (refine ⟨?_, ?_, ?_⟩ <;> decide) | skip)
  | exact eq_i | exact ne_i | exact eqP_i | exact neP_i | exact eqP_s | exact neP_s | exact eq_s | exact ne_s | exact eq_b | exact ne_b | exact is_n | exact nis_n | exact is_bb | exact nt_bb
  | exact lt_i | exact le_i | exact gt_i | exact ge_i | exact lt_s | (apply add_s; walk_at "side") | (apply mul_s <;> walk_at "side")
  | (apply in_l <;> walk_at "side") | (apply in_t <;> walk_at "side") | (apply ni_l <;> walk_at "side") | (apply ni_t <;> walk_at "side") | exact in_sg | exact ni_sg
  | (apply eqd <;> walk_at "side") | (apply ned <;> walk_at "side")
  | (apply ix_l; walk_at "side") | (apply ix_t; walk_at "side") | (apply ix_s <;> walk_at "side"))
local macro_rules | `(tactic| walk_at "c") => `(tactic| first | exact len_l | exact len_t | (apply len_s; walk_at "side") | exact int_i | exact max_i | exact min_i | exact minL_i)
local macro_rules | `(tactic| walk_at "e") => `(tactic| first
  | exact e_var rfl | exact e_int | exact e_str | exact e_bl | exact e_non | exact b_ow rfl | exact a_nil | exact ab_nil | exact ax_nil | exact o_none
  | ((with_reducible apply a_cons); walk_at "e"; walk_at "e") | ((with_reducible apply ab_cons); walk_at "e"; walk_at "e")
  | ((with_reducible apply ax_d); walk_at "e"; walk_at "e") | ((with_reducible apply ax_k); rfl; walk_at "e")
  | ((with_reducible apply e_ixo); rfl; walk_at "e"; walk_at "side")
  | ((with_reducible apply e_op); walk_at "e"; walk_at "e"; walk_at "r")
  | ((with_reducible apply b_op); walk_at "e"; walk_at "e"; walk_at "r"; rfl)
  | ((with_reducible apply b_cb); walk_at "e"; walk_at "c"; rfl)
  | ((with_reducible apply e_neg); walk_at "e")
  | ((with_reducible apply e_isiI); walk_at "e") | ((with_reducible apply e_isiIb); walk_at "e") | ((with_reducible apply e_isiBb); walk_at "e") | ((with_reducible apply e_isiL); walk_at "e") | ((with_reducible apply e_isiT); walk_at "e")
  | ((with_reducible apply e_notT); walk_at "e"; rfl) | ((with_reducible apply t_tru); walk_at "e"; rfl)
  | ((with_reducible apply e_andV); walk_at "e"; intro _; walk_at "e") | ((with_reducible apply t_and); walk_at "e"; intro _; walk_at "e") | ((with_reducible apply t_or); walk_at "e"; intro _; walk_at "e")
  | ((with_reducible apply e_chain); walk_at "e"; walk_at "e"; (intro _; walk_at "e"); walk_at "r"; (intro _; walk_at "r"))
  | ((with_reducible apply t_test); walk_at "e") | ((with_reducible apply t_not); walk_at "e")
  | ((with_reducible apply e_tup); walk_at "e"; walk_at "side") | ((with_reducible apply el_lst); walk_at "e"; walk_at "side")
  | ((with_reducible apply e_minD); walk_at "e")
  | ((with_reducible apply o_some); walk_at "e")
  | ((with_reducible apply b_of); walk_at "e"))
local macro_rules | `(tactic| walk_at "w") => `(tactic| repeat (first | exact Wk.nil | (apply Wk.keep; with_reducible rfl) | apply Wk.drop))
/-! ### the draws of a cell -/
def dg (rest : Int) : Nat → List Int × Int
  | 0 => ([], rest)
  | n + 1 => if 0 < (dg rest n).2 then ((dg rest n).1 ++ [(dg rest n).2 % 1000], (dg rest n).2 / 1000) else dg rest n
def dgs (c : Int) (m : Nat) : List Int := if 1000000000000000000 ≤ c then (dg c m).1 else []
def st0 (c : Int) : Int := (c * 48271 + 11) % 2147483647
def stN (c : Int) : Nat → Int
  | 0 => st0 c
  | n + 1 => (stN c n * 48271 + (n : Int) * 69621 + 7) % 2147483647
def mx (c : Int) (m : Nat) : Nat → List Int
  | 0 => dgs c m
  | n + 1 => if ((mx c m n).length : Int) < m then mx c m n ++ [(stN c (n + 1) * 69621 + 5) % 2147483629 % 1000] else mx c m n
def draws (c : Int) (m : Nat) : List Int := mx c m m
theorem dg_len (c : Int) : ∀ n, (dg c n).1.length ≤ n
  | 0 => Nat.le_refl _
  | n + 1 => by
    have := dg_len c n
    unfold dg
    split
    · rw [List.length_append]; exact Nat.succ_le_succ this
    · omega
theorem dgs_len (c : Int) (m : Nat) : (dgs c m).length ≤ m := by
  unfold dgs
  split
  · exact dg_len c m
  · exact Nat.zero_le _
theorem mx_len (c : Int) (m : Nat) : ∀ n, (mx c m n).length ≤ m ∧ min m n ≤ (mx c m n).length
  | 0 => ⟨dgs_len c m, by omega⟩
  | n + 1 => by
    have := mx_len c m n
    unfold mx
    split
    · rw [List.length_append]; show _ + 1 ≤ m ∧ _ ≤ _ + 1; omega
    · omega
theorem draws_len (c : Int) (m : Nat) : (draws c m).length = m := by
  have := mx_len c m m
  unfold draws
  omega
theorem m1000 (z : Int) : 0 ≤ z % 1000 ∧ z % 1000 < 1000 := ⟨Int.emod_nonneg _ (by decide), Int.emod_lt_of_pos _ (by decide)⟩
theorem dg_mem (c : Int) : ∀ n, ∀ z ∈ (dg c n).1, 0 ≤ z ∧ z < 1000
  | 0 => fun z h => by cases h
  | n + 1 => fun z h => by
    unfold dg at h
    split at h
    · rcases List.mem_append.mp h with h | h
      · exact dg_mem c n z h
      · rw [List.mem_singleton.mp h]; exact m1000 _
    · exact dg_mem c n z h
theorem mx_mem (c : Int) (m : Nat) : ∀ n, ∀ z ∈ mx c m n, 0 ≤ z ∧ z < 1000
  | 0 => fun z h => by
    unfold mx dgs at h
    split at h
    · exact dg_mem c m z h
    · cases h
  | n + 1 => fun z h => by
    unfold mx at h
    split at h
    · rcases List.mem_append.mp h with h | h
      · exact mx_mem c m n z h
      · rw [List.mem_singleton.mp h]; exact m1000 _
    · exact mx_mem c m n z h
theorem draws_mem {c : Int} {m : Nat} {z : Int} (h : z ∈ draws c m) : 0 ≤ z ∧ z < 1000 := mx_mem c m m z h
theorem stN_bd (c : Int) : ∀ n, 0 ≤ stN c n ∧ stN c n < 2147483647
  | 0 => ⟨Int.emod_nonneg _ (by decide), Int.emod_lt_of_pos _ (by decide)⟩
  | n + 1 => ⟨Int.emod_nonneg _ (by decide), Int.emod_lt_of_pos _ (by decide)⟩
/-! ### data -/
abbrev iL (xs : List Int) : PyData := .list (xs.map .int)
abbrev sL (ns : List Str) : PyData := .list (ns.map .str)
abbrev prD (p : Str × Str) : PyData := .tuple [.str p.1, .str p.2]
abbrev lbD (L : List (Str × Str)) : PyData := .tuple (L.map prD)
def itI (xs : List Int) (k : Int) : Int := xs.getD k.toNat 0
def itS (ns : List Str) (k : Int) : Str := ns.getD k.toNat Str.empty
theorem at_nat {α : Type} {xs : List α} {k : Int} (h0 : 0 ≤ k) (h1 : k.toNat < xs.length) : atI xs k = xs[k.toNat]? := by
  obtain ⟨n, rfl⟩ := Int.eq_ofNat_of_zero_le h0
  have h2 : n < xs.length := h1
  rw [atI_nat (List.getElem?_eq_getElem h2)]
  exact (List.getElem?_eq_getElem h2).symm
theorem at_int {xs : List Int} {k : Int} (h0 : 0 ≤ k) (h1 : k < xs.length) : atI (xs.map PyData.int) k = some (.int (itI xs k)) := by
  rw [at_nat h0 (by rw [List.length_map]; omega), List.getElem?_map]
  unfold itI
  rw [List.getD_eq_getElem?_getD, List.getElem?_eq_getElem (by omega)]; rfl
theorem at_str {xs : List Str} {k : Int} (h0 : 0 ≤ k) (h1 : k < xs.length) : atI (xs.map PyData.str) k = some (.str (itS xs k)) := by
  rw [at_nat h0 (by rw [List.length_map]; omega), List.getElem?_map]
  unfold itS
  rw [List.getD_eq_getElem?_getD, List.getElem?_eq_getElem (by omega)]; rfl
/-- a sign of a text -/
def sg (s : Str) (k : Int) : Str := ⟨#[s.cps.toList.getD k.toNat 0]⟩
theorem at_sg {s : Str} {k : Int} (h0 : 0 ≤ k) (h1 : k < s.cps.toList.length) : atI s.cps.toList k = some (s.cps.toList.getD k.toNat 0) := by
  rw [at_nat h0 (by omega), List.getD_eq_getElem?_getD, List.getElem?_eq_getElem (by omega)]; rfl
theorem sg_len (s : Str) (k : Int) : (sg s k).length = 1 := rfl
theorem add_len (a b : Str) : (a ++ b).length = a.length + b.length := by
  show (a.cps ++ b.cps).size = _
  rw [Array.size_append]; rfl
theorem md (a b : Int) (h : 0 < b) : 0 ≤ a % b ∧ a % b < b := ⟨Int.emod_nonneg _ (by omega), Int.emod_lt_of_pos _ h⟩
/-! names, worths -/
def LT2 : Str := "0123456789_abcdefghijklmnopqrstuvwxyz"
def topS (i : Nat) : Stmt := PySem.Challenge.pw_watchfloor_k68_analysis_forced_by_ticks.main.body.getD i (.Pass ⟨0, 0, 0, 0⟩)
def clsB : Stmt → List Stmt
  | .ClassDef (body := b) .. => b
  | _ => []
abbrev clsS (i j : Nat) : Stmt := (clsB (topS i)).getD j (.Pass ⟨0, 0, 0, 0⟩)
abbrev s_is_name : Stmt := topS 9
abbrev N_is_name : List Str := ["text"]
theorem sc_is_name : FnScope N_is_name ["text"] (defScope s_is_name) := ⟨rfl, rfl, rfl, by decide +kernel, rfl, by decide +kernel, by decide +kernel⟩
abbrev s_is_value : Stmt := topS 10
abbrev N_is_value : List Str := ["text", "character"]
theorem sc_is_value : FnScope N_is_value ["text"] (defScope s_is_value) := ⟨rfl, rfl, rfl, by decide +kernel, rfl, by decide +kernel, by decide +kernel⟩
abbrev s_is_matcher : Stmt := topS 12
abbrev N_is_matcher : List Str := ["matcher", "name", "values", "_", "value"]
theorem sc_is_matcher : FnScope N_is_matcher ["matcher"] (defScope s_is_matcher) := ⟨rfl, rfl, rfl, by decide +kernel, rfl, by decide +kernel, by decide +kernel⟩
abbrev s_is_duration : Stmt := topS 38
abbrev N_is_duration : List Str := ["number"]
theorem sc_is_duration : FnScope N_is_duration ["number"] (defScope s_is_duration) := ⟨rfl, rfl, rfl, by decide +kernel, rfl, by decide +kernel, by decide +kernel⟩
abbrev s_is_person : Stmt := topS 39
abbrev N_is_person : List Str := ["person", "_", "channels"]
theorem sc_is_person : FnScope N_is_person ["person"] (defScope s_is_person) := ⟨rfl, rfl, rfl, by decide +kernel, rfl, by decide +kernel, by decide +kernel⟩
abbrev s_is_span : Stmt := topS 40
abbrev N_is_span : List Str := ["week", "span", "first", "last"]
theorem sc_is_span : FnScope N_is_span ["week", "span"] (defScope s_is_span) := ⟨rfl, rfl, rfl, by decide +kernel, rfl, by decide +kernel, by decide +kernel⟩
abbrev s_is_layer : Stmt := topS 41
abbrev N_is_layer : List Str := ["week", "persons", "layer", "members", "start", "shift", "spans", "member", "span"]
theorem sc_is_layer : FnScope N_is_layer ["week", "persons", "layer"] (defScope s_is_layer) := ⟨rfl, rfl, rfl, by decide +kernel, rfl, by decide +kernel, by decide +kernel⟩
abbrev s_is_standin : Stmt := topS 42
abbrev N_is_standin : List Str := ["persons", "standin", "first", "last", "person"]
theorem sc_is_standin : FnScope N_is_standin ["persons", "standin"] (defScope s_is_standin) := ⟨rfl, rfl, rfl, by decide +kernel, rfl, by decide +kernel, by decide +kernel⟩
abbrev s_is_schedule : Stmt := topS 43
abbrev N_is_schedule : List Str := ["week", "persons", "schedule", "_", "layers", "standins", "layer", "standin"]
theorem sc_is_schedule : FnScope N_is_schedule ["week", "persons", "schedule"] (defScope s_is_schedule) := ⟨rfl, rfl, rfl, by decide +kernel, rfl, by decide +kernel, by decide +kernel⟩
abbrev s_is_policy : Stmt := topS 44
abbrev N_is_policy : List Str := ["schedules", "policy", "_", "levels", "schedule", "after"]
theorem sc_is_policy : FnScope N_is_policy ["schedules", "policy"] (defScope s_is_policy) := ⟨rfl, rfl, rfl, by decide +kernel, rfl, by decide +kernel, by decide +kernel⟩
abbrev s_is_window : Stmt := topS 45
abbrev N_is_window : List Str := ["week", "window", "_", "spans", "span"]
theorem sc_is_window : FnScope N_is_window ["week", "window"] (defScope s_is_window) := ⟨rfl, rfl, rfl, by decide +kernel, rfl, by decide +kernel, by decide +kernel⟩
abbrev s_is_route : Stmt := topS 46
abbrev N_is_route : List Str := ["place", "windows", "policies", "route", "parent", "matchers", "settings"]
theorem sc_is_route : FnScope N_is_route ["place", "windows", "policies", "route"] (defScope s_is_route) := ⟨rfl, rfl, rfl, by decide +kernel, rfl, by decide +kernel, by decide +kernel⟩
abbrev s_are_settings : Stmt := topS 47
abbrev N_are_settings : List Str := ["windows", "policies", "settings", "group", "wait", "interval", "again", "mutes", "policy", "mute"]
theorem sc_are_settings : FnScope N_are_settings ["windows", "policies", "settings"] (defScope s_are_settings) := ⟨rfl, rfl, rfl, by decide +kernel, rfl, by decide +kernel, by decide +kernel⟩
abbrev s_are_matchers : Stmt := topS 48
abbrev N_are_matchers : List Str := ["matchers", "matcher"]
theorem sc_are_matchers : FnScope N_are_matchers ["matchers"] (defScope s_are_matchers) := ⟨rfl, rfl, rfl, by decide +kernel, rfl, by decide +kernel, by decide +kernel⟩
abbrev s_are_names : Stmt := topS 49
abbrev N_are_names : List Str := ["names", "name"]
theorem sc_are_names : FnScope N_are_names ["names"] (defScope s_are_names) := ⟨rfl, rfl, rfl, by decide +kernel, rfl, by decide +kernel, by decide +kernel⟩
abbrev s_is_holdback : Stmt := topS 50
abbrev N_is_holdback : List Str := ["holdback", "source", "target", "equal"]
theorem sc_is_holdback : FnScope N_is_holdback ["holdback"] (defScope s_is_holdback) := ⟨rfl, rfl, rfl, by decide +kernel, rfl, by decide +kernel, by decide +kernel⟩
abbrev s_is_store : Stmt := topS 53
abbrev N_is_store : List Str := ["store", "lateness", "span", "factor", "levels"]
theorem sc_is_store : FnScope N_is_store ["store"] (defScope s_is_store) := ⟨rfl, rfl, rfl, by decide +kernel, rfl, by decide +kernel, by decide +kernel⟩
abbrev s_Setup_init : Stmt := clsS 57 0
abbrev N_Setup_init : List Str := ["self", "week", "people", "schedules", "policies", "windows", "routes", "holdbacks", "groups", "replicas", "pause", "down", "store", "lookback"]
theorem sc_Setup_init : FnScope N_Setup_init ["self", "week", "people", "schedules", "policies", "windows", "routes", "holdbacks", "groups", "replicas", "pause", "down", "store", "lookback"] (defScope s_Setup_init) := ⟨rfl, rfl, rfl, by decide +kernel, rfl, by decide +kernel, by decide +kernel⟩
abbrev s_setup : Stmt := topS 58
abbrev N_setup : List Str := ["week", "people", "schedules", "policies", "windows", "routes", "holdbacks", "groups", "replicas", "pause", "down", "store", "lookback", "made"]
theorem sc_setup : FnScope N_setup ["week", "people", "schedules", "policies", "windows", "routes", "holdbacks", "groups", "replicas", "pause", "down", "store", "lookback"] (defScope s_setup) := ⟨rfl, rfl, rfl, by decide +kernel, rfl, by decide +kernel, by decide +kernel⟩
abbrev s_check_people : Stmt := topS 59
abbrev N_check_people : List Str := ["made", "persons", "schedules"]
theorem sc_check_people : FnScope N_check_people ["made"] (defScope s_check_people) := ⟨rfl, rfl, rfl, by decide +kernel, rfl, by decide +kernel, by decide +kernel⟩
abbrev s_check_alerts : Stmt := topS 60
abbrev N_check_alerts : List Str := ["made", "windows", "policies", "place", "route", "holdback"]
theorem sc_check_alerts : FnScope N_check_alerts ["made"] (defScope s_check_alerts) := ⟨rfl, rfl, rfl, by decide +kernel, rfl, by decide +kernel, by decide +kernel⟩
abbrev s_check_alone : Stmt := topS 61
abbrev N_check_alone : List Str := ["part", "right"]
theorem sc_check_alone : FnScope N_check_alone ["part", "right"] (defScope s_check_alone) := ⟨rfl, rfl, rfl, by decide +kernel, rfl, by decide +kernel, by decide +kernel⟩
abbrev s_check_named : Stmt := topS 62
abbrev N_check_named : List Str := ["part", "entries", "is_right", "earlier", "place", "entry", "name"]
theorem sc_check_named : FnScope N_check_named ["part", "entries", "is_right"] (defScope s_check_named) := ⟨rfl, rfl, rfl, by decide +kernel, rfl, by decide +kernel, by decide +kernel⟩
abbrev s_names_of : Stmt := topS 63
abbrev N_names_of : List Str := ["entries", "entry"]
theorem sc_names_of : FnScope N_names_of ["entries"] (defScope s_names_of) := ⟨rfl, rfl, rfl, by decide +kernel, rfl, by decide +kernel, by decide +kernel⟩
abbrev s_entry_of : Stmt := topS 64
abbrev N_entry_of : List Str := ["entries", "name", "word", "entry"]
theorem sc_entry_of : FnScope N_entry_of ["entries", "name", "word"] (defScope s_entry_of) := ⟨rfl, rfl, rfl, by decide +kernel, rfl, by decide +kernel, by decide +kernel⟩
abbrev s_window_of : Stmt := topS 65
abbrev N_window_of : List Str := ["made", "name"]
theorem sc_window_of : FnScope N_window_of ["made", "name"] (defScope s_window_of) := ⟨rfl, rfl, rfl, by decide +kernel, rfl, by decide +kernel, by decide +kernel⟩
abbrev s_spans_of : Stmt := topS 67
abbrev N_spans_of : List Str := ["setup", "mutes", "name", "span"]
theorem sc_spans_of : FnScope N_spans_of ["setup", "mutes"] (defScope s_spans_of) := ⟨rfl, rfl, rfl, by decide +kernel, rfl, by decide +kernel, by decide +kernel⟩
abbrev s_unmuted_from : Stmt := topS 68
abbrev N_unmuted_from : List Str := ["setup", "mutes", "time", "spans", "found", "at", "ends", "first", "last"]
theorem sc_unmuted_from : FnScope N_unmuted_from ["setup", "mutes", "time"] (defScope s_unmuted_from) := ⟨rfl, rfl, rfl, by decide +kernel, rfl, by decide +kernel, by decide +kernel⟩
abbrev s_Forcing_init : Stmt := clsS 70 0
abbrev N_Forcing_init : List Str := ["self", "setup", "settings"]
theorem sc_Forcing_init : FnScope N_Forcing_init ["self", "setup", "settings"] (defScope s_Forcing_init) := ⟨rfl, rfl, rfl, by decide +kernel, rfl, by decide +kernel, by decide +kernel⟩
abbrev s_Forcing_free_from : Stmt := clsS 70 1
abbrev N_Forcing_free_from : List Str := ["self", "time", "at", "end"]
theorem sc_Forcing_free_from : FnScope N_Forcing_free_from ["self", "time"] (defScope s_Forcing_free_from) := ⟨rfl, rfl, rfl, by decide +kernel, rfl, by decide +kernel, by decide +kernel⟩
abbrev s_Forcing_forced_from : Stmt := clsS 70 2
abbrev N_Forcing_forced_from : List Str := ["self", "due", "first"]
theorem sc_Forcing_forced_from : FnScope N_Forcing_forced_from ["self", "due", "first"] (defScope s_Forcing_forced_from) := ⟨rfl, rfl, rfl, by decide +kernel, rfl, by decide +kernel, by decide +kernel⟩
abbrev s_Forcing_is_forced : Stmt := clsS 70 3
abbrev N_Forcing_is_forced : List Str := ["self", "due", "first", "last", "forced"]
theorem sc_Forcing_is_forced : FnScope N_Forcing_is_forced ["self", "due", "first", "last"] (defScope s_Forcing_is_forced) := ⟨rfl, rfl, rfl, by decide +kernel, rfl, by decide +kernel, by decide +kernel⟩
abbrev s_slack : Stmt := topS 71
abbrev N_slack : List Str := ["setup"]
theorem sc_slack : FnScope N_slack ["setup"] (defScope s_slack) := ⟨rfl, rfl, rfl, by decide +kernel, rfl, by decide +kernel, by decide +kernel⟩
abbrev s_is_forced : Stmt := topS 72
abbrev N_is_forced : List Str := ["setup", "settings", "due", "first", "last"]
theorem sc_is_forced : FnScope N_is_forced ["setup", "settings", "due", "first", "last"] (defScope s_is_forced) := ⟨rfl, rfl, rfl, by decide +kernel, rfl, by decide +kernel, by decide +kernel⟩
abbrev s_l_law_cell : Stmt := topS 74
abbrev N_l_law_cell : List Str := ["_law_script_here", "_law_k"]
theorem sc_l_law_cell : FnScope N_l_law_cell ["_law_script_here", "_law_k"] (defScope s_l_law_cell) := ⟨rfl, rfl, rfl, by decide +kernel, rfl, by decide +kernel, by decide +kernel⟩
abbrev s_l_law_draws : Stmt := topS 75
abbrev N_l_law_draws : List Str := ["_law_cell_here", "_law_many", "_law_rows", "_law_rest", "_law_k", "_law_state"]
theorem sc_l_law_draws : FnScope N_l_law_draws ["_law_cell_here", "_law_many"] (defScope s_l_law_draws) := ⟨rfl, rfl, rfl, by decide +kernel, rfl, by decide +kernel, by decide +kernel⟩
abbrev s_l_law_same : Stmt := topS 76
abbrev N_l_law_same : List Str := ["_law_told", "_law_due_here", "_law_k"]
theorem sc_l_law_same : FnScope N_l_law_same ["_law_told", "_law_due_here"] (defScope s_l_law_same) := ⟨rfl, rfl, rfl, by decide +kernel, rfl, by decide +kernel, by decide +kernel⟩
abbrev s_l_law_words : Stmt := topS 77
abbrev N_l_law_words : List Str := ["_law_cell_here", "_law_many", "_law_letters", "_law_place", "_law_k"]
theorem sc_l_law_words : FnScope N_l_law_words ["_law_cell_here", "_law_many"] (defScope s_l_law_words) := ⟨rfl, rfl, rfl, by decide +kernel, rfl, by decide +kernel, by decide +kernel⟩
abbrev s_l_law_worths : Stmt := topS 78
abbrev N_l_law_worths : List Str := ["_law_cell_here", "_law_many", "_law_letters", "_law_place", "_law_k"]
theorem sc_l_law_worths : FnScope N_l_law_worths ["_law_cell_here", "_law_many"] (defScope s_l_law_worths) := ⟨rfl, rfl, rfl, by decide +kernel, rfl, by decide +kernel, by decide +kernel⟩
abbrev s_l_law_labels : Stmt := topS 79
abbrev N_l_law_labels : List Str := ["_law_draws_here", "_law_names", "_law_worths_here", "_law_pairs", "_law_used", "_law_k", "_law_name"]
theorem sc_l_law_labels : FnScope N_l_law_labels ["_law_draws_here", "_law_names", "_law_worths_here"] (defScope s_l_law_labels) := ⟨rfl, rfl, rfl, by decide +kernel, rfl, by decide +kernel, by decide +kernel⟩
abbrev s_l_law_matcher : Stmt := topS 80
abbrev N_l_law_matcher : List Str := ["_law_first", "_law_second", "_law_names", "_law_worths_here", "_law_many", "_law_values"]
theorem sc_l_law_matcher : FnScope N_l_law_matcher ["_law_first", "_law_second", "_law_names", "_law_worths_here"] (defScope s_l_law_matcher) := ⟨rfl, rfl, rfl, by decide +kernel, rfl, by decide +kernel, by decide +kernel⟩
abbrev s_l_law_value : Stmt := topS 81
abbrev N_l_law_value : List Str := ["_law_labels_here", "_law_name", "_law_pair"]
theorem sc_l_law_value : FnScope N_l_law_value ["_law_labels_here", "_law_name"] (defScope s_l_law_value) := ⟨rfl, rfl, rfl, by decide +kernel, rfl, by decide +kernel, by decide +kernel⟩
abbrev s_l_law_matches : Stmt := topS 82
abbrev N_l_law_matches : List Str := ["_law_matchers", "_law_labels_here", "_law_name", "_law_values", "_law_inside"]
theorem sc_l_law_matches : FnScope N_l_law_matches ["_law_matchers", "_law_labels_here"] (defScope s_l_law_matches) := ⟨rfl, rfl, rfl, by decide +kernel, rfl, by decide +kernel, by decide +kernel⟩
abbrev s_l_law_way : Stmt := topS 83
abbrev N_l_law_way : List Str := ["_law_tree", "_law_labels_here", "_law_way_here", "_law_turn", "_law_found", "_law_k"]
theorem sc_l_law_way : FnScope N_l_law_way ["_law_tree", "_law_labels_here"] (defScope s_l_law_way) := ⟨rfl, rfl, rfl, by decide +kernel, rfl, by decide +kernel, by decide +kernel⟩
abbrev s_l_law_route : Stmt := topS 84
abbrev N_l_law_route : List Str := ["_law_cell_here", "_law_place", "_law_names", "_law_worths_here", "_law_ladders", "_law_shutters", "_law_draws_here", "_law_parent", "_law_matchers", "_law_k", "_law_group", "_law_interval", "_law_again", "_law_mutes", "_law_policy"]
theorem sc_l_law_route : FnScope N_l_law_route ["_law_cell_here", "_law_place", "_law_names", "_law_worths_here", "_law_ladders", "_law_shutters"] (defScope s_l_law_route) := ⟨rfl, rfl, rfl, by decide +kernel, rfl, by decide +kernel, by decide +kernel⟩
abbrev s_l_law_layer : Stmt := topS 85
abbrev N_l_law_layer : List Str := ["_law_part", "_law_crew", "_law_days", "_law_members", "_law_spans", "_law_k", "_law_first", "_law_j"]
theorem sc_l_law_layer : FnScope N_l_law_layer ["_law_part", "_law_crew", "_law_days"] (defScope s_l_law_layer) := ⟨rfl, rfl, rfl, by decide +kernel, rfl, by decide +kernel, by decide +kernel⟩
abbrev s_l_law_rota : Stmt := topS 86
abbrev N_l_law_rota : List Str := ["_law_cell_here", "_law_name", "_law_crew", "_law_days", "_law_draws_here", "_law_layers", "_law_k", "_law_standins", "_law_first"]
theorem sc_l_law_rota : FnScope N_l_law_rota ["_law_cell_here", "_law_name", "_law_crew", "_law_days"] (defScope s_l_law_rota) := ⟨rfl, rfl, rfl, by decide +kernel, rfl, by decide +kernel, by decide +kernel⟩
abbrev s_l_law_setup : Stmt := topS 88
abbrev N_l_law_setup : List Str := ["_law_days", "_law_staff", "_law_rotas", "_law_ladders", "_law_shutters", "_law_tree", "_law_holds_here", "_law_books", "_law_numbers"]
theorem sc_l_law_setup : FnScope N_l_law_setup ["_law_days", "_law_staff", "_law_rotas", "_law_ladders", "_law_shutters", "_law_tree", "_law_holds_here", "_law_books", "_law_numbers"] (defScope s_l_law_setup) := ⟨rfl, rfl, rfl, by decide +kernel, rfl, by decide +kernel, by decide +kernel⟩
abbrev s_l_law_ladder : Stmt := topS 89
abbrev N_l_law_ladder : List Str := ["_law_draws_here", "_law_name", "_law_titles", "_law_levels", "_law_k"]
theorem sc_l_law_ladder : FnScope N_l_law_ladder ["_law_draws_here", "_law_name", "_law_titles"] (defScope s_l_law_ladder) := ⟨rfl, rfl, rfl, by decide +kernel, rfl, by decide +kernel, by decide +kernel⟩
abbrev s_l_law_shutter : Stmt := topS 90
abbrev N_l_law_shutter : List Str := ["_law_draws_here", "_law_name", "_law_days", "_law_spans", "_law_k", "_law_first"]
theorem sc_l_law_shutter : FnScope N_l_law_shutter ["_law_draws_here", "_law_name", "_law_days"] (defScope s_l_law_shutter) := ⟨rfl, rfl, rfl, by decide +kernel, rfl, by decide +kernel, by decide +kernel⟩
abbrev s_l_law_holds : Stmt := topS 91
abbrev N_l_law_holds : List Str := ["_law_cell_here", "_law_names", "_law_worths_here", "_law_draws_here", "_law_holds_here", "_law_k", "_law_part", "_law_source", "_law_target", "_law_equal", "_law_j"]
theorem sc_l_law_holds : FnScope N_l_law_holds ["_law_cell_here", "_law_names", "_law_worths_here"] (defScope s_l_law_holds) := ⟨rfl, rfl, rfl, by decide +kernel, rfl, by decide +kernel, by decide +kernel⟩
abbrev s_l_law_world : Stmt := topS 92
abbrev N_l_law_world : List Str := ["_law_script_here", "_law_words_here", "_law_names", "_law_worths_here", "_law_draws_here", "_law_days", "_law_staff", "_law_crew", "_law_titles", "_law_rotas", "_law_steps", "_law_ladders", "_law_bars", "_law_shutters", "_law_tree", "_law_k", "_law_holds_here", "_law_numbers", "_law_made", "_law_person", "_law_shutter_here", "_law_ladder_here"]
theorem sc_l_law_world : FnScope N_l_law_world ["_law_script_here"] (defScope s_l_law_world) := ⟨rfl, rfl, rfl, by decide +kernel, rfl, by decide +kernel, by decide +kernel⟩
abbrev s_l_law_muted : Stmt := topS 94
abbrev N_l_law_muted : List Str := ["_law_made", "_law_mutes", "_law_time", "_law_name", "_law_spans", "_law_first", "_law_last"]
theorem sc_l_law_muted : FnScope N_l_law_muted ["_law_made", "_law_mutes", "_law_time"] (defScope s_l_law_muted) := ⟨rfl, rfl, rfl, by decide +kernel, rfl, by decide +kernel, by decide +kernel⟩
abbrev s_l_law_slack : Stmt := topS 95
abbrev N_l_law_slack : List Str := ["_law_made"]
theorem sc_l_law_slack : FnScope N_l_law_slack ["_law_made"] (defScope s_l_law_slack) := ⟨rfl, rfl, rfl, by decide +kernel, rfl, by decide +kernel, by decide +kernel⟩
abbrev s_l_law_forced : Stmt := topS 96
abbrev N_l_law_forced : List Str := ["_law_made", "_law_settings", "_law_due_here", "_law_first", "_law_last", "_law_time"]
theorem sc_l_law_forced : FnScope N_l_law_forced ["_law_made", "_law_settings", "_law_due_here", "_law_first", "_law_last"] (defScope s_l_law_forced) := ⟨rfl, rfl, rfl, by decide +kernel, rfl, by decide +kernel, by decide +kernel⟩
abbrev s_l_law_case : Stmt := topS 106
abbrev N_l_law_case : List Str := ["_law_script_here", "_law_made", "_law_names", "_law_worths_here", "_law_draws_here", "_law_labels_here", "_law_settings"]
theorem sc_l_law_case : FnScope N_l_law_case ["_law_script_here"] (defScope s_l_law_case) := ⟨rfl, rfl, rfl, by decide +kernel, rfl, by decide +kernel, by decide +kernel⟩
abbrev s_law : Stmt := topS 107
abbrev N_law : List Str := ["_law_script_here", "_law_made", "_law_labels_here", "_law_settings", "_law_start", "_law_limit", "_law_cell_here", "_law_draws_here", "_law_other", "_law_first", "_law_told"]
theorem sc_law : FnScope N_law ["_law_script_here"] (defScope s_law) := ⟨rfl, rfl, rfl, by decide +kernel, rfl, by decide +kernel, by decide +kernel⟩
section
variable {P : Program} {w : World} {K : PySem.W.Frag} {mg : Str → Option Value} {base : Heap} {f : Addr} {fd : FuncData} {Tb : List Addr} {k : Nat}
def R_draws : List PyData → PyData → Prop := fun ds d => ∃ (c : Int) (m : Nat), ds = [.int c, .int m] ∧ m ≤ 1000 ∧ d = .list ((draws c m).map .int)
theorem ok_draws (Fn : Fun K "_law_draws" "_law_draws" s_l_law_draws f fd) (hm : mg "_law_draws" = some (.ref f)) (hb : Binds K fd ["_law_cell_here", "_law_many"] []) (Z : Zb mg) :
    Df P w K mg base 1 "_law_draws" ["_law_cell_here", "_law_many"] (spD K Tb R_draws) := by
  refine df_D Fn sc_l_law_draws hm hb (fun ds d h => by obtain ⟨c, m, rfl, _⟩ := h; rfl) fun cdv A outer s H Ek hr => ⟨_, (pss_cons (ps_set (i := 2) sc_l_law_draws.nd rfl (by first | exact .inl rfl | exact .inr rfl) (pe_lst pa_nil))
      (pss_cons (ps_set (i := 3) sc_l_law_draws.nd rfl (by first | exact .inl rfl | exact .inr rfl) (pe_callTy uInt (by rfl) Z.int (by decide +kernel) (pa_cons (pv 0) pa_nil)))
      (Evl.pss_cut (ps_if (pt_cmpR op_ge (pv 3) (pe_op op_pow pe_int pe_int) (nomark _)) (pss_one (ps_for PassesOwn.never rfl (pi_range1 (by rfl) Z.range (pa_cons (pv 1) pa_nil)) (pg_name (i := 4) sc_l_law_draws.nd rfl (by first | exact .inl rfl | exact .inr rfl)) (pss_one (ps_if (pt_cmpR op_gt (pv 3) pe_int (nomark _)) (pss_cons (ps_expr (pe_bm PySem.F.plainAttrs_list PySem.F.slot_list_append PySem.F.type_list_append mt_append (pv 2) (pa_cons (pe_op op_mod (pe_callTy uInt (by rfl) Z.int (by decide +kernel) (pa_cons (pv 3) pa_nil)) pe_int) pa_nil)))
      (pss_one (ps_set (i := 3) sc_l_law_draws.nd rfl (by first | exact .inl rfl | exact .inr rfl) (pe_op op_fdiv (pv 3) pe_int)))) pss_nil)))) pss_nil)
      (pss_cons (ps_set (i := 5) sc_l_law_draws.nd rfl (by first | exact .inl rfl | exact .inr rfl) (pe_op op_mod (pe_callTy uInt (by rfl) Z.int (by decide +kernel) (pa_cons (pe_op (uAddK K) (pe_op uMul (pe_callTy uInt (by rfl) Z.int (by decide +kernel) (pa_cons (pv 0) pa_nil)) pe_int) pe_int) pa_nil)) pe_int))
      (pss_cons (ps_for PassesOwn.never rfl (pi_range1 (by rfl) Z.range (pa_cons (pv 1) pa_nil)) (pg_name (i := 4) sc_l_law_draws.nd rfl (by first | exact .inl rfl | exact .inr rfl)) (pss_cons (ps_set (i := 5) sc_l_law_draws.nd rfl (by first | exact .inl rfl | exact .inr rfl) (pe_op op_mod (pe_callTy uInt (by rfl) Z.int (by decide +kernel) (pa_cons (pe_op (uAddK K) (pe_op (uAddK K) (pe_op uMul (pv 5) pe_int) (pe_op uMul (pv 4) pe_int)) pe_int) pa_nil)) pe_int))
      (pss_one (ps_if (pt_cmpR uLt (pe_callB (uLenK K) (by rfl) Z.len (by decide +kernel) (pa_cons (pv 2) pa_nil)) (pv 1) (nomark _)) (pss_one (ps_expr (pe_bm PySem.F.plainAttrs_list PySem.F.slot_list_append PySem.F.type_list_append mt_append (pv 2) (pa_cons (pe_op op_mod (pe_callTy uInt (by rfl) Z.int (by decide +kernel) (pa_cons (pe_op op_mod (pe_callTy uInt (by rfl) Z.int (by decide +kernel) (pa_cons (pe_op (uAddK K) (pe_op uMul (pv 5) pe_int) pe_int) pa_nil)) pe_int) pa_nil)) pe_int) pa_nil)))) pss_nil))))
      (pss_one (ps_ret (pv 2)))))))), fun ds d F0 H0 Q r rt => ?_⟩
  obtain ⟨c, m, rfl, hm, rfl⟩ := r
  have e18 : ((10 : Int) ^ (18 : Int).toNat) = 1000000000000000000 := by decide
  refine q_asgL (el_lst a_nil (by decide)) ?_
  refine q_asg (d := .int c) ?_ ?_
  · walk_at "e"
  -- the digits
  refine s_cutA (fun r0 : Int => [.fz (.int c), .fz (.int m), .ow ((dgs c m).map .int), .fz (.int r0), .un, .un]) (fun _ => True) ?_ fun r0 _ => ?_
  · refine s_if (b := decide (1000000000000000000 ≤ c)) ?_ (fun hb => ?_) fun hb => ?_
    · walk_at "e"
    · let Iv : Nat → List Sl := fun i => [.fz (.int c), .fz (.int m), .ow ((dg c i).1.map .int), .fz (.int (dg c i).2), .un, .un]
      refine s_for1 Iv (it_rng1 (n := (m : Int)) ?_ (by omega) (by omega)) (Wk.refl _) (fun F1 i d hd => ?_) ?_
      · walk_at "e"
      · obtain ⟨hi, rfl⟩ := rngD_get hd
        refine ⟨_, _, g_name, ?_⟩
        refine s_if (b := decide (0 < (dg c i).2)) ?_ (fun h => ?_) fun h => ?_
        · walk_at "e"
        · have e : dg c (i + 1) = ((dg c i).1 ++ [(dg c i).2 % 1000], (dg c i).2 / 1000) := by
            show (if _ then _ else _) = _
            rw [if_pos (of_decide_eq_true h)]
          refine q_app rfl (d := .int ((dg c i).2 % 1000)) ?_ ?_ ?_
          · walk_at "e"
          · rw [List.length_map]; have := dg_len c i; omega
          · refine s_asg (d := .int ((dg c i).2 / 1000)) ?_ ?_
            · walk_at "e"
            · refine n_end1 (.keep rfl (.keep rfl (.keep ?_ (.keep ?_ (.drop (.keep rfl .nil))))))
              · show Sl.ow ((dg c (i + 1)).1.map .int) = _
                rw [e, List.map_append]; rfl
              · show Sl.fz (.int (dg c (i + 1)).2) = _
                rw [e]
        · have e : dg c (i + 1) = dg c i := by
            show (if _ then _ else _) = _
            rw [if_neg (of_decide_eq_false h)]
          refine s_next (n_end1 (.keep rfl (.keep rfl (.keep ?_ (.keep ?_ (.drop (.keep rfl .nil)))))))
          · show Sl.ow ((dg c (i + 1)).1.map .int) = _
            rw [e]
          · show Sl.fz (.int (dg c (i + 1)).2) = _
            rw [e]
      · have e : (rngD 0 ((m : Int)).toNat).length = m := by rw [rngD_len]; omega
        rw [e]
        have e2 : (dg c m).1 = dgs c m := by unfold dgs; rw [if_pos (of_decide_eq_true hb)]
        refine n_end (dg c m).2 trivial (.keep rfl (.keep rfl (.keep ?_ (.keep rfl (.keep rfl (.keep rfl .nil))))))
        rw [e2]
    · have e2 : dgs c m = [] := by unfold dgs; rw [if_neg (of_decide_eq_false hb)]
      refine s_next (n_end c trivial (.keep rfl (.keep rfl (.keep ?_ (.keep rfl (.keep rfl (.keep rfl .nil)))))))
      rw [e2]; rfl
  · refine q_asg (d := .int (st0 c)) ?_ ?_
    · walk_at "e"
    · let Iv : Nat → List Sl := fun i => [.fz (.int c), .fz (.int m), .ow ((mx c m i).map .int), .fz (.int r0), .un, .fz (.int (stN c i))]
      refine q_for1 Iv (it_rng1 (n := (m : Int)) ?_ (by omega) (by omega)) (Wk.refl _) (fun F1 i d hd => ?_) ?_
      · walk_at "e"
      · obtain ⟨hi, rfl⟩ := rngD_get hd
        have hb := stN_bd c i
        have hb2 := stN_bd c (i + 1)
        refine ⟨_, _, g_name, ?_⟩
        refine q_asg (d := .int (stN c (i + 1))) ?_ ?_
        · have e : stN c (i + 1) = (stN c i * 48271 + (0 + (i : Int)) * 69621 + 7) % 2147483647 := by rw [Int.zero_add]; rfl
          rw [e]
          walk_at "e"
        · refine s_if (b := decide (((mx c m i).length : Int) < m)) ?_ (fun h => ?_) fun h => ?_
          · have e : (((mx c m i).map PyData.int).length : Int) = (mx c m i).length := by rw [List.length_map]
            rw [← e]
            walk_at "e"
          · refine s_app rfl (d := .int ((stN c (i + 1) * 69621 + 5) % 2147483629 % 1000)) ?_ ?_ ?_
            · walk_at "e"
            · rw [List.length_map]; have := mx_len c m i; omega
            · refine n_end1 ?_
              have e : mx c m (i + 1) = mx c m i ++ [(stN c (i + 1) * 69621 + 5) % 2147483629 % 1000] := by
                show (if _ then _ else _) = _
                rw [if_pos (of_decide_eq_true h)]
              refine .keep rfl (.keep rfl (.keep ?_ (.keep rfl (.drop (.keep rfl .nil)))))
              show Sl.ow ((mx c m (i + 1)).map .int) = _
              rw [e, List.map_append]; rfl
          · refine s_next (n_end1 ?_)
            have e : mx c m (i + 1) = mx c m i := by
              show (if _ then _ else _) = _
              rw [if_neg (of_decide_eq_false h)]
            refine .keep rfl (.keep rfl (.keep ?_ (.keep rfl (.drop (.keep rfl .nil)))))
            show Sl.ow ((mx c m (i + 1)).map .int) = _
            rw [e]
      · have e : (rngD 0 ((m : Int)).toNat).length = m := by rw [rngD_len]; omega
        rw [e]
        exact s_retO rfl (RtL.of (D := { nx := fun x H' => Q V.non H', rt := Q }) rt)
/-! ### a cell: nothing there is zero -/
def cellF (s : List Int) (k : Int) : Int := if k < s.length then itI s k else 0
def R_cell : List PyData → PyData → Prop := fun ds d => ∃ (s : List Int) (k : Int), ds = [iL s, .int k] ∧ 0 ≤ k ∧ d = .int (cellF s k)
theorem ok_cell (Fn : Fun K "_law_cell" "_law_cell" s_l_law_cell f fd) (hm : mg "_law_cell" = some (.ref f)) (hb : Binds K fd ["_law_script_here", "_law_k"] []) (Z : Zb mg) :
    Df P w K mg base 1 "_law_cell" ["_law_script_here", "_law_k"] (spD K Tb R_cell) := by
  refine df_D Fn sc_l_law_cell hm hb (fun ds d h => by obtain ⟨c, m, rfl, _⟩ := h; rfl) fun cdv A outer s H Ek hr => ⟨_, (pss_cons (ps_if (pt_cmpR uLt (pv 1) (pe_callB (uLenK K) (by rfl) Z.len (by decide +kernel) (pa_cons (pv 0) pa_nil)) (nomark _)) (pss_one (ps_ret (pe_callTy uInt (by rfl) Z.int (by decide +kernel) (pa_cons (pe_ix (ix_seqK K) (pv 0) (pv 1) (fun _ _ => rfl)) pa_nil)))) pss_nil)
      (pss_one (ps_ret pe_int))),  fun ds d F0 H0 Q r rt => ?_⟩
  obtain ⟨xs, k, rfl, h0, rfl⟩ := r
  have e : (((xs.map PyData.int).length : Nat) : Int) = xs.length := by rw [List.length_map]
  refine q_if (b := decide (k < xs.length)) ?_ (fun h => ?_) fun h => s_next (n_go ?_)
  · rw [← e]; walk_at "e"
  · have h' := of_decide_eq_true h
    refine s_ret (d := .int (itI xs k)) ?_ ?_
    · have := at_int h0 h'
      walk_at "e"
    · rw [cellF, if_pos h'] at rt; exact rt
  · rw [cellF, if_neg (of_decide_eq_false h)] at rt
    exact s_ret e_int rt
end
theorem map_get {α : Type} {f : α → PyData} {l : List α} {i : Nat} {d : PyData} (h : (l.map f)[i]? = some d) : ∃ x, l[i]? = some x ∧ d = f x := by
  rw [List.getElem?_map] at h
  cases e : l[i]? with
  | none => rw [e] at h; cases h
  | some x => rw [e] at h; exact ⟨x, rfl, (Option.some.inj h).symm⟩
theorem drop_get {α : Type} {l : List α} {i : Nat} {x : α} (h : l[i]? = some x) : l.drop i = x :: l.drop (i + 1) := by
  obtain ⟨hi, e⟩ := List.getElem?_eq_some_iff.mp h
  rw [← e]; exact List.drop_eq_getElem_cons hi
/-! ### lists made by a walk -/
def fI (q : Int → PyData) : PyData → Option PyData
  | .int i => some (q i)
  | _ => none
theorem fm_map {α : Type} {a h : α → PyData} {f : PyData → Option PyData} (e : ∀ x, f (a x) = some (h x)) : ∀ (l : List α), (l.map a).filterMap f = l.map h
  | [] => rfl
  | x :: l => by rw [List.map_cons, List.filterMap_cons, e x, fm_map e l]; rfl
theorem fI_rng (q : Int → PyData) (n : Nat) : (rngD 0 n).filterMap (fI q) = (List.range n).map fun k => q (0 + (k : Nat)) := fm_map (f := fI q) (a := fun i : Nat => PyData.int (0 + (i : Nat))) (h := fun k => q (0 + (k : Nat))) (fun _ => rfl) _
def g1 (G : List Sl) : PyData → List Sl := fun d => G ++ [.fz d]
def cutA {α : Type} (ds : List α) (lo hi : Option Int) : List α := (ds.drop (HT.sIx ds.length 0 lo)).take (HT.sIx ds.length ds.length hi - HT.sIx ds.length 0 lo)
theorem cut_map {α : Type} (a : α → PyData) (l : List α) (lo hi : Option Int) : DW.cutD (l.map a) lo hi = (cutA l lo hi).map a := by
  unfold DW.cutD cutA
  rw [List.length_map, List.map_take, List.map_drop]
theorem cut_mem {α : Type} {l : List α} {lo hi : Option Int} {x : α} (h : x ∈ cutA l lo hi) : x ∈ l := List.mem_of_mem_drop (List.mem_of_mem_take h)
theorem cut_len {α : Type} (l : List α) (lo hi : Option Int) : (cutA l lo hi).length ≤ l.length := by
  unfold cutA; rw [List.length_take, List.length_drop]; omega
/-! ### texts that are names and values -/
def LE : Str := "abcdefghijklmnopqrstuvwxyz"
def CH : Str := "abcdefghijklmnopqrstuvwxyz_0123456789"
def inC (z : Str) (c : Nat) : Bool := decide (c ∈ z.cps.toList)
def hdC (t : Str) : Nat := t.cps.toList.getD 0 0
def lenB (t : Str) : Bool := decide ((1 : Int) ≤ t.length) && decide ((t.length : Int) ≤ 20)
def valB (t : Str) : Bool := lenB t && t.cps.toList.all (inC CH)
def namB (t : Str) : Bool := valB t && inC LE (hdC t)
def R_isn : List PyData → PyData → Prop := fun ds d => ∃ t : Str, ds = [.str t] ∧ t.length ≤ 100000 ∧ d = .bool (namB t)
section
variable {P : Program} {w : World} {K : PySem.W.Frag} {mg : Str → Option Value} {base : Heap} {f : Addr} {fd : FuncData} {Tb : List Addr} {k : Nat}
theorem n_rt {g : Gd} {G : List Sl} {Q : VK} (rt : Rt g Q .none) : N g (fun _ H' => Q .non H') G := fun σ F H hh => rt .non F H hh.st .non
/-- an entry with its name -/
def enE (x : Str × List PyData) : PyData := .tuple (.str x.1 :: x.2)
/-- the place of the first entry whose name is none or an earlier one's, or that is not right -/
def cnF (p : PyData → Bool) : List Str → Nat → List (Str × List PyData) → Option Nat
  | _, _, [] => none
  | seen, i, x :: xs => if namB x.1 = true ∧ x.1 ∉ seen ∧ p (enE x) = true then cnF p (seen ++ [x.1]) (i + 1) xs else some i
def badO (C : Addr) (part : Str) (i : Nat) : Out := .exc C [("place", .int (i : Nat)), ("part", .str part)]
def cnO (C : Addr) (part : Str) : Option Nat → Out
  | none => .val .none
  | some i => badO C part i
def R_cn (C : Addr) : PyData → PyData → (PyData → Prop) → (PyData → Bool) → Out → Prop := fun d1 d2 Sd p o => ∃ (part : Str) (es : List (Str × List PyData)), d1 = .str part ∧ d2 = .list (es.map enE) ∧ es.length ≤ 1000 ∧ (∀ x ∈ es, x.1.length ≤ 100000 ∧ Sd (enE x)) ∧ o = cnO C part (cnF p [] 0 es)
def trK (ns : List Str) : List (Str × PyData) := ns.map fun n => (n, .bool true)
theorem trK_get (ns : List Str) (n : Str) : (getK (trK ns) n).isSome = decide (n ∈ ns) := by
  induction ns with
  | nil => rfl
  | cons m ns ih =>
    show (getK ((m, .bool true) :: trK ns) n).isSome = _
    unfold getK at ih ⊢
    by_cases h : m = n
    · subst h; simp
    · simp only [List.find?_cons] at ih ⊢
      simp [h, Ne.symm h, ih]
theorem trK_put (ns : List Str) (n : Str) (h : n ∉ ns) : putD (trK ns) n (.bool true) = trK (ns ++ [n]) := by
  have e : ((trK ns).any fun p => decide (p.1 = n)) = false := by
    rw [Bool.eq_false_iff]
    intro z
    obtain ⟨q, hq, e⟩ := List.any_eq_true.mp z
    obtain ⟨m, hm, rfl⟩ := List.mem_map.mp hq
    exact h (by rw [← of_decide_eq_true e]; exact hm)
  unfold putD
  rw [e, if_neg (by decide)]
  unfold trK
  rw [List.map_append]; rfl
theorem at_hd (a : PyData) (l : List PyData) : atI (a :: l) 0 = some a := by
  rw [at_nat (by decide) (by rw [List.length_cons]; exact Nat.succ_pos _)]; rfl
theorem ok_cnL {C g : Addr} {cdv : Value} (Z : Zb mg) (XI_BadSetup : XiOk2 P w K mg base "BadSetup" C "part" "place")
    (D_is_name : Df P w K mg base 3 "is_name" ["text"] (spD K Tb R_isn)) {k : Nat} (hk : 9 ≤ k) :
    Gives1 P w K mg base (L2.CX P w) k N_check_named "check_named" (defScope s_check_named) g (defBody s_check_named) "is_right" cdv (ttL K Tb (R_cn C)) := by
  refine gives_L fun A outer s H Ek f c' q tl hr act => ⟨_, (pss_cons (ps_set (i := 3) sc_check_named.nd rfl (by first | exact .inl rfl | exact .inr rfl) pe_dnewK)
      (pss_one (ps_for (passes_of rfl) rfl (pi_enum (by rfl) Z.enumerate (pa_cons (pv 1) pa_nil)) (pg_tupK (n := 2) K rfl (pgs_cons (pg_name (i := 4) sc_check_named.nd rfl (by first | exact .inl rfl | exact .inr rfl)) (pgs_cons (pg_name (i := 5) sc_check_named.nd rfl (by first | exact .inl rfl | exact .inr rfl)) pgs_nil))) (pss_cons (ps_set (i := 6) sc_check_named.nd rfl (by first | exact .inl rfl | exact .inr rfl) (pe_ix (ix_seqK K) (pv 5) pe_int (fun _ _ => rfl)))
      (pss_cons (ps_if (PW.pt (pw_or (pt_not (pt_truthK K (pe_df D_is_name hr (by first | decide | exact Nat.le_refl _ | omega) (by rfl) (pa_cons (pv 6) pa_nil)) (by intro _; rfl))) (pw_or (pt_cmp (pc_din (hu_of hr) (pv 6) (pv 3))) (pw_or1 (pt_not (pt_truthK K (act _ _ _ _ (pa_cons (pv 5) pa_nil) (by rfl)) (by intro _; rfl))))))) (pss_one (ps_raiseI2 (W := fun cls d _ H => Ek cls d H) rfl XI_BadSetup hr (by first | decide | omega) (takes_of rfl rfl rfl rfl) (by rfl) (pa_cons (pv 0) (pa_cons (pv 4) pa_nil)))) pss_nil)
      (pss_one (ps_dput (hu_of hr) (pv 3) (pv 6) pe_bl rfl))))))),  fun d1 d2 Sd p o F0 H0 Q hc r lam rt => ?_⟩
  obtain ⟨part, es, rfl, rfl, hz, hes, rfl⟩ := r
  show S _ _ _ [.fz (.str part), .fz (.list (es.map enE)), .raw (.ref f), .un, .un, .un, .un]
  refine q_dnew (s_for (α := List Str) (fun _ seen => [.fz (.str part), .fz (.list (es.map enE)), .raw (.ref f), .od (trK seen), .un, .un, .un]) (fun i seen => seen.length = i ∧ cnF p seen i (es.drop i) = cnF p [] 0 es) (it_enum (e_var rfl)) [] ⟨rfl, rfl⟩ (Wk.refl _) (fun F1 i seen d hd pp => ?_) fun seen pp => ?_)
  · obtain ⟨d', hq, rfl⟩ := enD_get _ _ _ _ hd
    obtain ⟨x, hx, rfl⟩ := map_get hq
    obtain ⟨hl, pp⟩ := pp
    have pp : cnF p seen i (es.drop i) = cnF p [] 0 es := pp
    rw [drop_get hx] at pp
    obtain ⟨h1, h2⟩ := hes x (List.mem_of_getElem? hx)
    have li : i < es.length := (List.getElem?_eq_some_iff.mp hx).1
    refine ⟨_, _, g_tup (gs_cons g_name (gs_cons g_name gs_nil)) rfl, ?_⟩
    rw [Nat.zero_add]
    show S _ _ _ [.fz (.str part), .fz (.list (es.map enE)), .raw (.ref f), .od (trK seen), .fz (.int (i : Nat)), .fz (enE x), .un]
    refine q_asg (d := .str x.1) (e_op (x := .tuple (.str x.1 :: x.2)) (e_var rfl) e_int (ix_t (at_hd _ _))) ?_
    show S _ _ _ [.fz (.str part), .fz (.list (es.map enE)), .raw (.ref f), .od (trK seen), .fz (.int (i : Nat)), .fz (enE x), .fz (.str x.1)]
    refine q_if (b := !namB x.1 || (decide (x.1 ∈ seen) || !p (enE x))) (t_or (t_not (t_tru (d := .bool (namB x.1)) (E.b (e_call (ds := [.str x.1]) (a_cons (e_var rfl) a_nil) ⟨x.1, rfl, h1, rfl⟩)) rfl)) fun _ => t_or (by rw [← trK_get]; exact t_din rfl (e_var rfl)) fun _ => t_not (t_tru (d := .bool (p (enE x))) (E.b (e_act rfl hc lam (a_cons (e_var rfl) a_nil) h2)) rfl)) (fun y => ?_) fun y => s_next (n_go ?_)
    · have nz : ¬ (namB x.1 = true ∧ x.1 ∉ seen ∧ p (enE x) = true) := fun h => by
        rw [h.1, decide_eq_false h.2.1, h.2.2] at y; cases y
      rw [cnF, if_neg nz] at pp
      rw [← pp] at rt
      exact s_raise2 (e_var rfl) (e_var rfl) rt
    · have yz : namB x.1 = true ∧ x.1 ∉ seen ∧ p (enE x) = true := by
        simp only [Bool.or_eq_false_iff, Bool.not_eq_false', decide_eq_false_iff_not] at y
        exact y
      rw [cnF, if_pos yz] at pp
      refine s_dput (d := .bool true) rfl (e_var rfl) e_bl (by unfold trK; rw [List.length_map]; omega) (n_end (seen ++ [x.1]) ⟨by rw [List.length_append, hl]; rfl, pp⟩ ?_)
      rw [trK_put seen x.1 yz.2.1]
      exact .keep rfl (.keep rfl (.keep rfl (.keep rfl (.drop (.drop (.drop .nil))))))
  · obtain ⟨_, pp⟩ := pp
    have pp : cnF p seen _ (es.drop (enD 0 (es.map enE)).length) = cnF p [] 0 es := pp
    rw [enD_len, List.length_map, List.drop_length] at pp
    rw [← pp] at rt
    exact n_rt rt
theorem df_cnL {C : Addr} (Fn : Fun K "check_named" "check_named" s_check_named f fd) (hm : mg "check_named" = some (.ref f)) (hb : Binds K fd ["part", "entries", "is_right"] []) (Z : Zb mg) (XI_BadSetup : XiOk2 P w K mg base "BadSetup" C "part" "place")
    (D_is_name : Df P w K mg base 3 "is_name" ["text"] (spD K Tb R_isn)) {k : Nat} (hk : 9 ≤ k) : DfL P w K mg base Tb k "check_named" (R_cn C) :=
  ⟨s_check_named, f, fd, N_check_named, ["part", "entries", "is_right"], "is_right", Fn, hm, hb, sc_check_named, rfl, rfl, .inl rfl, by decide, by decide, fun _ => ok_cnL Z XI_BadSetup D_is_name hk⟩
end
section
variable {P : Program} {w : World} {K : PySem.W.Frag} {mg : Str → Option Value} {base : Heap} {f : Addr} {fd : FuncData} {Tb : List Addr} {k : Nat}
theorem nor_callSX {g : Gd} {G Gs : List Sl} {ta : TA} {C : Addr} {fs : List (Str × PyData)} {R : Hp → List Sl → Out → Prop} {Es : L2.St → XK} (h : AS g ta G Gs) (r : ∀ F, Ex g.Fl F → R F Gs (.exc C fs)) (k : ∀ σ, XtOk g (Es σ) C fs) : NoRet g (tCallS (spSX g.K g.T R) Es ta) G := fun σ F H hh Q => h σ F H hh _ fun vs F1 H1 s1 d1 =>
  ⟨F1, Gs, .exc C fs, s1.i, (hh.mono s1).tab, d1, r F1 (hh.mono s1).lo, fun dx ws F2 H2 s2 h0 hF hH hf => k σ dx ws F2 H2 ((hh.mono s1).st.trans s2) (old_free (hh.mono s1).st h0) hF hH hf⟩
theorem s_dropE1 {g : Gd} {G : List Sl} {te : TE} {D : Ends} (h : NoRet g te G) : S g (tDrop te) D G := fun σ F H hh => h σ F H hh _
def nmE (es : List (Str × List PyData)) : List PyData := es.map fun x => .str x.1
def R_nms : List PyData → List PyData → Prop := fun ds es => ∃ l : List (Str × List PyData), ds = [.list (l.map enE)] ∧ l.length ≤ 1000 ∧ es = nmE l
/-- a part's check: the first bad entry, or what follows -/
def thO (C : Addr) (part : Str) (r : Option Nat) (o : Out) : Out := match r with
  | some i => badO C part i
  | none => o
structure CpIn (F : Hp) (K : PySem.W.Frag) (Ca a : Addr) (wk : Int) (pp sc po wi : List (Str × List PyData)) (R2 R3 R4 : List PyData → PyData → Prop) (pS pO pW : PyData → Bool) : Prop where
  ob : ∃ fs, ObF K F a Ca fs ∧ fs.lookup ("week" : Str) = some (.int wk) ∧ fs.lookup ("people" : Str) = some (.list (pp.map enE)) ∧ fs.lookup ("schedules" : Str) = some (.list (sc.map enE)) ∧ fs.lookup ("policies" : Str) = some (.list (po.map enE)) ∧ fs.lookup ("windows" : Str) = some (.list (wi.map enE))
  z1 : pp.length ≤ 1000
  z2 : sc.length ≤ 1000
  z3 : po.length ≤ 1000
  z4 : wi.length ≤ 1000
  n2 : ∀ x ∈ sc, x.1.length ≤ 100000
  n3 : ∀ x ∈ po, x.1.length ≤ 100000
  n4 : ∀ x ∈ wi, x.1.length ≤ 100000
  r2 : ∀ x ∈ sc, R2 [.int wk, .list (nmE pp), enE x] (.bool (pS (enE x)))
  r3 : ∀ x ∈ po, R3 [.list (nmE sc), enE x] (.bool (pO (enE x)))
  r4 : ∀ x ∈ wi, R4 [.int wk, enE x] (.bool (pW (enE x)))
def cpO (C : Addr) (pP pS pO pW : PyData → Bool) (pp sc po wi : List (Str × List PyData)) : Out := thO C "people" (cnF pP [] 0 pp) (thO C "schedules" (cnF pS [] 0 sc) (thO C "policies" (cnF pO [] 0 po) (cnO C "windows" (cnF pW [] 0 wi))))
def R_cp (K : PySem.W.Frag) (C Ca fp : Addr) (R1 : Hp → List Sl → Out → Prop) (R2 R3 R4 : List PyData → PyData → Prop) : Hp → List Sl → Out → Prop := fun F Gs o => ∃ a wk pp sc po wi pP pS pO pW, Gs = [.raw (.ref a)] ∧ CpIn F K Ca a wk pp sc po wi R2 R3 R4 pS pO pW ∧
  (∀ F1, R1 F1 [.fz (.str "people"), .fz (.list (pp.map enE)), .raw (.ref fp)] (cnO C "people" (cnF pP [] 0 pp))) ∧ o = cpO C pP pS pO pW pp sc po wi
theorem ok_cp {C Ca c Pt fp : Addr} (Fn : Fun K "check_people" "check_people" s_check_people f fd) (hm : mg "check_people" = some (.ref f)) (hb : Binds K fd ["made"] []) (Z : Zb mg)
    (hns : PySem.W.nsIn K mainGlobals "check_people" = some (some (.ref f))) (ht : PySem.W.tabIn K "check_people" = some (c, Pt)) (TB : LamX.TabB base mg c Pt) (hP : Pt ∈ Tb) (hq : LamTabs.q Pt = some (("check_people" : Str) ++ ".<locals>." ++ "<lambda>"))
    (CL : Cls K Ca) (N_week : NoAttr K Ca "week") (N_people : NoAttr K Ca "people") (N_schedules : NoAttr K Ca "schedules") (N_policies : NoAttr K Ca "policies") (N_windows : NoAttr K Ca "windows")
    (D_cnL : DfL P w K mg base Tb 10 "check_named" (R_cn C)) {R1 : Hp → List Sl → Out → Prop} (D_check_named : DfX P w K mg base 10 "check_named" ["part", "entries", "is_right"] (spSX K Tb R1)) {R2 R3 R4 : List PyData → PyData → Prop} (D_names_of : Df P w K mg base 1 "names_of" ["entries"] (spL K Tb R_nms))
    (V_is_person : mg "is_person" = some (.ref fp)) (D_is_schedule : Df P w K mg base 7 "is_schedule" ["week", "persons", "schedule"] (spD K Tb R2)) (D_is_policy : Df P w K mg base 4 "is_policy" ["schedules", "policy"] (spD K Tb R3)) (D_is_window : Df P w K mg base 4 "is_window" ["week", "window"] (spD K Tb R4)) :
    DfX P w K mg base 12 "check_people" ["made"] (spSX K Tb (R_cp K C Ca fp R1 R2 R3 R4)) := by
  refine df_SXT Fn hns ht sc_check_people hm hb (fun F Gs o h => by obtain ⟨_, _, _, _, _, _, _, _, _, _, rfl, _⟩ := h; rfl) fun A outer s H Ek hr => ⟨_, (pss_cons (ps_expr (pe_dfX (W := fun cls d _ H => Ek cls d H) D_check_named hr (by first | decide | exact Nat.le_refl _ | omega) (by rfl) (takes_of rfl rfl rfl rfl) (pa_cons pe_str (pa_cons (pe_fldK K (pv 0)) (pa_cons (pe_fv V_is_person (by rfl)) pa_nil)))))     (pss_cons (ps_set (i := 1) sc_check_people.nd rfl (by first | exact .inl rfl | exact .inr rfl) (pe_df D_names_of hr (by first | decide | exact Nat.le_refl _ | omega) (by rfl) (pa_cons (pe_fldK K (pv 0)) pa_nil)))     (pss_cons (ps_expr (pe_lamD (k := 9) (ap := "schedule") (E := Ek) D_cnL (by rfl) TB (by rfl) hr (by decide) (lamS1_by (sc := defScope s_check_people) (by decide +kernel)) (show ("schedule" : Str) ∉ N_check_people by decide) (by rfl) (fun _ _ _ _ _ _ => by rfl) (fun A outer s H f c' hr => pe_df D_is_schedule hr (by decide) (by rfl) (pa_cons (pe_fldK K (pv 0)) (pa_cons (pv 1) (pa_cons (pv 3) pa_nil)))) (passes_call (W := fun cls d _ H => Ek cls d H) (takes_of rfl rfl rfl rfl) (fun _ _ _ _ z => z)) pe_str (pe_fldK K (pv 0))))     (pss_cons (ps_set (i := 2) sc_check_people.nd rfl (by first | exact .inl rfl | exact .inr rfl) (pe_df D_names_of hr (by first | decide | exact Nat.le_refl _ | omega) (by rfl) (pa_cons (pe_fldK K (pv 0)) pa_nil)))     (pss_cons (ps_expr (pe_lamD (k := 9) (ap := "policy") (E := Ek) D_cnL (by rfl) TB (by rfl) hr (by decide) (lamS1_by (sc := defScope s_check_people) (by decide +kernel)) (show ("policy" : Str) ∉ N_check_people by decide) (by rfl) (fun _ _ _ _ _ _ => by rfl) (fun A outer s H f c' hr => pe_df D_is_policy hr (by decide) (by rfl) (pa_cons (pv 2) (pa_cons (pv 3) pa_nil))) (passes_call (W := fun cls d _ H => Ek cls d H) (takes_of rfl rfl rfl rfl) (fun _ _ _ _ z => z)) pe_str (pe_fldK K (pv 0))))     (pss_one (ps_expr (pe_lamD (k := 9) (ap := "window") (E := Ek) D_cnL (by rfl) TB (by rfl) hr (by decide) (lamS1_by (sc := defScope s_check_people) (by decide +kernel)) (show ("window" : Str) ∉ N_check_people by decide) (by rfl) (fun _ _ _ _ _ _ => by rfl) (fun A outer s H f c' hr => pe_df D_is_window hr (by decide) (by rfl) (pa_cons (pe_fldK K (pv 0)) (pa_cons (pv 3) pa_nil))) (passes_call (W := fun cls d _ H => Ek cls d H) (takes_of rfl rfl rfl rfl) (fun _ _ _ _ z => z)) pe_str (pe_fldK K (pv 0)))))))))), fun Gs o F0 H0 Q r rt => ?_⟩
  obtain ⟨a, wk, pp, sc, po, wi, pP, pS, pO, pW, rfl, ⟨⟨fs, ob, w1, w2, w3, w4, w5⟩, z1, z2, z3, z4, n2, n3, n4, r2, r3, r4⟩, h1, rfl⟩ := r
  show S _ _ _ [.raw (.ref a), .un, .un]
  unfold cpO at rt
  have fld : ∀ {n : Str} {d : PyData} {G : List Sl}, G[0]? = some (.raw (.ref a)) → NoAttr K Ca n → fs.lookup n = some d → E (⟨K, Tb, F0, H0, F0⟩ : Gd) (tFld K (tVar 0) n) G d := fun hi hn hl => e_fldO hi ob CL hn hl
  have as1 : AS (⟨K, Tb, F0, H0, F0⟩ : Gd) (tCons (tC (.str "people")) (tCons (tFld K (tVar 0) "people") (tCons (tC (.ref fp)) tNil))) [.raw (.ref a), .un, .un] [.fz (.str "people"), .fz (.list (pp.map enE)), .raw (.ref fp)] := as_cons e_str (as_cons (fld rfl N_people w2) (as_con as_nil))
  cases c1 : cnF pP [] 0 pp with
  | some i =>
    rw [c1] at rt h1
    exact q_dropE (nor_callSX as1 (fun F1 _ => h1 F1) fun _ => rt)
  | none =>
    rw [c1] at rt h1
    refine q_drop (e_callSX as1 fun F1 _ => h1 F1) ?_
    refine q_asgL (el_call (ds := [.list (pp.map enE)]) (a_cons (fld rfl N_people w2) a_nil) ⟨pp, rfl, z1, rfl⟩) (s_frz (i := 1) rfl ?_)
    show S _ _ _ [.raw (.ref a), .fz (.list (nmE pp)), .un]
    have l2 : ∀ d, (∃ x ∈ sc, d = enE x) → E (⟨K, Tb, F0, H0, F0⟩ : Gd) (tCall (spD K Tb R2) [] E0 (tCons (tFld K (tVar 0) "week") (tCons (tVar 1) (tCons (tVar 3) tNil)))) ([.raw (.ref a), .fz (.list (nmE pp)), .un] ++ [.fz d]) (.bool (pS d)) := fun d h => by
      obtain ⟨x, hx, rfl⟩ := h
      exact e_call (R := R2) (a_cons (fld rfl N_week w1) (a_cons (e_var rfl) (a_cons (e_var rfl) a_nil))) (r2 x hx)
    have q2 : ∀ {o : Out}, cnO C "schedules" (cnF pS [] 0 sc) = o → R_cn C (.str "schedules") (.list (sc.map enE)) (fun d => ∃ x ∈ sc, d = enE x) pS o := fun e => ⟨"schedules", sc, rfl, rfl, z2, fun x hx => ⟨n2 x hx, x, hx, rfl⟩, e.symm⟩
    cases c2 : cnF pS [] 0 sc with
    | some i =>
      rw [c2] at rt q2
      exact q_dropE (nor_lam3 e_str (fld rfl N_schedules w3) hP hq (q2 rfl) l2 rt)
    | none =>
      rw [c2] at rt q2
      refine q_drop (e_lam3 e_str (fld rfl N_schedules w3) hP hq (q2 rfl) l2) ?_
      refine q_asgL (el_call (ds := [.list (sc.map enE)]) (a_cons (fld rfl N_schedules w3) a_nil) ⟨sc, rfl, z2, rfl⟩) (s_frz (i := 2) rfl ?_)
      show S _ _ _ [.raw (.ref a), .fz (.list (nmE pp)), .fz (.list (nmE sc))]
      have l3 : ∀ d, (∃ x ∈ po, d = enE x) → E (⟨K, Tb, F0, H0, F0⟩ : Gd) (tCall (spD K Tb R3) [] E0 (tCons (tVar 2) (tCons (tVar 3) tNil))) ([.raw (.ref a), .fz (.list (nmE pp)), .fz (.list (nmE sc))] ++ [.fz d]) (.bool (pO d)) := fun d h => by
        obtain ⟨x, hx, rfl⟩ := h
        exact e_call (R := R3) (a_cons (e_var rfl) (a_cons (e_var rfl) a_nil)) (r3 x hx)
      have q3 : ∀ {o : Out}, cnO C "policies" (cnF pO [] 0 po) = o → R_cn C (.str "policies") (.list (po.map enE)) (fun d => ∃ x ∈ po, d = enE x) pO o := fun e => ⟨"policies", po, rfl, rfl, z3, fun x hx => ⟨n3 x hx, x, hx, rfl⟩, e.symm⟩
      have l4 : ∀ d, (∃ x ∈ wi, d = enE x) → E (⟨K, Tb, F0, H0, F0⟩ : Gd) (tCall (spD K Tb R4) [] E0 (tCons (tFld K (tVar 0) "week") (tCons (tVar 3) tNil))) ([.raw (.ref a), .fz (.list (nmE pp)), .fz (.list (nmE sc))] ++ [.fz d]) (.bool (pW d)) := fun d h => by
        obtain ⟨x, hx, rfl⟩ := h
        exact e_call (R := R4) (a_cons (fld rfl N_week w1) (a_cons (e_var rfl) a_nil)) (r4 x hx)
      have q4 : ∀ {o : Out}, cnO C "windows" (cnF pW [] 0 wi) = o → R_cn C (.str "windows") (.list (wi.map enE)) (fun d => ∃ x ∈ wi, d = enE x) pW o := fun e => ⟨"windows", wi, rfl, rfl, z4, fun x hx => ⟨n4 x hx, x, hx, rfl⟩, e.symm⟩
      cases c3 : cnF pO [] 0 po with
      | some i =>
        rw [c3] at rt q3
        exact q_dropE (nor_lam3 e_str (fld rfl N_policies w4) hP hq (q3 rfl) l3 rt)
      | none =>
        rw [c3] at rt q3
        refine q_drop (e_lam3 e_str (fld rfl N_policies w4) hP hq (q3 rfl) l3) ?_
        cases c4 : cnF pW [] 0 wi with
        | some i =>
          rw [c4] at rt q4
          exact s_dropE1 (nor_lam3 e_str (fld rfl N_windows w5) hP hq (q4 rfl) l4 rt)
        | none =>
          rw [c4] at rt q4
          exact s_drop (e_lam3 e_str (fld rfl N_windows w5) hP hq (q4 rfl) l4) (n_rt rt)
end
section
variable {P : Program} {w : World} {K : PySem.W.Frag} {mg : Str → Option Value} {base : Heap} {f : Addr} {fd : FuncData} {Tb : List Addr} {k : Nat}
theorem enE_inj (x y : Str × List PyData) (h : enE x = enE y) : x = y := by
  obtain ⟨a, r⟩ := x
  obtain ⟨b, s⟩ := y
  have h := PyData.tuple.inj h
  injection h with h1 h2
  have h1 : a = b := PyData.str.inj h1
  have h2 : r = s := h2
  rw [h1, h2]
theorem ok_nms (Fn : Fun K "names_of" "names_of" s_names_of f fd) (hm : mg "names_of" = some (.ref f)) (hb : Binds K fd ["entries"] []) (Z : Zb mg) :
    Df P w K mg base 1 "names_of" ["entries"] (spL K Tb R_nms) := by
  refine df_L Fn sc_names_of hm hb (fun ds d h => by obtain ⟨_, rfl, _⟩ := h; rfl) fun cdv A outer s H Ek hr => ⟨_, (pss_one (ps_ret (pe_lc (own := [("entry", 1)]) (by rfl) sc_names_of.nd (pi_any (pv 0)) (blkOk_by (own := [("entry", 1)]) (N := N_names_of) (sc := defScope s_names_of) (by decide +kernel)) (fun _ _ _ _ _ => (pg_name (i := 1) sc_names_of.nd rfl (by first | exact .inl rfl | exact .inr rfl))) (fun _ _ _ _ _ => pts_nil) (fun _ _ _ _ _ => (pe_ix (ix_seqK K) (pv 1) pe_int (fun _ _ => rfl)))))),  fun ds es F0 H0 Q r rt => ?_⟩
  obtain ⟨l, rfl, hz, rfl⟩ := r
  show S _ _ _ [.fz (.list (l.map enE)), .un]
  exact s_retL (el_mapA (ix := [1]) enE enE_inj l (fun x => .str x.1) (fun x => [.fz (.list (l.map enE)), .fz (enE x)]) (it_al (e_var rfl)) (by omega) (fun F1 x hx => g_name) (by decide) (fun F1 x hx => e_op (x := .tuple (.str x.1 :: x.2)) (e_var rfl) e_int (ix_t (at_hd _ _)))) rt
end
section
variable {P : Program} {w : World} {K : PySem.W.Frag} {mg : Str → Option Value} {base : Heap} {f : Addr} {fd : FuncData} {Tb : List Addr} {k : Nat}
def R_dur : List PyData → PyData → Prop := fun ds d => ∃ n : Int, ds = [.int n] ∧ d = .bool (decide ((0 : Int) ≤ n) && decide (n ≤ 1000))
theorem ok_dur (Fn : Fun K "is_duration" "is_duration" s_is_duration f fd) (hm : mg "is_duration" = some (.ref f)) (hb : Binds K fd ["number"] []) (Z : Zb mg) :
    Df P w K mg base 1 "is_duration" ["number"] (spD K Tb R_dur) := by
  refine df_D Fn sc_is_duration hm hb (fun ds d h => by obtain ⟨_, rfl, _⟩ := h; rfl) fun cdv A outer s H Ek hr => ⟨_, (pss_one (ps_ret (pe_chain op_le op_le pe_int (pv 0) pe_int))),  fun ds d F0 H0 Q r rt => ?_⟩
  obtain ⟨n, rfl, rfl⟩ := r
  show S _ _ _ [.fz (.int n)]
  exact s_ret (e_chain (E.b e_int) (E.b (e_var rfl)) (fun _ => E.b e_int) le_i fun _ => le_i) rt
def spanB (wk a b : Int) : Bool := decide ((0 : Int) ≤ a) && (decide (a < b) && decide (b ≤ wk))
def R_psn : List PyData → PyData → Prop := fun ds d => ∃ (nm : PyData) (n : Int), ds = [.tuple [nm, .int n]] ∧ d = .bool (decide ((0 : Int) ≤ n) && decide (n ≤ 20))
theorem ok_psn (Fn : Fun K "is_person" "is_person" s_is_person f fd) (hm : mg "is_person" = some (.ref f)) (hb : Binds K fd ["person"] []) (Z : Zb mg) :
    Df P w K mg base 1 "is_person" ["person"] (spD K Tb R_psn) := by
  refine df_D Fn sc_is_person hm hb (fun ds d h => by obtain ⟨_, _, rfl, _⟩ := h; rfl) fun cdv A outer s H Ek hr => ⟨_, (pss_cons (ps_asg (pv 0) (pg_tupK (n := 2) K rfl (pgs_cons (pg_name (i := 1) sc_is_person.nd rfl (by first | exact .inl rfl | exact .inr rfl)) (pgs_cons (pg_name (i := 2) sc_is_person.nd rfl (by first | exact .inl rfl | exact .inr rfl)) pgs_nil))))
      (pss_one (ps_ret (pe_chain op_le op_le pe_int (pv 2) pe_int)))),  fun ds d F0 H0 Q r rt => ?_⟩
  obtain ⟨nm, n, rfl, rfl⟩ := r
  show S _ _ _ [.fz (.tuple [nm, .int n]), .un, .un]
  refine q_asgT (e_var rfl) (g_tup (gs_cons g_name (gs_cons g_name gs_nil)) rfl) ?_
  show S _ _ _ [.fz (.tuple [nm, .int n]), .fz nm, .fz (.int n)]
  exact s_ret (e_chain (E.b e_int) (E.b (e_var rfl)) (fun _ => E.b e_int) le_i fun _ => le_i) rt
def caO (C : Addr) (part : Str) (b : Bool) : Out := if b = true then .val .none else badO C part 0
def R_ca (C : Addr) : List PyData → Out → Prop := fun ds o => ∃ (part : Str) (b : Bool), ds = [.str part, .bool b] ∧ o = caO C part b
theorem ok_ca {C : Addr} (Fn : Fun K "check_alone" "check_alone" s_check_alone f fd) (hm : mg "check_alone" = some (.ref f)) (hb : Binds K fd ["part", "right"] []) (Z : Zb mg) (XI_BadSetup : XiOk2 P w K mg base "BadSetup" C "part" "place") :
    DfX P w K mg base 3 "check_alone" ["part", "right"] (spX K Tb (R_ca C)) := by
  refine df_X Fn sc_check_alone hm hb (fun ds d h => by obtain ⟨_, _, rfl, _⟩ := h; rfl) fun cdv A outer s H Ek hr => ⟨_, (pss_one (ps_if (pt_not (pt_truthK K (pv 1) (by intro _; rfl))) (pss_one (ps_raiseI2 (W := fun cls d _ H => Ek cls d H) rfl XI_BadSetup hr (by first | decide | omega) (takes_of rfl rfl rfl rfl) (by rfl) (pa_cons (pv 0) (pa_cons pe_int pa_nil)))) pss_nil)),  fun ds o F0 H0 Q r rt => ?_⟩
  obtain ⟨part, b, rfl, rfl⟩ := r
  show S _ _ _ [.fz (.str part), .fz (.bool b)]
  unfold caO at rt
  refine s_if (b := !b) (t_not (t_tru (d := .bool b) (E.b (e_var rfl)) rfl)) (fun y => ?_) fun y => s_next ?_
  · rw [if_neg (by cases b <;> simp_all)] at rt
    exact s_raise2 (e_var rfl) e_int rt
  · rw [if_pos (by cases b <;> simp_all)] at rt
    exact n_rt rt
def R_sto : List PyData → PyData → Prop := fun ds d => ∃ a b c e : Int, ds = [.tuple [.int a, .int b, .int c, .int e]] ∧ d = .bool ((decide ((0 : Int) ≤ a) && decide (a ≤ 1000)) && ((decide ((1 : Int) ≤ b) && decide (b ≤ 1000)) && ((decide ((2 : Int) ≤ c) && decide (c ≤ 10)) && (decide ((0 : Int) ≤ e) && decide (e ≤ 3)))))
theorem ok_sto (Fn : Fun K "is_store" "is_store" s_is_store f fd) (hm : mg "is_store" = some (.ref f)) (hb : Binds K fd ["store"] []) (Z : Zb mg)
    (D_is_duration : Df P w K mg base 1 "is_duration" ["number"] (spD K Tb R_dur)) :
    Df P w K mg base 2 "is_store" ["store"] (spD K Tb R_sto) := by
  refine df_D Fn sc_is_store hm hb (fun ds d h => by obtain ⟨_, _, _, _, rfl, _⟩ := h; rfl) fun cdv A outer s H Ek hr => ⟨_, (pss_cons (ps_asg (pv 0) (pg_tupK (n := 4) K rfl (pgs_cons (pg_name (i := 1) sc_is_store.nd rfl (by first | exact .inl rfl | exact .inr rfl)) (pgs_cons (pg_name (i := 2) sc_is_store.nd rfl (by first | exact .inl rfl | exact .inr rfl)) (pgs_cons (pg_name (i := 3) sc_is_store.nd rfl (by first | exact .inl rfl | exact .inr rfl)) (pgs_cons (pg_name (i := 4) sc_is_store.nd rfl (by first | exact .inl rfl | exact .inr rfl)) pgs_nil))))))
      (pss_one (ps_ret (pe_and (pe_df D_is_duration hr (by first | decide | exact Nat.le_refl _ | omega) (by rfl) (pa_cons (pv 1) pa_nil)) (pe_and (pe_chain op_le op_le pe_int (pv 2) pe_int) (pe_and (pe_chain op_le op_le pe_int (pv 3) pe_int) (pe_one (pe_chain op_le op_le pe_int (pv 4) pe_int)))))))),  fun ds d F0 H0 Q r rt => ?_⟩
  obtain ⟨a, b, c, e, rfl, rfl⟩ := r
  show S _ _ _ [.fz (.tuple [.int a, .int b, .int c, .int e]), .un, .un, .un, .un]
  refine q_asgT (e_var rfl) (g_tup (gs_cons g_name (gs_cons g_name (gs_cons g_name (gs_cons g_name gs_nil)))) rfl) ?_
  show S _ _ _ [.fz (.tuple [.int a, .int b, .int c, .int e]), .fz (.int a), .fz (.int b), .fz (.int c), .fz (.int e)]
  refine s_ret (e_andV (e_call (ds := [.int a]) (a_cons (e_var rfl) a_nil) ⟨a, rfl, rfl⟩) fun _ => e_andV (e_chain (E.b e_int) (E.b (e_var rfl)) (fun _ => E.b e_int) le_i fun _ => le_i) fun _ => e_andV (e_chain (E.b e_int) (E.b (e_var rfl)) (fun _ => E.b e_int) le_i fun _ => le_i) fun _ => e_chain (E.b e_int) (E.b (e_var rfl)) (fun _ => E.b e_int) le_i fun _ => le_i) rt
def R_span : List PyData → PyData → Prop := fun ds d => ∃ wk a b : Int, ds = [.int wk, .tuple [.int a, .int b]] ∧ d = .bool (spanB wk a b)
theorem ok_span (Fn : Fun K "is_span" "is_span" s_is_span f fd) (hm : mg "is_span" = some (.ref f)) (hb : Binds K fd ["week", "span"] []) (Z : Zb mg) :
    Df P w K mg base 1 "is_span" ["week", "span"] (spD K Tb R_span) := by
  refine df_D Fn sc_is_span hm hb (fun ds d h => by obtain ⟨_, _, _, rfl, _⟩ := h; rfl) fun cdv A outer s H Ek hr => ⟨_, (pss_cons (ps_asg (pv 1) (pg_tupK (n := 2) K rfl (pgs_cons (pg_name (i := 2) sc_is_span.nd rfl (by first | exact .inl rfl | exact .inr rfl)) (pgs_cons (pg_name (i := 3) sc_is_span.nd rfl (by first | exact .inl rfl | exact .inr rfl)) pgs_nil))))
      (pss_one (ps_ret (pe_chain3 op_le uLt op_le pe_int (pv 2) (pv 3) (pv 0))))),  fun ds d F0 H0 Q r rt => ?_⟩
  obtain ⟨wk, a, b, rfl, rfl⟩ := r
  show S _ _ _ [.fz (.int wk), .fz (.tuple [.int a, .int b]), .un, .un]
  refine q_asgT (e_var rfl) (g_tup (gs_cons g_name (gs_cons g_name gs_nil)) rfl) ?_
  show S _ _ _ [.fz (.int wk), .fz (.tuple [.int a, .int b]), .fz (.int a), .fz (.int b)]
  exact s_ret (e_chain3 (E.b e_int) (E.b (e_var rfl)) (fun _ => E.b (e_var rfl)) (fun _ _ => E.b (e_var rfl)) le_i (fun _ => lt_i) fun _ _ => le_i) rt
end
section
variable {P : Program} {w : World} {K : PySem.W.Frag} {mg : Str → Option Value} {base : Heap} {f : Addr} {fd : FuncData} {Tb : List Addr} {k : Nat}
/-- check_named with a def of the module -/
def R_cnf (mg : Str → Option Value) (C : Addr) (nm : Str) (R : List PyData → PyData → Prop) : Hp → List Sl → Out → Prop := fun F Gs o => ∃ (part : Str) (es : List (Str × List PyData)) (fp : Addr) (p : PyData → Bool), Gs = [.fz (.str part), .fz (.list (es.map enE)), .raw (.ref fp)] ∧ (es ≠ [] → mg nm = some (.ref fp)) ∧ es.length ≤ 1000 ∧
  (∀ x ∈ es, x.1.length ≤ 100000 ∧ R [enE x] (.bool (p (enE x)))) ∧ o = cnO C part (cnF p [] 0 es)
theorem ok_cnD {C : Addr} {nm a1 : Str} {R : List PyData → PyData → Prop} {j : Nat} (Fn : Fun K "check_named" "check_named" s_check_named f fd) (hm : mg "check_named" = some (.ref f)) (hb : Binds K fd ["part", "entries", "is_right"] []) (Z : Zb mg) (XI_BadSetup : XiOk2 P w K mg base "BadSetup" C "part" "place")
    (D_is_name : Df P w K mg base 3 "is_name" ["text"] (spD K Tb R_isn)) (D_right : Df P w K mg base j nm [a1] (spD K Tb R)) (hj : j ≤ 9) :
    DfX P w K mg base 10 "check_named" ["part", "entries", "is_right"] (spSX K Tb (R_cnf mg C nm R)) := by
  have H_is_right := held_of D_right
  refine df_SX Fn sc_check_named hm hb (fun F Gs o h => by obtain ⟨_, _, _, _, rfl, _⟩ := h; rfl) fun cdv A outer s H Ek hr => ⟨_, (pss_cons (ps_set (i := 3) sc_check_named.nd rfl (by first | exact .inl rfl | exact .inr rfl) pe_dnewK)
      (pss_one (ps_for (passes_of rfl) rfl (pi_enum (by rfl) Z.enumerate (pa_cons (pv 1) pa_nil)) (pg_tupK (n := 2) K rfl (pgs_cons (pg_name (i := 4) sc_check_named.nd rfl (by first | exact .inl rfl | exact .inr rfl)) (pgs_cons (pg_name (i := 5) sc_check_named.nd rfl (by first | exact .inl rfl | exact .inr rfl)) pgs_nil))) (pss_cons (ps_set (i := 6) sc_check_named.nd rfl (by first | exact .inl rfl | exact .inr rfl) (pe_ix (ix_seqK K) (pv 5) pe_int (fun _ _ => rfl)))
      (pss_cons (ps_if (PW.pt (pw_or (pt_not (pt_truthK K (pe_df D_is_name hr (by first | decide | exact Nat.le_refl _ | omega) (by rfl) (pa_cons (pv 6) pa_nil)) (by intro _; rfl))) (pw_or (pt_cmp (pc_din (hu_of hr) (pv 6) (pv 3))) (pw_or1 (pt_not (pt_truthK K (pe_callA (i := 2) H_is_right (hr.mono (by first | decide | exact Nat.le_refl _ | omega)) rfl (by first | exact .inl rfl | exact .inr (.inl rfl) | exact .inr (.inr rfl)) (pa_cons (pv 5) pa_nil)) (by intro _; rfl))))))) (pss_one (ps_raiseI2 (W := fun cls d _ H => Ek cls d H) rfl XI_BadSetup hr (by first | decide | omega) (takes_of rfl rfl rfl rfl) (by rfl) (pa_cons (pv 0) (pa_cons (pv 4) pa_nil)))) pss_nil)
      (pss_one (ps_dput (hu_of hr) (pv 3) (pv 6) pe_bl rfl))))))),  fun Gs o F0 H0 Q r rt => ?_⟩
  obtain ⟨part, es, fp, p, rfl, hn, hz, hes, rfl⟩ := r
  show S _ _ _ [.fz (.str part), .fz (.list (es.map enE)), .raw (.ref fp), .un, .un, .un, .un]
  refine q_dnew (s_for (α := List Str) (fun _ seen => [.fz (.str part), .fz (.list (es.map enE)), .raw (.ref fp), .od (trK seen), .un, .un, .un]) (fun i seen => seen.length = i ∧ cnF p seen i (es.drop i) = cnF p [] 0 es) (it_enum (e_var rfl)) [] ⟨rfl, rfl⟩ (Wk.refl _) (fun F1 i seen d hd pp => ?_) fun seen pp => ?_)
  · obtain ⟨d', hq, rfl⟩ := enD_get _ _ _ _ hd
    obtain ⟨x, hx, rfl⟩ := map_get hq
    obtain ⟨hl, pp⟩ := pp
    have pp : cnF p seen i (es.drop i) = cnF p [] 0 es := pp
    rw [drop_get hx] at pp
    obtain ⟨h1, h2⟩ := hes x (List.mem_of_getElem? hx)
    have li : i < es.length := (List.getElem?_eq_some_iff.mp hx).1
    refine ⟨_, _, g_tup (gs_cons g_name (gs_cons g_name gs_nil)) rfl, ?_⟩
    rw [Nat.zero_add]
    show S _ _ _ [.fz (.str part), .fz (.list (es.map enE)), .raw (.ref fp), .od (trK seen), .fz (.int (i : Nat)), .fz (enE x), .un]
    refine q_asg (d := .str x.1) (e_op (x := .tuple (.str x.1 :: x.2)) (e_var rfl) e_int (ix_t (at_hd _ _))) ?_
    show S _ _ _ [.fz (.str part), .fz (.list (es.map enE)), .raw (.ref fp), .od (trK seen), .fz (.int (i : Nat)), .fz (enE x), .fz (.str x.1)]
    refine q_if (b := !namB x.1 || (decide (x.1 ∈ seen) || !p (enE x))) (t_or (t_not (t_tru (d := .bool (namB x.1)) (E.b (e_call (ds := [.str x.1]) (a_cons (e_var rfl) a_nil) ⟨x.1, rfl, h1, rfl⟩)) rfl)) fun _ => t_or (by rw [← trK_get]; exact t_din rfl (e_var rfl)) fun _ => t_not (t_tru (d := .bool (p (enE x))) (E.b (e_callA rfl (hn (List.ne_nil_of_mem (List.mem_of_getElem? hx))) (a_cons (e_var rfl) a_nil) h2)) rfl)) (fun y => ?_) fun y => s_next (n_go ?_)
    · have nz : ¬ (namB x.1 = true ∧ x.1 ∉ seen ∧ p (enE x) = true) := fun h => by
        rw [h.1, decide_eq_false h.2.1, h.2.2] at y; cases y
      rw [cnF, if_neg nz] at pp
      rw [← pp] at rt
      exact s_raise2 (e_var rfl) (e_var rfl) rt
    · have yz : namB x.1 = true ∧ x.1 ∉ seen ∧ p (enE x) = true := by
        simp only [Bool.or_eq_false_iff, Bool.not_eq_false', decide_eq_false_iff_not] at y
        exact y
      rw [cnF, if_pos yz] at pp
      refine s_dput (d := .bool true) rfl (e_var rfl) e_bl (by unfold trK; rw [List.length_map]; omega) (n_end (seen ++ [x.1]) ⟨by rw [List.length_append, hl]; rfl, pp⟩ ?_)
      rw [trK_put seen x.1 yz.2.1]
      exact .keep rfl (.keep rfl (.keep rfl (.keep rfl (.drop (.drop (.drop .nil))))))
  · obtain ⟨_, pp⟩ := pp
    have pp : cnF p seen _ (es.drop (enD 0 (es.map enE)).length) = cnF p [] 0 es := pp
    rw [enD_len, List.length_map, List.drop_length] at pp
    rw [← pp] at rt
    exact n_rt rt
end
section
variable {P : Program} {w : World} {K : PySem.W.Frag} {mg : Str → Option Value} {base : Heap} {f : Addr} {fd : FuncData} {Tb : List Addr} {k : Nat}
def spD2 (p : Int × Int) : PyData := .tuple [.int p.1, .int p.2]
theorem spD2_inj (x y : Int × Int) (h : spD2 x = spD2 y) : x = y := by
  obtain ⟨a, b⟩ := x
  obtain ⟨c, e⟩ := y
  have h := PyData.tuple.inj h
  injection h with h1 h2
  injection h2 with h2 _
  have h1 : a = c := PyData.int.inj h1
  have h2 : b = e := PyData.int.inj h2
  rw [h1, h2]
def winB (wk : Int) (ps : List (Int × Int)) : Bool := (decide ((1 : Int) ≤ (ps.length : Nat)) && decide (((ps.length : Nat) : Int) ≤ 8)) && ps.all fun p => spanB wk p.1 p.2
def R_win : List PyData → PyData → Prop := fun ds d => ∃ (wk : Int) (nm : PyData) (ps : List (Int × Int)), ds = [.int wk, .tuple [nm, .tuple (ps.map spD2)]] ∧ ps.length ≤ 1000 ∧ d = .bool (winB wk ps)
theorem ok_win {c Pt : Addr} (Fn : Fun K "is_window" "is_window" s_is_window f fd) (hm : mg "is_window" = some (.ref f)) (hb : Binds K fd ["week", "window"] []) (Z : Zb mg)
    (hns : PySem.W.nsIn K mainGlobals "is_window" = some (some (.ref f))) (ht : PySem.W.tabIn K "is_window" = some (c, Pt)) (TB_is_window : GxR.TabB base mg c Pt) (hP : GenT Tb Pt)
    (D_is_span : Df P w K mg base 1 "is_span" ["week", "span"] (spD K Tb R_span)) :
    Df P w K mg base 4 "is_window" ["week", "window"] (spD K Tb R_win) := by
  refine df_DT Fn hns ht sc_is_window hm hb (fun ds d h => by obtain ⟨_, _, _, rfl, _⟩ := h; rfl) fun A outer s H Ek hr => ⟨_, (pss_cons (ps_asg (pv 1) (pg_tupK (n := 2) K rfl (pgs_cons (pg_name (i := 2) sc_is_window.nd rfl (by first | exact .inl rfl | exact .inr rfl)) (pgs_cons (pg_name (i := 3) sc_is_window.nd rfl (by first | exact .inl rfl | exact .inr rfl)) pgs_nil))))
      (pss_one (ps_ret (pe_and (pe_chain op_le op_le pe_int (pe_callB (uLenK K) (by rfl) Z.len (by decide +kernel) (pa_cons (pv 3) pa_nil)) pe_int) (pe_one (GA.pe_allG (own := [("span", 4)]) hr (by rfl) sc_is_window.nd TB_is_window rfl (by rfl) Z.all (by decide +kernel) (blkOk_by (own := [("span", 4)]) (N := N_is_window) (sc := defScope s_is_window) (by decide +kernel)) (GA.genOk_by (by decide +kernel)) (pi_any (pv 3)) (fun _ _ _ _ _ _ _ => (pg_name (i := 4) sc_is_window.nd rfl (by first | exact .inl rfl | exact .inr rfl))) (fun _ _ _ _ _ _ _ hr => (pe_df D_is_span hr (by first | decide | exact Nat.le_refl _ | omega) (by rfl) (pa_cons (pv 0) (pa_cons (pv 4) pa_nil)))) (fun _ => rfl))))))),  fun ds d F0 H0 Q r rt => ?_⟩
  obtain ⟨wk, nm, ps, rfl, hz, rfl⟩ := r
  have lm : (((ps.map spD2).length : Nat) : Int) = ((ps.length : Nat) : Int) := by rw [List.length_map]
  show S _ _ _ [.fz (.int wk), .fz (.tuple [nm, .tuple (ps.map spD2)]), .un, .un, .un]
  refine q_asgT (e_var rfl) (g_tup (gs_cons g_name (gs_cons g_name gs_nil)) rfl) ?_
  show S _ _ _ [.fz (.int wk), .fz (.tuple [nm, .tuple (ps.map spD2)]), .fz nm, .fz (.tuple (ps.map spD2)), .un]
  unfold winB at rt
  rw [← lm] at rt
  refine s_ret (e_andV (e_chain (E.b e_int) (E.b (b_cb (ab_cons (E.b (e_var rfl)) ab_nil) len_t rfl)) (fun _ => E.b e_int) le_i fun _ => le_i) fun _ => e_allI (ix := [4]) hP spD2 spD2_inj ps (fun p => spanB wk p.1 p.2) (fun p => [.fz (.int wk), .fz (.tuple [nm, .tuple (ps.map spD2)]), .fz nm, .fz (.tuple (ps.map spD2)), .fz (spD2 p)]) (it_at (e_var rfl)) (fun F1 p hp => g_name) (by decide) fun F1 p hp => e_call (ds := [.int wk, spD2 p]) (a_cons (e_var rfl) (a_cons (e_var rfl) a_nil)) ⟨wk, p.1, p.2, rfl, rfl⟩) rt
end
theorem inD_str (a : Str) : ∀ (ns : List Str), inD (.str a) (ns.map .str) = decide (a ∈ ns)
  | [] => rfl
  | n :: ns => by
    have ih := inD_str a ns
    unfold inD inV at ih ⊢
    rw [List.map_cons, List.map_cons, List.any_cons, ih]
    show ((n == a) || _) = _
    rw [Bool.eq_iff_iff, Bool.or_eq_true, beq_iff_eq, decide_eq_true_iff, decide_eq_true_iff, List.mem_cons]
    exact or_congr eq_comm Iff.rfl
theorem scal_strs : ∀ (ns : List Str), (ns.map PyData.str).all scalD = true
  | [] => rfl
  | _ :: ns => by rw [List.map_cons, List.all_cons, scal_strs ns]; rfl
section
variable {P : Program} {w : World} {K : PySem.W.Frag} {mg : Str → Option Value} {base : Heap} {f : Addr} {fd : FuncData} {Tb : List Addr} {k : Nat}
def lvD (p : Str × Int) : PyData := .tuple [.str p.1, .int p.2]
theorem lvD_inj (x y : Str × Int) (h : lvD x = lvD y) : x = y := by
  obtain ⟨a, b⟩ := x
  obtain ⟨c, e⟩ := y
  have h := PyData.tuple.inj h
  injection h with h1 h2
  injection h2 with h2 _
  have h1 : a = c := PyData.str.inj h1
  have h2 : b = e := PyData.int.inj h2
  rw [h1, h2]
def polB (ns : List Str) (ls : List (Str × Int)) : Bool := (decide ((1 : Int) ≤ (ls.length : Nat)) && decide (((ls.length : Nat) : Int) ≤ 6)) && ls.all fun p => decide (p.1 ∈ ns) && (decide ((0 : Int) ≤ p.2) && decide (p.2 ≤ 1000))
def R_pol : List PyData → PyData → Prop := fun ds d => ∃ (ns : List Str) (nm : PyData) (ls : List (Str × Int)), ds = [.list (ns.map .str), .tuple [nm, .tuple (ls.map lvD)]] ∧ ls.length ≤ 1000 ∧ d = .bool (polB ns ls)
theorem ok_pol {c Pt : Addr} (Fn : Fun K "is_policy" "is_policy" s_is_policy f fd) (hm : mg "is_policy" = some (.ref f)) (hb : Binds K fd ["schedules", "policy"] []) (Z : Zb mg)
    (hns : PySem.W.nsIn K mainGlobals "is_policy" = some (some (.ref f))) (ht : PySem.W.tabIn K "is_policy" = some (c, Pt)) (TB_is_policy : GxR.TabB base mg c Pt) (hP : GenT Tb Pt) :
    Df P w K mg base 4 "is_policy" ["schedules", "policy"] (spD K Tb R_pol) := by
  refine df_DT Fn hns ht sc_is_policy hm hb (fun ds d h => by obtain ⟨_, _, _, rfl, _⟩ := h; rfl) fun A outer s H Ek hr => ⟨_, (pss_cons (ps_asg (pv 1) (pg_tupK (n := 2) K rfl (pgs_cons (pg_name (i := 2) sc_is_policy.nd rfl (by first | exact .inl rfl | exact .inr rfl)) (pgs_cons (pg_name (i := 3) sc_is_policy.nd rfl (by first | exact .inl rfl | exact .inr rfl)) pgs_nil))))
      (pss_cons (ps_if (pt_not (pt_chain op_le op_le pe_int (pe_callB (uLenK K) (by rfl) Z.len (by decide +kernel) (pa_cons (pv 3) pa_nil)) pe_int)) (pss_one (ps_ret pe_bl)) pss_nil)
      (pss_one (ps_ret (GA.pe_allG (own := [("schedule", 4), ("after", 5)]) hr (by rfl) sc_is_policy.nd TB_is_policy rfl (by rfl) Z.all (by decide +kernel) (blkOk_by (own := [("schedule", 4), ("after", 5)]) (N := N_is_policy) (sc := defScope s_is_policy) (by decide +kernel)) (GA.genOk_by (by decide +kernel)) (pi_any (pv 3)) (fun _ _ _ _ _ _ _ => (pg_tupK (n := 2) K rfl (pgs_cons (pg_name (i := 4) sc_is_policy.nd rfl (by first | exact .inl rfl | exact .inr rfl)) (pgs_cons (pg_name (i := 5) sc_is_policy.nd rfl (by first | exact .inl rfl | exact .inr rfl)) pgs_nil)))) (fun _ _ _ _ _ _ _ hr => (pe_and (pe_cmpR (uInK K) (pv 4) (pv 0) (by rfl)) (pe_one (pe_chain op_le op_le pe_int (pv 5) pe_int)))) (fun _ => rfl)))))),  fun ds d F0 H0 Q r rt => ?_⟩
  obtain ⟨ns, nm, ls, rfl, hz, rfl⟩ := r
  have lm : (((ls.map lvD).length : Nat) : Int) = ((ls.length : Nat) : Int) := by rw [List.length_map]
  show S _ _ _ [.fz (.list (ns.map .str)), .fz (.tuple [nm, .tuple (ls.map lvD)]), .un, .un, .un, .un]
  refine q_asgT (e_var rfl) (g_tup (gs_cons g_name (gs_cons g_name gs_nil)) rfl) ?_
  show S _ _ _ [.fz (.list (ns.map .str)), .fz (.tuple [nm, .tuple (ls.map lvD)]), .fz nm, .fz (.tuple (ls.map lvD)), .un, .un]
  unfold polB at rt
  rw [← lm] at rt
  refine q_if (b := !(decide ((1 : Int) ≤ ((ls.map lvD).length : Nat)) && decide ((((ls.map lvD).length : Nat) : Int) ≤ 6))) (t_not (t_test (e_chain (E.b e_int) (E.b (b_cb (ab_cons (E.b (e_var rfl)) ab_nil) len_t rfl)) (fun _ => E.b e_int) le_i fun _ => le_i))) (fun z => ?_) fun z => s_next (n_go ?_)
  · have z : (decide ((1 : Int) ≤ ((ls.map lvD).length : Nat)) && decide ((((ls.map lvD).length : Nat) : Int) ≤ 6)) = false := by simpa only [Bool.not_eq_true'] using z
    rw [z, Bool.false_and] at rt
    exact s_ret e_bl rt
  · have z : (decide ((1 : Int) ≤ ((ls.map lvD).length : Nat)) && decide ((((ls.map lvD).length : Nat) : Int) ≤ 6)) = true := by simpa only [Bool.not_eq_false'] using z
    rw [z, Bool.true_and] at rt
    refine s_ret (e_allI (ix := [4, 5]) hP lvD lvD_inj ls (fun p => decide (p.1 ∈ ns) && (decide ((0 : Int) ≤ p.2) && decide (p.2 ≤ 1000))) (fun p => [.fz (.list (ns.map .str)), .fz (.tuple [nm, .tuple (ls.map lvD)]), .fz nm, .fz (.tuple (ls.map lvD)), .fz (.str p.1), .fz (.int p.2)]) (it_at (e_var rfl)) (fun F1 p hp => g_tup (gs_cons g_name (gs_cons g_name gs_nil)) rfl) (by decide) fun F1 p hp => e_andV (by rw [← inD_str]; exact b_op (E.b (e_var rfl)) (E.b (e_var rfl)) (in_l rfl (scal_strs ns)) rfl) fun _ => e_chain (E.b e_int) (E.b (e_var rfl)) (fun _ => E.b e_int) le_i fun _ => le_i) rt
end
section
variable {P : Program} {w : World} {K : PySem.W.Frag} {mg : Str → Option Value} {base : Heap} {f : Addr} {fd : FuncData} {Tb : List Addr} {k : Nat}
abbrev LT : Int := 10000
structure Sti where
  a : Int
  b : Int
  p : Str
def stiD (x : Sti) : PyData := .tuple [.int x.a, .int x.b, .str x.p]
def stiB (ns : List Str) (x : Sti) : Bool := (decide ((0 : Int) ≤ x.a) && (decide (x.a < x.b) && decide (x.b ≤ LT))) && decide (x.p ∈ ns)
def R_sti : List PyData → PyData → Prop := fun ds d => ∃ (ns : List Str) (x : Sti), ds = [.list (ns.map .str), stiD x] ∧ d = .bool (stiB ns x)
theorem ok_sti (Fn : Fun K "is_standin" "is_standin" s_is_standin f fd) (hm : mg "is_standin" = some (.ref f)) (hb : Binds K fd ["persons", "standin"] []) (Z : Zb mg)
    (C_LAST_TIME : ∃ u, mg "LAST_TIME" = some u ∧ RelV (.int LT) u) :
    Df P w K mg base 1 "is_standin" ["persons", "standin"] (spD K Tb R_sti) := by
  refine df_D Fn sc_is_standin hm hb (fun ds d h => by obtain ⟨_, _, rfl, _⟩ := h; rfl) fun cdv A outer s H Ek hr => ⟨_, (pss_cons (ps_asg (pv 1) (pg_tupK (n := 3) K rfl (pgs_cons (pg_name (i := 2) sc_is_standin.nd rfl (by first | exact .inl rfl | exact .inr rfl)) (pgs_cons (pg_name (i := 3) sc_is_standin.nd rfl (by first | exact .inl rfl | exact .inr rfl)) (pgs_cons (pg_name (i := 4) sc_is_standin.nd rfl (by first | exact .inl rfl | exact .inr rfl)) pgs_nil)))))
      (pss_one (ps_ret (pe_and (pe_chain3 op_le uLt op_le pe_int (pv 2) (pv 3) (pe_gc C_LAST_TIME (by rfl))) (pe_one (pe_cmpR (uInK K) (pv 4) (pv 0) (by rfl))))))),  fun ds d F0 H0 Q r rt => ?_⟩
  obtain ⟨ns, ⟨a, b, p⟩, rfl, rfl⟩ := r
  show S _ _ _ [.fz (.list (ns.map .str)), .fz (.tuple [.int a, .int b, .str p]), .un, .un, .un]
  refine q_asgT (e_var rfl) (g_tup (gs_cons g_name (gs_cons g_name (gs_cons g_name gs_nil))) rfl) ?_
  show S _ _ _ [.fz (.list (ns.map .str)), .fz (.tuple [.int a, .int b, .str p]), .fz (.int a), .fz (.int b), .fz (.str p)]
  unfold stiB at rt
  exact s_ret (e_andV (e_chain3 (E.b e_int) (E.b (e_var rfl)) (fun _ => E.b (e_var rfl)) (fun _ _ => E.b e_int) le_i (fun _ => lt_i) fun _ _ => le_i) fun _ => by rw [← inD_str]; exact b_op (E.b (e_var rfl)) (E.b (e_var rfl)) (in_l rfl (scal_strs ns)) rfl) rt
end
section
variable {P : Program} {w : World} {K : PySem.W.Frag} {mg : Str → Option Value} {base : Heap} {f : Addr} {fd : FuncData} {Tb : List Addr} {k : Nat}
structure Lay where
  ms : List Str
  st : Int
  sh : Int
  sp : List (Int × Int)
def layD (x : Lay) : PyData := .tuple [.tuple (x.ms.map .str), .int x.st, .int x.sh, .tuple (x.sp.map spD2)]
def layB (wk : Int) (ns : List Str) (x : Lay) : Bool := ((decide ((1 : Int) ≤ (x.ms.length : Nat)) && decide (((x.ms.length : Nat) : Int) ≤ 10)) && x.ms.all fun m => decide (m ∈ ns)) && (((decide ((0 : Int) ≤ x.st) && decide (x.st ≤ LT)) && (decide ((1 : Int) ≤ x.sh) && decide (x.sh ≤ 1000))) && x.sp.all fun p => spanB wk p.1 p.2)
def R_lay : List PyData → PyData → Prop := fun ds d => ∃ (wk : Int) (ns : List Str) (x : Lay), ds = [.int wk, .list (ns.map .str), layD x] ∧ x.ms.length ≤ 1000 ∧ x.sp.length ≤ 1000 ∧ d = .bool (layB wk ns x)
theorem str_inj (x y : Str) (h : PyData.str x = PyData.str y) : x = y := PyData.str.inj h
theorem ok_lay {c Pt : Addr} (Fn : Fun K "is_layer" "is_layer" s_is_layer f fd) (hm : mg "is_layer" = some (.ref f)) (hb : Binds K fd ["week", "persons", "layer"] []) (Z : Zb mg)
    (hns : PySem.W.nsIn K mainGlobals "is_layer" = some (some (.ref f))) (ht : PySem.W.tabIn K "is_layer" = some (c, Pt)) (TB_is_layer : GxR.TabB base mg c Pt) (hP : GenT Tb Pt)
    (C_LAST_TIME : ∃ u, mg "LAST_TIME" = some u ∧ RelV (.int LT) u) (D_is_span : Df P w K mg base 1 "is_span" ["week", "span"] (spD K Tb R_span)) :
    Df P w K mg base 4 "is_layer" ["week", "persons", "layer"] (spD K Tb R_lay) := by
  refine df_DT Fn hns ht sc_is_layer hm hb (fun ds d h => by obtain ⟨_, _, _, rfl, _⟩ := h; rfl) fun A outer s H Ek hr => ⟨_, (pss_cons (ps_asg (pv 2) (pg_tupK (n := 4) K rfl (pgs_cons (pg_name (i := 3) sc_is_layer.nd rfl (by first | exact .inl rfl | exact .inr rfl)) (pgs_cons (pg_name (i := 4) sc_is_layer.nd rfl (by first | exact .inl rfl | exact .inr rfl)) (pgs_cons (pg_name (i := 5) sc_is_layer.nd rfl (by first | exact .inl rfl | exact .inr rfl)) (pgs_cons (pg_name (i := 6) sc_is_layer.nd rfl (by first | exact .inl rfl | exact .inr rfl)) pgs_nil))))))
      (pss_cons (ps_if (PW.pt (pw_or (pt_not (pt_chain op_le op_le pe_int (pe_callB (uLenK K) (by rfl) Z.len (by decide +kernel) (pa_cons (pv 3) pa_nil)) pe_int)) (pw_or1 (pt_not (pt_truthK K (GA.pe_allG (own := [("member", 7)]) hr (by rfl) sc_is_layer.nd TB_is_layer rfl (by rfl) Z.all (by decide +kernel) (blkOk_by (own := [("member", 7)]) (N := N_is_layer) (sc := defScope s_is_layer) (by decide +kernel)) (GA.genOk_by (by decide +kernel)) (pi_any (pv 3)) (fun _ _ _ _ _ _ _ => (pg_name (i := 7) sc_is_layer.nd rfl (by first | exact .inl rfl | exact .inr rfl))) (fun _ _ _ _ _ _ _ hr => (pe_cmpR (uInK K) (pv 7) (pv 1) (by rfl))) (fun _ => rfl)) (by intro _; rfl)))))) (pss_one (ps_ret pe_bl)) pss_nil)
      (pss_cons (ps_if (PW.pt (pw_or (pt_not (pt_chain op_le op_le pe_int (pv 4) (pe_gc C_LAST_TIME (by rfl)))) (pw_or1 (pt_not (pt_chain op_le op_le pe_int (pv 5) pe_int))))) (pss_one (ps_ret pe_bl)) pss_nil)
      (pss_one (ps_ret (GA.pe_allG (own := [("span", 8)]) hr (by rfl) sc_is_layer.nd TB_is_layer rfl (by rfl) Z.all (by decide +kernel) (blkOk_by (own := [("span", 8)]) (N := N_is_layer) (sc := defScope s_is_layer) (by decide +kernel)) (GA.genOk_by (by decide +kernel)) (pi_any (pv 6)) (fun _ _ _ _ _ _ _ => (pg_name (i := 8) sc_is_layer.nd rfl (by first | exact .inl rfl | exact .inr rfl))) (fun _ _ _ _ _ _ _ hr => (pe_df D_is_span hr (by first | decide | exact Nat.le_refl _ | omega) (by rfl) (pa_cons (pv 0) (pa_cons (pv 8) pa_nil)))) (fun _ => rfl))))))),  fun ds d F0 H0 Q r rt => ?_⟩
  obtain ⟨wk, ns, ⟨ms, st, sh, sp⟩, rfl, z1, z2, rfl⟩ := r
  have lm : (((ms.map PyData.str).length : Nat) : Int) = ((ms.length : Nat) : Int) := by rw [List.length_map]
  show S _ _ _ [.fz (.int wk), .fz (.list (ns.map .str)), .fz (.tuple [.tuple (ms.map .str), .int st, .int sh, .tuple (sp.map spD2)]), .un, .un, .un, .un, .un, .un]
  refine q_asgT (e_var rfl) (g_tup (gs_cons g_name (gs_cons g_name (gs_cons g_name (gs_cons g_name gs_nil)))) rfl) ?_
  show S _ _ _ [.fz (.int wk), .fz (.list (ns.map .str)), .fz (.tuple [.tuple (ms.map .str), .int st, .int sh, .tuple (sp.map spD2)]), .fz (.tuple (ms.map .str)), .fz (.int st), .fz (.int sh), .fz (.tuple (sp.map spD2)), .un, .un]
  have rt : Rt _ Q (.bool (((decide ((1 : Int) ≤ (ms.length : Nat)) && decide (((ms.length : Nat) : Int) ≤ 10)) && ms.all fun m => decide (m ∈ ns)) && (((decide ((0 : Int) ≤ st) && decide (st ≤ LT)) && (decide ((1 : Int) ≤ sh) && decide (sh ≤ 1000))) && sp.all fun p => spanB wk p.1 p.2))) := rt
  rw [← lm] at rt
  generalize hb1 : (decide ((1 : Int) ≤ ((ms.map PyData.str).length : Nat)) && decide ((((ms.map PyData.str).length : Nat) : Int) ≤ 10)) = b1 at rt
  generalize hb2 : (ms.all fun m => decide (m ∈ ns)) = b2 at rt
  refine q_if (b := !b1 || !b2) (t_or (t_not (t_test (by rw [← hb1]; exact e_chain (E.b e_int) (E.b (b_cb (ab_cons (E.b (e_var rfl)) ab_nil) len_t rfl)) (fun _ => E.b e_int) le_i fun _ => le_i))) fun _ => t_not (t_tru (d := .bool b2) (by rw [← hb2]; exact E.b (e_allI (ix := [7]) hP PyData.str str_inj ms (fun m => decide (m ∈ ns)) (fun m => [.fz (.int wk), .fz (.list (ns.map .str)), .fz (.tuple [.tuple (ms.map .str), .int st, .int sh, .tuple (sp.map spD2)]), .fz (.tuple (ms.map .str)), .fz (.int st), .fz (.int sh), .fz (.tuple (sp.map spD2)), .fz (.str m), .un]) (it_at (e_var rfl)) (fun F1 m hm => g_name) (by decide) fun F1 m hm => by rw [← inD_str]; exact b_op (E.b (e_var rfl)) (E.b (e_var rfl)) (in_l rfl (scal_strs ns)) rfl)) rfl)) (fun z => ?_) fun z => s_next (n_go ?_)
  · rw [show (b1 && b2) = false from (by cases b1 <;> cases b2 <;> first | rfl | cases z), Bool.false_and] at rt
    exact s_ret e_bl rt
  · rw [show (b1 && b2) = true from (by cases b1 <;> cases b2 <;> first | rfl | cases z), Bool.true_and] at rt
    generalize hb3 : (decide ((0 : Int) ≤ st) && decide (st ≤ LT)) = b3 at rt
    generalize hb4 : (decide ((1 : Int) ≤ sh) && decide (sh ≤ 1000)) = b4 at rt
    refine q_if (b := !b3 || !b4) (t_or (t_not (t_test (by rw [← hb3]; exact e_chain (E.b e_int) (E.b (e_var rfl)) (fun _ => E.b e_int) le_i fun _ => le_i))) fun _ => t_not (t_test (by rw [← hb4]; exact e_chain (E.b e_int) (E.b (e_var rfl)) (fun _ => E.b e_int) le_i fun _ => le_i))) (fun z => ?_) fun z => s_next (n_go ?_)
    · rw [show (b3 && b4) = false from (by cases b3 <;> cases b4 <;> first | rfl | cases z), Bool.false_and] at rt
      exact s_ret e_bl rt
    · rw [show (b3 && b4) = true from (by cases b3 <;> cases b4 <;> first | rfl | cases z), Bool.true_and] at rt
      exact s_ret (e_allI (ix := [8]) hP spD2 spD2_inj sp (fun p => spanB wk p.1 p.2) (fun p => [.fz (.int wk), .fz (.list (ns.map .str)), .fz (.tuple [.tuple (ms.map .str), .int st, .int sh, .tuple (sp.map spD2)]), .fz (.tuple (ms.map .str)), .fz (.int st), .fz (.int sh), .fz (.tuple (sp.map spD2)), .un, .fz (spD2 p)]) (it_at (e_var rfl)) (fun F1 p hp => g_name) (by decide) fun F1 p hp => e_call (ds := [.int wk, spD2 p]) (a_cons (e_var rfl) (a_cons (e_var rfl) a_nil)) ⟨wk, p.1, p.2, rfl, rfl⟩) rt
end
section
variable {P : Program} {w : World} {K : PySem.W.Frag} {mg : Str → Option Value} {base : Heap} {f : Addr} {fd : FuncData} {Tb : List Addr} {k : Nat}
theorem mapI {α : Type} {g : α → PyData} (h : ∀ x y, g x = g y → x = y) : ∀ (xs ys : List α), xs.map g = ys.map g → xs = ys
  | [], [], _ => rfl
  | [], _ :: _, e => by cases e
  | _ :: _, [], e => by cases e
  | x :: xs, y :: ys, e => by
    rw [List.map_cons, List.map_cons] at e
    injection e with e1 e2
    rw [h x y e1, mapI h xs ys e2]
theorem layD_inj (x y : Lay) (h : layD x = layD y) : x = y := by
  obtain ⟨a1, a2, a3, a4⟩ := x
  obtain ⟨b1, b2, b3, b4⟩ := y
  have h := PyData.tuple.inj h
  injection h with h1 h
  injection h with h2 h
  injection h with h3 h
  injection h with h4 _
  have h1 : a1 = b1 := mapI str_inj _ _ (PyData.tuple.inj h1)
  have h2 : a2 = b2 := PyData.int.inj h2
  have h3 : a3 = b3 := PyData.int.inj h3
  have h4 : a4 = b4 := mapI spD2_inj _ _ (PyData.tuple.inj h4)
  rw [h1, h2, h3, h4]
theorem stiD_inj (x y : Sti) (h : stiD x = stiD y) : x = y := by
  obtain ⟨a1, a2, a3⟩ := x
  obtain ⟨b1, b2, b3⟩ := y
  have h := PyData.tuple.inj h
  injection h with h1 h
  injection h with h2 h
  injection h with h3 _
  have h1 : a1 = b1 := PyData.int.inj h1
  have h2 : a2 = b2 := PyData.int.inj h2
  have h3 : a3 = b3 := PyData.str.inj h3
  rw [h1, h2, h3]
def schB (wk : Int) (ns : List Str) (ls : List Lay) (ts : List Sti) : Bool := !(decide (((ls.length : Nat) : Int) > 6) || decide (((ts.length : Nat) : Int) > 20)) && (ls.all (layB wk ns) && ts.all (stiB ns))
def R_sch : List PyData → PyData → Prop := fun ds d => ∃ (wk : Int) (ns : List Str) (nm : PyData) (ls : List Lay) (ts : List Sti), ds = [.int wk, .list (ns.map .str), .tuple [nm, .tuple (ls.map layD), .tuple (ts.map stiD)]] ∧ ls.length ≤ 1000 ∧ ts.length ≤ 1000 ∧ (∀ x ∈ ls, x.ms.length ≤ 1000 ∧ x.sp.length ≤ 1000) ∧ d = .bool (schB wk ns ls ts)
theorem ok_sch {c Pt : Addr} (Fn : Fun K "is_schedule" "is_schedule" s_is_schedule f fd) (hm : mg "is_schedule" = some (.ref f)) (hb : Binds K fd ["week", "persons", "schedule"] []) (Z : Zb mg)
    (hns : PySem.W.nsIn K mainGlobals "is_schedule" = some (some (.ref f))) (ht : PySem.W.tabIn K "is_schedule" = some (c, Pt)) (TB_is_schedule : GxR.TabB base mg c Pt) (hP : GenT Tb Pt)
    (D_is_layer : Df P w K mg base 4 "is_layer" ["week", "persons", "layer"] (spD K Tb R_lay)) (D_is_standin : Df P w K mg base 1 "is_standin" ["persons", "standin"] (spD K Tb R_sti)) :
    Df P w K mg base 7 "is_schedule" ["week", "persons", "schedule"] (spD K Tb R_sch) := by
  refine df_DT Fn hns ht sc_is_schedule hm hb (fun ds d h => by obtain ⟨_, _, _, _, _, rfl, _⟩ := h; rfl) fun A outer s H Ek hr => ⟨_, (pss_cons (ps_asg (pv 2) (pg_tupK (n := 3) K rfl (pgs_cons (pg_name (i := 3) sc_is_schedule.nd rfl (by first | exact .inl rfl | exact .inr rfl)) (pgs_cons (pg_name (i := 4) sc_is_schedule.nd rfl (by first | exact .inl rfl | exact .inr rfl)) (pgs_cons (pg_name (i := 5) sc_is_schedule.nd rfl (by first | exact .inl rfl | exact .inr rfl)) pgs_nil)))))
      (pss_cons (ps_if (PW.pt (pw_or (pt_cmpR op_gt (pe_callB (uLenK K) (by rfl) Z.len (by decide +kernel) (pa_cons (pv 4) pa_nil)) pe_int (nomark _)) (pw_or1 (pt_cmpR op_gt (pe_callB (uLenK K) (by rfl) Z.len (by decide +kernel) (pa_cons (pv 5) pa_nil)) pe_int (nomark _))))) (pss_one (ps_ret pe_bl)) pss_nil)
      (pss_cons (ps_if (pt_not (pt_truthK K (GA.pe_allG (own := [("layer", 6)]) hr (by rfl) sc_is_schedule.nd TB_is_schedule rfl (by rfl) Z.all (by decide +kernel) (blkOk_by (own := [("layer", 6)]) (N := N_is_schedule) (sc := defScope s_is_schedule) (by decide +kernel)) (GA.genOk_by (by decide +kernel)) (pi_any (pv 4)) (fun _ _ _ _ _ _ _ => (pg_name (i := 6) sc_is_schedule.nd rfl (by first | exact .inl rfl | exact .inr rfl))) (fun _ _ _ _ _ _ _ hr => (pe_df D_is_layer hr (by first | decide | exact Nat.le_refl _ | omega) (by rfl) (pa_cons (pv 0) (pa_cons (pv 1) (pa_cons (pv 6) pa_nil))))) (fun _ => rfl)) (by intro _; rfl))) (pss_one (ps_ret pe_bl)) pss_nil)
      (pss_one (ps_ret (GA.pe_allG (own := [("standin", 7)]) hr (by rfl) sc_is_schedule.nd TB_is_schedule rfl (by rfl) Z.all (by decide +kernel) (blkOk_by (own := [("standin", 7)]) (N := N_is_schedule) (sc := defScope s_is_schedule) (by decide +kernel)) (GA.genOk_by (by decide +kernel)) (pi_any (pv 5)) (fun _ _ _ _ _ _ _ => (pg_name (i := 7) sc_is_schedule.nd rfl (by first | exact .inl rfl | exact .inr rfl))) (fun _ _ _ _ _ _ _ hr => (pe_df D_is_standin hr (by first | decide | exact Nat.le_refl _ | omega) (by rfl) (pa_cons (pv 1) (pa_cons (pv 7) pa_nil)))) (fun _ => rfl))))))),  fun ds d F0 H0 Q r rt => ?_⟩
  obtain ⟨wk, ns, nm, ls, ts, rfl, z1, z2, z3, rfl⟩ := r
  have l1 : (((ls.map layD).length : Nat) : Int) = ((ls.length : Nat) : Int) := by rw [List.length_map]
  have l2 : (((ts.map stiD).length : Nat) : Int) = ((ts.length : Nat) : Int) := by rw [List.length_map]
  show S _ _ _ [.fz (.int wk), .fz (.list (ns.map .str)), .fz (.tuple [nm, .tuple (ls.map layD), .tuple (ts.map stiD)]), .un, .un, .un, .un, .un]
  refine q_asgT (e_var rfl) (g_tup (gs_cons g_name (gs_cons g_name (gs_cons g_name gs_nil))) rfl) ?_
  show S _ _ _ [.fz (.int wk), .fz (.list (ns.map .str)), .fz (.tuple [nm, .tuple (ls.map layD), .tuple (ts.map stiD)]), .fz nm, .fz (.tuple (ls.map layD)), .fz (.tuple (ts.map stiD)), .un, .un]
  unfold schB at rt
  rw [← l1, ← l2] at rt
  generalize hb2 : ls.all (layB wk ns) = b2 at rt
  refine q_if (b := decide ((((ls.map layD).length : Nat) : Int) > 6) || decide ((((ts.map stiD).length : Nat) : Int) > 20)) (t_or (t_test (b_op (E.b (b_cb (ab_cons (E.b (e_var rfl)) ab_nil) len_t rfl)) (E.b e_int) gt_i rfl)) fun _ => t_test (b_op (E.b (b_cb (ab_cons (E.b (e_var rfl)) ab_nil) len_t rfl)) (E.b e_int) gt_i rfl)) (fun z => ?_) fun z => s_next (n_go ?_)
  · rw [z] at rt
    exact s_ret e_bl rt
  · rw [z, Bool.not_false, Bool.true_and] at rt
    refine q_if (b := !b2) (t_not (t_tru (d := .bool b2) (by rw [← hb2]; exact E.b (e_allI (ix := [6]) hP layD layD_inj ls (layB wk ns) (fun m => [.fz (.int wk), .fz (.list (ns.map .str)), .fz (.tuple [nm, .tuple (ls.map layD), .tuple (ts.map stiD)]), .fz nm, .fz (.tuple (ls.map layD)), .fz (.tuple (ts.map stiD)), .fz (layD m), .un]) (it_at (e_var rfl)) (fun F1 m hm => g_name) (by decide) fun F1 m hm => e_call (ds := [.int wk, .list (ns.map .str), layD m]) (a_cons (e_var rfl) (a_cons (e_var rfl) (a_cons (e_var rfl) a_nil))) ⟨wk, ns, m, rfl, (z3 m hm).1, (z3 m hm).2, rfl⟩)) rfl)) (fun z => ?_) fun z => s_next (n_go ?_)
    · have z : b2 = false := by cases b2 <;> first | rfl | cases z
      rw [z, Bool.false_and] at rt
      exact s_ret e_bl rt
    · have z : b2 = true := by cases b2 <;> first | rfl | cases z
      rw [z, Bool.true_and] at rt
      exact s_ret (e_allI (ix := [7]) hP stiD stiD_inj ts (stiB ns) (fun m => [.fz (.int wk), .fz (.list (ns.map .str)), .fz (.tuple [nm, .tuple (ls.map layD), .tuple (ts.map stiD)]), .fz nm, .fz (.tuple (ls.map layD)), .fz (.tuple (ts.map stiD)), .un, .fz (stiD m)]) (it_at (e_var rfl)) (fun F1 m hm => g_name) (by decide) fun F1 m hm => e_call (ds := [.list (ns.map .str), stiD m]) (a_cons (e_var rfl) (a_cons (e_var rfl) a_nil)) ⟨ns, m, rfl, rfl⟩) rt
end
theorem len_pos {t : Str} (h : lenB t = true) : 1 ≤ t.length ∧ t.length ≤ 20 := by
  unfold lenB at h
  rw [Bool.and_eq_true, decide_eq_true_iff, decide_eq_true_iff] at h
  omega
theorem at_hdC {t : Str} (h : 1 ≤ t.length) : atI t.cps.toList 0 = some (hdC t) := by
  have h' : 0 < t.cps.toList.length := by rw [Array.length_toList]; exact h
  rw [at_nat (by decide) (by omega)]
  unfold hdC
  rw [List.getD_eq_getElem?_getD]
  show t.cps.toList[0]? = _
  rw [List.getElem?_eq_getElem h']; rfl
def fCh : PyData → Bool
  | .str s => inC CH (hdC s)
  | _ => true
theorem fCh_all (t : Str) : (sgD t).all fCh = t.cps.toList.all (inC CH) := by
  unfold sgD
  rw [List.all_map]; rfl
section
variable {P : Program} {w : World} {K : PySem.W.Frag} {mg : Str → Option Value} {base : Heap} {f : Addr} {fd : FuncData} {Tb : List Addr} {k : Nat}
def R_isv : List PyData → PyData → Prop := fun ds d => ∃ t : Str, ds = [.str t] ∧ t.length ≤ 100000 ∧ d = .bool (valB t)
theorem ok_isv {c Pt : Addr} (Fn : Fun K "is_value" "is_value" s_is_value f fd) (hm : mg "is_value" = some (.ref f)) (hb : Binds K fd ["text"] []) (Z : Zb mg)
    (hns : PySem.W.nsIn K mainGlobals "is_value" = some (some (.ref f))) (ht : PySem.W.tabIn K "is_value" = some (c, Pt)) (TB_is_value : GxR.TabB base mg c Pt) (hP : GenT Tb Pt)
    (C_LONGEST_WORD : ∃ u, mg "LONGEST_WORD" = some u ∧ RelV (.int 20) u) (C_CHARACTERS : ∃ u, mg "CHARACTERS" = some u ∧ RelV (.str CH) u) :
    Df P w K mg base 2 "is_value" ["text"] (spD K Tb R_isv) := by
  refine df_DT Fn hns ht sc_is_value hm hb (fun ds d h => by obtain ⟨_, rfl, _⟩ := h; rfl) fun A outer s H Ek hr => ⟨_, (pss_one (ps_ret (pe_and (pe_chain op_le op_le pe_int (pe_callB (uLenK K) (by rfl) Z.len (by decide +kernel) (pa_cons (pv 0) pa_nil)) (pe_gc C_LONGEST_WORD (by rfl))) (pe_one (GA.pe_allG (own := [("character", 1)]) hr (by rfl) sc_is_value.nd TB_is_value rfl (by rfl) Z.all (by decide +kernel) (blkOk_by (own := [("character", 1)]) (N := N_is_value) (sc := defScope s_is_value) (by decide +kernel)) (GA.genOk_by (by decide +kernel)) (pi_any (pv 0)) (fun _ _ _ _ _ _ _ => (pg_name (i := 1) sc_is_value.nd rfl (by first | exact .inl rfl | exact .inr rfl))) (fun _ _ _ _ _ _ _ hr => (pe_cmpR (uInK K) (pv 1) (pe_gc C_CHARACTERS (by rfl)) (by rfl))) (fun _ => rfl)))))),  fun ds d F0 H0 Q r rt => ?_⟩
  obtain ⟨t, rfl, hl, rfl⟩ := r
  unfold valB at rt
  rw [← fCh_all, ← quant_all] at rt
  refine s_ret (e_andV (e_chain (E.b e_int) (E.b (b_cb (ab_cons (E.b (e_var rfl)) ab_nil) (len_s hl) rfl)) (fun _ => E.b e_int) le_i fun _ => le_i) fun _ => e_quant (ix := [1]) hP fCh (fun y => [.fz (.str t), .fz y]) (it_as (e_var rfl)) (fun F1 d hd => g_name) (by decide) fun F1 d hd => ?_) rt
  obtain ⟨c, _, rfl⟩ := List.mem_map.mp hd
  exact b_op (E.b (e_var rfl)) (E.b e_str) in_sg rfl
theorem ok_isn (Fn : Fun K "is_name" "is_name" s_is_name f fd) (hm : mg "is_name" = some (.ref f)) (hb : Binds K fd ["text"] []) (Z : Zb mg)
    (C_LETTERS : ∃ u, mg "LETTERS" = some u ∧ RelV (.str LE) u)
    (D_is_value : Df P w K mg base 2 "is_value" ["text"] (spD K Tb R_isv)) :
    Df P w K mg base 3 "is_name" ["text"] (spD K Tb R_isn) := by
  refine df_D Fn sc_is_name hm hb (fun ds d h => by obtain ⟨_, rfl, _⟩ := h; rfl) fun cdv A outer s H Ek hr => ⟨_, (pss_one (ps_ret (pe_and (pe_df D_is_value hr (by first | decide | exact Nat.le_refl _ | omega) (by rfl) (pa_cons (pv 0) pa_nil)) (pe_one (pe_cmpR (uInK K) (pe_ix (ix_seqK K) (pv 0) pe_int (fun _ _ => rfl)) (pe_gc C_LETTERS (by rfl)) (by rfl)))))),  fun ds d F0 H0 Q r rt => ?_⟩
  obtain ⟨t, rfl, hl, rfl⟩ := r
  refine s_ret (e_andV (e_call (ds := [.str t]) (a_cons (e_var rfl) a_nil) ⟨t, rfl, hl, rfl⟩) fun h => ?_) rt
  have h1 : lenB t = true := by unfold valB at h; exact (Bool.and_eq_true_iff.mp h).1
  exact b_op (E.b (e_op (e_var rfl) e_int (ix_s hl (at_hdC (len_pos h1).1)))) (E.b e_str) in_sg rfl
end
section
variable {P : Program} {w : World} {K : PySem.W.Frag} {mg : Str → Option Value} {base : Heap} {f : Addr} {fd : FuncData} {Tb : List Addr} {k : Nat}
def RSV : Str := "zzzzzzzzzzzzzzzzzzzz"
structure Mt where
  nm : Str
  vs : List Str
  inn : Bool
def mtD (x : Mt) : PyData := .tuple [.str x.nm, .tuple (x.vs.map .str), .bool x.inn]
theorem mtD_inj (x y : Mt) (h : mtD x = mtD y) : x = y := by
  obtain ⟨a1, a2, a3⟩ := x
  obtain ⟨b1, b2, b3⟩ := y
  have h := PyData.tuple.inj h
  injection h with h1 h
  injection h with h2 h
  injection h with h3 _
  have h1 : a1 = b1 := PyData.str.inj h1
  have h2 : a2 = b2 := mapI str_inj _ _ (PyData.tuple.inj h2)
  have h3 : a3 = b3 := PyData.bool.inj h3
  rw [h1, h2, h3]
def matB (x : Mt) : Bool := (namB x.nm && (decide ((1 : Int) ≤ (x.vs.length : Nat)) && decide (((x.vs.length : Nat) : Int) ≤ 6))) && x.vs.all fun v => decide (v = "") || valB v
/-- what may be asked of a matcher -/
def MtS (x : Mt) : Prop := x.nm.length ≤ 100000 ∧ x.vs.length ≤ 1000 ∧ ∀ v ∈ x.vs, v.length ≤ 100000
def R_mat : List PyData → PyData → Prop := fun ds d => ∃ x : Mt, ds = [mtD x] ∧ MtS x ∧ d = .bool (matB x)
theorem ok_mat {c Pt : Addr} (Fn : Fun K "is_matcher" "is_matcher" s_is_matcher f fd) (hm : mg "is_matcher" = some (.ref f)) (hb : Binds K fd ["matcher"] []) (Z : Zb mg)
    (hns : PySem.W.nsIn K mainGlobals "is_matcher" = some (some (.ref f))) (ht : PySem.W.tabIn K "is_matcher" = some (c, Pt)) (TB_is_matcher : GxR.TabB base mg c Pt) (hP : GenT Tb Pt)
    (C_MOST_VALUES : ∃ u, mg "MOST_VALUES" = some u ∧ RelV (.int 6) u) (D_is_value : Df P w K mg base 2 "is_value" ["text"] (spD K Tb R_isv)) (D_is_name : Df P w K mg base 3 "is_name" ["text"] (spD K Tb R_isn)) :
    Df P w K mg base 5 "is_matcher" ["matcher"] (spD K Tb R_mat) := by
  refine df_DT Fn hns ht sc_is_matcher hm hb (fun ds d h => by obtain ⟨_, rfl, _⟩ := h; rfl) fun A outer s H Ek hr => ⟨_, (pss_cons (ps_asg (pv 0) (pg_tupK (n := 3) K rfl (pgs_cons (pg_name (i := 1) sc_is_matcher.nd rfl (by first | exact .inl rfl | exact .inr rfl)) (pgs_cons (pg_name (i := 2) sc_is_matcher.nd rfl (by first | exact .inl rfl | exact .inr rfl)) (pgs_cons (pg_name (i := 3) sc_is_matcher.nd rfl (by first | exact .inl rfl | exact .inr rfl)) pgs_nil)))))
      (pss_cons (ps_if (PW.pt (pw_or (pt_not (pt_truthK K (pe_df D_is_name hr (by first | decide | exact Nat.le_refl _ | omega) (by rfl) (pa_cons (pv 1) pa_nil)) (by intro _; rfl))) (pw_or1 (pt_not (pt_chain op_le op_le pe_int (pe_callB (uLenK K) (by rfl) Z.len (by decide +kernel) (pa_cons (pv 2) pa_nil)) (pe_gc C_MOST_VALUES (by rfl))))))) (pss_one (ps_ret pe_bl)) pss_nil)
      (pss_one (ps_ret (GA.pe_allG (own := [("value", 4)]) hr (by rfl) sc_is_matcher.nd TB_is_matcher rfl (by rfl) Z.all (by decide +kernel) (blkOk_by (own := [("value", 4)]) (N := N_is_matcher) (sc := defScope s_is_matcher) (by decide +kernel)) (GA.genOk_by (by decide +kernel)) (pi_any (pv 2)) (fun _ _ _ _ _ _ _ => (pg_name (i := 4) sc_is_matcher.nd rfl (by first | exact .inl rfl | exact .inr rfl))) (fun _ _ _ _ _ _ _ hr => (pe_or (pe_cmpR (uEqPK K hr.units) (pv 4) pe_str (nomark _)) (pe_one (pe_df D_is_value hr (by first | decide | exact Nat.le_refl _ | omega) (by rfl) (pa_cons (pv 4) pa_nil))))) (fun _ => rfl)))))),  fun ds d F0 H0 Q r rt => ?_⟩
  obtain ⟨⟨nm, vs, inn⟩, rfl, ⟨z1, z2, z3⟩, rfl⟩ := r
  have z1 : nm.length ≤ 100000 := z1
  have z2 : vs.length ≤ 1000 := z2
  have z3 : ∀ v ∈ vs, v.length ≤ 100000 := z3
  have lm : (((vs.map PyData.str).length : Nat) : Int) = ((vs.length : Nat) : Int) := by rw [List.length_map]
  show S _ _ _ [.fz (.tuple [.str nm, .tuple (vs.map .str), .bool inn]), .un, .un, .un, .un]
  refine q_asgT (e_var rfl) (g_tup (gs_cons g_name (gs_cons g_name (gs_cons g_name gs_nil))) rfl) ?_
  show S _ _ _ [.fz (.tuple [.str nm, .tuple (vs.map .str), .bool inn]), .fz (.str nm), .fz (.tuple (vs.map .str)), .fz (.bool inn), .un]
  have rt : Rt _ Q (.bool ((namB nm && (decide ((1 : Int) ≤ (vs.length : Nat)) && decide (((vs.length : Nat) : Int) ≤ 6))) && vs.all fun v => decide (v = "") || valB v)) := rt
  rw [← lm] at rt
  generalize hb1 : (decide ((1 : Int) ≤ ((vs.map PyData.str).length : Nat)) && decide ((((vs.map PyData.str).length : Nat) : Int) ≤ 6)) = b1 at rt
  generalize hb2 : namB nm = b2 at rt
  refine q_if (b := !b2 || !b1) (t_or (t_not (t_tru (d := .bool b2) (E.b (by rw [← hb2]; exact e_call (ds := [.str nm]) (a_cons (e_var rfl) a_nil) ⟨nm, rfl, z1, rfl⟩)) rfl)) fun _ => t_not (t_test (by rw [← hb1]; exact e_chain (E.b e_int) (E.b (b_cb (ab_cons (E.b (e_var rfl)) ab_nil) len_t rfl)) (fun _ => E.b e_int) le_i fun _ => le_i))) (fun z => ?_) fun z => s_next (n_go ?_)
  · rw [show (b2 && b1) = false from (by cases b1 <;> cases b2 <;> first | rfl | cases z), Bool.false_and] at rt
    exact s_ret e_bl rt
  · rw [show (b2 && b1) = true from (by cases b1 <;> cases b2 <;> first | rfl | cases z), Bool.true_and] at rt
    exact s_ret (e_allI (ix := [4]) hP PyData.str str_inj vs (fun v => decide (v = "") || valB v) (fun v => [.fz (.tuple [.str nm, .tuple (vs.map .str), .bool inn]), .fz (.str nm), .fz (.tuple (vs.map .str)), .fz (.bool inn), .fz (.str v)]) (it_at (e_var rfl)) (fun F1 v hv => g_name) (by decide) fun F1 v hv => e_orV (b_op (E.b (e_var rfl)) (E.b e_str) eqP_s rfl) fun _ => e_call (ds := [.str v]) (a_cons (e_var rfl) a_nil) ⟨v, rfl, z3 v hv, rfl⟩) rt
def matsB (xs : List Mt) : Bool := !decide (((xs.length : Nat) : Int) > 6) && xs.all fun x => matB x && !decide (x.nm = RSV)
def R_mts : List PyData → PyData → Prop := fun ds d => ∃ xs : List Mt, ds = [.tuple (xs.map mtD)] ∧ xs.length ≤ 1000 ∧ (∀ x ∈ xs, MtS x) ∧ d = .bool (matsB xs)
theorem ok_mts {c Pt : Addr} (Fn : Fun K "are_matchers" "are_matchers" s_are_matchers f fd) (hm : mg "are_matchers" = some (.ref f)) (hb : Binds K fd ["matchers"] []) (Z : Zb mg)
    (hns : PySem.W.nsIn K mainGlobals "are_matchers" = some (some (.ref f))) (ht : PySem.W.tabIn K "are_matchers" = some (c, Pt)) (TB_are_matchers : GxR.TabB base mg c Pt) (hP : GenT Tb Pt)
    (C_RESERVED : ∃ u, mg "RESERVED" = some u ∧ RelV (.str RSV) u) (D_is_matcher : Df P w K mg base 5 "is_matcher" ["matcher"] (spD K Tb R_mat)) :
    Df P w K mg base 8 "are_matchers" ["matchers"] (spD K Tb R_mts) := by
  refine df_DT Fn hns ht sc_are_matchers hm hb (fun ds d h => by obtain ⟨_, rfl, _⟩ := h; rfl) fun A outer s H Ek hr => ⟨_, (pss_cons (ps_if (pt_cmpR op_gt (pe_callB (uLenK K) (by rfl) Z.len (by decide +kernel) (pa_cons (pv 0) pa_nil)) pe_int (nomark _)) (pss_one (ps_ret pe_bl)) pss_nil)
      (pss_one (ps_ret (GA.pe_allG (own := [("matcher", 1)]) hr (by rfl) sc_are_matchers.nd TB_are_matchers rfl (by rfl) Z.all (by decide +kernel) (blkOk_by (own := [("matcher", 1)]) (N := N_are_matchers) (sc := defScope s_are_matchers) (by decide +kernel)) (GA.genOk_by (by decide +kernel)) (pi_any (pv 0)) (fun _ _ _ _ _ _ _ => (pg_name (i := 1) sc_are_matchers.nd rfl (by first | exact .inl rfl | exact .inr rfl))) (fun _ _ _ _ _ _ _ hr => (pe_and (pe_df D_is_matcher hr (by first | decide | exact Nat.le_refl _ | omega) (by rfl) (pa_cons (pv 1) pa_nil)) (pe_one (pe_cmpR (uNePK K hr.units) (pe_ix (ix_seqK K) (pv 1) pe_int (fun _ _ => rfl)) (pe_gc C_RESERVED (by rfl)) (nomark _))))) (fun _ => rfl))))),  fun ds d F0 H0 Q r rt => ?_⟩
  obtain ⟨xs, rfl, z1, z2, rfl⟩ := r
  have lm : (((xs.map mtD).length : Nat) : Int) = ((xs.length : Nat) : Int) := by rw [List.length_map]
  show S _ _ _ [.fz (.tuple (xs.map mtD)), .un]
  unfold matsB at rt
  rw [← lm] at rt
  refine q_if (b := decide ((((xs.map mtD).length : Nat) : Int) > 6)) (t_test (b_op (E.b (b_cb (ab_cons (E.b (e_var rfl)) ab_nil) len_t rfl)) (E.b e_int) gt_i rfl)) (fun z => ?_) fun z => s_next (n_go ?_)
  · rw [z] at rt
    exact s_ret e_bl rt
  · rw [z, Bool.not_false, Bool.true_and] at rt
    exact s_ret (e_allI (ix := [1]) hP mtD mtD_inj xs (fun x => matB x && !decide (x.nm = RSV)) (fun x => [.fz (.tuple (xs.map mtD)), .fz (mtD x)]) (it_at (e_var rfl)) (fun F1 x hx => g_name) (by decide) fun F1 x hx => e_andV (e_call (ds := [mtD x]) (a_cons (e_var rfl) a_nil) ⟨x, rfl, z2 x hx, rfl⟩) fun _ => b_op (E.b (e_op (x := .tuple [.str x.nm, .tuple (x.vs.map .str), .bool x.inn]) (e_var rfl) e_int (ix_t (at_hd _ _)))) (E.b e_str) neP_s rfl) rt
def namsB (xs : List Str) : Bool := decide (((xs.length : Nat) : Int) ≤ 6) && xs.all fun x => namB x && !decide (x = RSV)
def R_ans : List PyData → PyData → Prop := fun ds d => ∃ xs : List Str, ds = [.tuple (xs.map .str)] ∧ xs.length ≤ 1000 ∧ (∀ x ∈ xs, x.length ≤ 100000) ∧ d = .bool (namsB xs)
theorem ok_ans {c Pt : Addr} (Fn : Fun K "are_names" "are_names" s_are_names f fd) (hm : mg "are_names" = some (.ref f)) (hb : Binds K fd ["names"] []) (Z : Zb mg)
    (hns : PySem.W.nsIn K mainGlobals "are_names" = some (some (.ref f))) (ht : PySem.W.tabIn K "are_names" = some (c, Pt)) (TB_are_names : GxR.TabB base mg c Pt) (hP : GenT Tb Pt)
    (C_RESERVED : ∃ u, mg "RESERVED" = some u ∧ RelV (.str RSV) u) (D_is_name : Df P w K mg base 3 "is_name" ["text"] (spD K Tb R_isn)) :
    Df P w K mg base 6 "are_names" ["names"] (spD K Tb R_ans) := by
  refine df_DT Fn hns ht sc_are_names hm hb (fun ds d h => by obtain ⟨_, rfl, _⟩ := h; rfl) fun A outer s H Ek hr => ⟨_, (pss_one (ps_ret (pe_and (pe_cmpR op_le (pe_callB (uLenK K) (by rfl) Z.len (by decide +kernel) (pa_cons (pv 0) pa_nil)) pe_int (nomark _)) (pe_one (GA.pe_allG (own := [("name", 1)]) hr (by rfl) sc_are_names.nd TB_are_names rfl (by rfl) Z.all (by decide +kernel) (blkOk_by (own := [("name", 1)]) (N := N_are_names) (sc := defScope s_are_names) (by decide +kernel)) (GA.genOk_by (by decide +kernel)) (pi_any (pv 0)) (fun _ _ _ _ _ _ _ => (pg_name (i := 1) sc_are_names.nd rfl (by first | exact .inl rfl | exact .inr rfl))) (fun _ _ _ _ _ _ _ hr => (pe_and (pe_df D_is_name hr (by first | decide | exact Nat.le_refl _ | omega) (by rfl) (pa_cons (pv 1) pa_nil)) (pe_one (pe_cmpR (uNePK K hr.units) (pv 1) (pe_gc C_RESERVED (by rfl)) (nomark _))))) (fun _ => rfl)))))),  fun ds d F0 H0 Q r rt => ?_⟩
  obtain ⟨xs, rfl, z1, z2, rfl⟩ := r
  have lm : (((xs.map PyData.str).length : Nat) : Int) = ((xs.length : Nat) : Int) := by rw [List.length_map]
  show S _ _ _ [.fz (.tuple (xs.map .str)), .un]
  unfold namsB at rt
  rw [← lm] at rt
  exact s_ret (e_andV (b_op (E.b (b_cb (ab_cons (E.b (e_var rfl)) ab_nil) len_t rfl)) (E.b e_int) le_i rfl) fun _ => e_allI (ix := [1]) hP PyData.str str_inj xs (fun x => namB x && !decide (x = RSV)) (fun x => [.fz (.tuple (xs.map .str)), .fz (.str x)]) (it_at (e_var rfl)) (fun F1 x hx => g_name) (by decide) fun F1 x hx => e_andV (e_call (ds := [.str x]) (a_cons (e_var rfl) a_nil) ⟨x, rfl, z2 x hx, rfl⟩) fun _ => b_op (E.b (e_var rfl)) (E.b e_str) neP_s rfl) rt
end
section
variable {P : Program} {w : World} {K : PySem.W.Frag} {mg : Str → Option Value} {base : Heap} {f : Addr} {fd : FuncData} {Tb : List Addr} {k : Nat}
structure Stt where
  gr : List Str
  wt : Int
  iv : Int
  ag : Int
  mu : List Str
  po : Str
def sttD (x : Stt) : PyData := .tuple [.tuple (x.gr.map .str), .int x.wt, .int x.iv, .int x.ag, .tuple (x.mu.map .str), .str x.po]
def durB (n : Int) : Bool := decide ((0 : Int) ≤ n) && decide (n ≤ 1000)
def sttB (ws ps : List Str) (x : Stt) : Bool := (namsB x.gr && durB x.wt) && (((decide ((1 : Int) ≤ x.iv) && decide (x.iv ≤ 1000)) && (decide (x.iv ≤ x.ag) && decide (x.ag ≤ 1000))) && ((!decide (((x.mu.length : Nat) : Int) > 6) && x.mu.all fun m => decide (m ∈ ws)) && decide (x.po ∈ ps)))
def SttS (x : Stt) : Prop := x.gr.length ≤ 1000 ∧ (∀ v ∈ x.gr, v.length ≤ 100000) ∧ x.mu.length ≤ 1000
def R_stt : List PyData → PyData → Prop := fun ds d => ∃ (ws ps : List Str) (x : Stt), ds = [.list (ws.map .str), .list (ps.map .str), sttD x] ∧ SttS x ∧ d = .bool (sttB ws ps x)
theorem ok_stt {c Pt : Addr} (Fn : Fun K "are_settings" "are_settings" s_are_settings f fd) (hm : mg "are_settings" = some (.ref f)) (hb : Binds K fd ["windows", "policies", "settings"] []) (Z : Zb mg)
    (hns : PySem.W.nsIn K mainGlobals "are_settings" = some (some (.ref f))) (ht : PySem.W.tabIn K "are_settings" = some (c, Pt)) (TB_are_settings : GxR.TabB base mg c Pt) (hP : GenT Tb Pt)
    (D_are_names : Df P w K mg base 6 "are_names" ["names"] (spD K Tb R_ans)) (D_is_duration : Df P w K mg base 1 "is_duration" ["number"] (spD K Tb R_dur)) :
    Df P w K mg base 7 "are_settings" ["windows", "policies", "settings"] (spD K Tb R_stt) := by
  refine df_DT Fn hns ht sc_are_settings hm hb (fun ds d h => by obtain ⟨_, _, _, rfl, _⟩ := h; rfl) fun A outer s H Ek hr => ⟨_, (pss_cons (ps_asg (pv 2) (pg_tupK (n := 6) K rfl (pgs_cons (pg_name (i := 3) sc_are_settings.nd rfl (by first | exact .inl rfl | exact .inr rfl)) (pgs_cons (pg_name (i := 4) sc_are_settings.nd rfl (by first | exact .inl rfl | exact .inr rfl)) (pgs_cons (pg_name (i := 5) sc_are_settings.nd rfl (by first | exact .inl rfl | exact .inr rfl)) (pgs_cons (pg_name (i := 6) sc_are_settings.nd rfl (by first | exact .inl rfl | exact .inr rfl)) (pgs_cons (pg_name (i := 7) sc_are_settings.nd rfl (by first | exact .inl rfl | exact .inr rfl)) (pgs_cons (pg_name (i := 8) sc_are_settings.nd rfl (by first | exact .inl rfl | exact .inr rfl)) pgs_nil))))))))
      (pss_cons (ps_if (PW.pt (pw_or (pt_not (pt_truthK K (pe_df D_are_names hr (by first | decide | exact Nat.le_refl _ | omega) (by rfl) (pa_cons (pv 3) pa_nil)) (by intro _; rfl))) (pw_or1 (pt_not (pt_truthK K (pe_df D_is_duration hr (by first | decide | exact Nat.le_refl _ | omega) (by rfl) (pa_cons (pv 4) pa_nil)) (by intro _; rfl)))))) (pss_one (ps_ret pe_bl)) pss_nil)
      (pss_cons (ps_if (PW.pt (pw_or (pt_not (pt_chain op_le op_le pe_int (pv 5) pe_int)) (pw_or1 (pt_not (pt_chain op_le op_le (pv 5) (pv 6) pe_int))))) (pss_one (ps_ret pe_bl)) pss_nil)
      (pss_cons (ps_if (PW.pt (pw_or (pt_cmpR op_gt (pe_callB (uLenK K) (by rfl) Z.len (by decide +kernel) (pa_cons (pv 7) pa_nil)) pe_int (nomark _)) (pw_or1 (pt_not (pt_truthK K (GA.pe_allG (own := [("mute", 9)]) hr (by rfl) sc_are_settings.nd TB_are_settings rfl (by rfl) Z.all (by decide +kernel) (blkOk_by (own := [("mute", 9)]) (N := N_are_settings) (sc := defScope s_are_settings) (by decide +kernel)) (GA.genOk_by (by decide +kernel)) (pi_any (pv 7)) (fun _ _ _ _ _ _ _ => (pg_name (i := 9) sc_are_settings.nd rfl (by first | exact .inl rfl | exact .inr rfl))) (fun _ _ _ _ _ _ _ hr => (pe_cmpR (uInK K) (pv 9) (pv 0) (by rfl))) (fun _ => rfl)) (by intro _; rfl)))))) (pss_one (ps_ret pe_bl)) pss_nil)
      (pss_one (ps_ret (pe_cmpR (uInK K) (pv 8) (pv 1) (by rfl)))))))),  fun ds d F0 H0 Q r rt => ?_⟩
  obtain ⟨ws, ps, ⟨gr, wt, iv, ag, mu, po⟩, rfl, ⟨z1, z2, z3⟩, rfl⟩ := r
  have z1 : gr.length ≤ 1000 := z1
  have z3 : mu.length ≤ 1000 := z3
  have lm : (((mu.map PyData.str).length : Nat) : Int) = ((mu.length : Nat) : Int) := by rw [List.length_map]
  show S _ _ _ [.fz (.list (ws.map .str)), .fz (.list (ps.map .str)), .fz (.tuple [.tuple (gr.map .str), .int wt, .int iv, .int ag, .tuple (mu.map .str), .str po]), .un, .un, .un, .un, .un, .un, .un]
  refine q_asgT (e_var rfl) (g_tup (gs_cons g_name (gs_cons g_name (gs_cons g_name (gs_cons g_name (gs_cons g_name (gs_cons g_name gs_nil)))))) rfl) ?_
  show S _ _ _ [.fz (.list (ws.map .str)), .fz (.list (ps.map .str)), .fz (.tuple [.tuple (gr.map .str), .int wt, .int iv, .int ag, .tuple (mu.map .str), .str po]), .fz (.tuple (gr.map .str)), .fz (.int wt), .fz (.int iv), .fz (.int ag), .fz (.tuple (mu.map .str)), .fz (.str po), .un]
  have rt : Rt _ Q (.bool ((namsB gr && durB wt) && (((decide ((1 : Int) ≤ iv) && decide (iv ≤ 1000)) && (decide (iv ≤ ag) && decide (ag ≤ 1000))) && ((!decide (((mu.length : Nat) : Int) > 6) && mu.all fun m => decide (m ∈ ws)) && decide (po ∈ ps))))) := rt
  rw [← lm] at rt
  generalize hb1 : namsB gr = b1 at rt
  generalize hb2 : durB wt = b2 at rt
  generalize hb3 : (decide ((1 : Int) ≤ iv) && decide (iv ≤ 1000)) = b3 at rt
  generalize hb4 : (decide (iv ≤ ag) && decide (ag ≤ 1000)) = b4 at rt
  generalize hb5 : decide ((((mu.map PyData.str).length : Nat) : Int) > 6) = b5 at rt
  generalize hb6 : (mu.all fun m => decide (m ∈ ws)) = b6 at rt
  refine q_if (b := !b1 || !b2) (t_or (t_not (t_tru (d := .bool b1) (E.b (by rw [← hb1]; exact e_call (ds := [.tuple (gr.map .str)]) (a_cons (e_var rfl) a_nil) ⟨gr, rfl, z1, z2, rfl⟩)) rfl)) fun _ => t_not (t_tru (d := .bool b2) (E.b (by rw [← hb2]; exact e_call (ds := [.int wt]) (a_cons (e_var rfl) a_nil) ⟨wt, rfl, rfl⟩)) rfl)) (fun z => ?_) fun z => s_next (n_go ?_)
  · rw [show (b1 && b2) = false from (by cases b1 <;> cases b2 <;> first | rfl | cases z), Bool.false_and] at rt
    exact s_ret e_bl rt
  rw [show (b1 && b2) = true from (by cases b1 <;> cases b2 <;> first | rfl | cases z), Bool.true_and] at rt
  refine q_if (b := !b3 || !b4) (t_or (t_not (t_test (by rw [← hb3]; exact e_chain (E.b e_int) (E.b (e_var rfl)) (fun _ => E.b e_int) le_i fun _ => le_i))) fun _ => t_not (t_test (by rw [← hb4]; exact e_chain (E.b (e_var rfl)) (E.b (e_var rfl)) (fun _ => E.b e_int) le_i fun _ => le_i))) (fun z => ?_) fun z => s_next (n_go ?_)
  · rw [show (b3 && b4) = false from (by cases b3 <;> cases b4 <;> first | rfl | cases z), Bool.false_and] at rt
    exact s_ret e_bl rt
  rw [show (b3 && b4) = true from (by cases b3 <;> cases b4 <;> first | rfl | cases z), Bool.true_and] at rt
  refine q_if (b := b5 || !b6) (t_or (t_test (by rw [← hb5]; exact b_op (E.b (b_cb (ab_cons (E.b (e_var rfl)) ab_nil) len_t rfl)) (E.b e_int) gt_i rfl)) fun _ => t_not (t_tru (d := .bool b6) (by rw [← hb6]; exact E.b (e_allI (ix := [9]) hP PyData.str str_inj mu (fun m => decide (m ∈ ws)) (fun m => [.fz (.list (ws.map .str)), .fz (.list (ps.map .str)), .fz (.tuple [.tuple (gr.map .str), .int wt, .int iv, .int ag, .tuple (mu.map .str), .str po]), .fz (.tuple (gr.map .str)), .fz (.int wt), .fz (.int iv), .fz (.int ag), .fz (.tuple (mu.map .str)), .fz (.str po), .fz (.str m)]) (it_at (e_var rfl)) (fun F1 m hm => g_name) (by decide) fun F1 m hm => by rw [← inD_str]; exact b_op (E.b (e_var rfl)) (E.b (e_var rfl)) (in_l rfl (scal_strs ws)) rfl)) rfl)) (fun z => ?_) fun z => s_next (n_go ?_)
  · rw [show (!b5 && b6) = false from (by cases b5 <;> cases b6 <;> first | rfl | cases z), Bool.false_and] at rt
    exact s_ret e_bl rt
  rw [show (!b5 && b6) = true from (by cases b5 <;> cases b6 <;> first | rfl | cases z), Bool.true_and] at rt
  exact s_ret (by rw [← inD_str]; exact b_op (E.b (e_var rfl)) (E.b (e_var rfl)) (in_l rfl (scal_strs ps)) rfl) rt
structure Rou where
  pa : Option Int
  ms : List Mt
  st : Stt
def rouD (x : Rou) : PyData := .tuple [oD x.pa, .tuple (x.ms.map mtD), sttD x.st]
def paB (i : Nat) : Option Int → Bool
  | none => false
  | some p => decide ((0 : Int) ≤ p) && decide (p < (i : Nat))
def rouB (i : Nat) (ws ps : List Str) (x : Rou) : Bool := if i = 0 then x.pa.isNone && (decide (x.ms.length = 0) && sttB ws ps x.st) else paB i x.pa && (matsB x.ms && sttB ws ps x.st)
def RouS (x : Rou) : Prop := x.ms.length ≤ 1000 ∧ (∀ m ∈ x.ms, MtS m) ∧ SttS x.st
def R_rou : List PyData → PyData → Prop := fun ds d => ∃ (i : Nat) (ws ps : List Str) (x : Rou), ds = [.int (i : Nat), .list (ws.map .str), .list (ps.map .str), rouD x] ∧ RouS x ∧ d = .bool (rouB i ws ps x)
theorem ok_rou (Fn : Fun K "is_route" "is_route" s_is_route f fd) (hm : mg "is_route" = some (.ref f)) (hb : Binds K fd ["place", "windows", "policies", "route"] []) (Z : Zb mg)
    (D_are_settings : Df P w K mg base 7 "are_settings" ["windows", "policies", "settings"] (spD K Tb R_stt)) (D_are_matchers : Df P w K mg base 8 "are_matchers" ["matchers"] (spD K Tb R_mts)) :
    Df P w K mg base 9 "is_route" ["place", "windows", "policies", "route"] (spD K Tb R_rou) := by
  refine df_D Fn sc_is_route hm hb (fun ds d h => by obtain ⟨_, _, _, _, rfl, _⟩ := h; rfl) fun cdv A outer s H Ek hr => ⟨_, (pss_cons (ps_asg (pv 3) (pg_tupK (n := 3) K rfl (pgs_cons (pg_name (i := 4) sc_is_route.nd rfl (by first | exact .inl rfl | exact .inr rfl)) (pgs_cons (pg_name (i := 5) sc_is_route.nd rfl (by first | exact .inl rfl | exact .inr rfl)) (pgs_cons (pg_name (i := 6) sc_is_route.nd rfl (by first | exact .inl rfl | exact .inr rfl)) pgs_nil)))))
      (pss_cons (ps_if (pt_cmpR (uEqK K hr.units) (pv 0) pe_int (nomark _)) (pss_one (ps_ret (pe_and (pe_cmpR uIsN (pv 4) pe_non (nomark _)) (pe_and (pe_cmpR (uEqK K hr.units) (pe_callB (uLenK K) (by rfl) Z.len (by decide +kernel) (pa_cons (pv 5) pa_nil)) pe_int (nomark _)) (pe_one (pe_df D_are_settings hr (by first | decide | exact Nat.le_refl _ | omega) (by rfl) (pa_cons (pv 1) (pa_cons (pv 2) (pa_cons (pv 6) pa_nil))))))))) pss_nil)
      (pss_cons (ps_if (PW.pt (pw_or (pt_cmpR uIsN (pv 4) pe_non (nomark _)) (pw_or1 (pt_not (pt_chain op_le uLt pe_int (pv 4) (pv 0)))))) (pss_one (ps_ret pe_bl)) pss_nil)
      (pss_one (ps_ret (pe_and (pe_df D_are_matchers hr (by first | decide | exact Nat.le_refl _ | omega) (by rfl) (pa_cons (pv 5) pa_nil)) (pe_one (pe_df D_are_settings hr (by first | decide | exact Nat.le_refl _ | omega) (by rfl) (pa_cons (pv 1) (pa_cons (pv 2) (pa_cons (pv 6) pa_nil))))))))))),  fun ds d F0 H0 Q r rt => ?_⟩
  obtain ⟨i, ws, ps, ⟨pa, ms, st⟩, rfl, ⟨z1, z2, z3⟩, rfl⟩ := r
  have z1 : ms.length ≤ 1000 := z1
  have lm : (((ms.map mtD).length : Nat) : Int) = ((ms.length : Nat) : Int) := by rw [List.length_map]
  show S _ _ _ [.fz (.int (i : Nat)), .fz (.list (ws.map .str)), .fz (.list (ps.map .str)), .fz (.tuple [oD pa, .tuple (ms.map mtD), sttD st]), .un, .un, .un]
  refine q_asgT (e_var rfl) (g_tup (gs_cons g_name (gs_cons g_name (gs_cons g_name gs_nil))) rfl) ?_
  show S _ _ _ [.fz (.int (i : Nat)), .fz (.list (ws.map .str)), .fz (.list (ps.map .str)), .fz (.tuple [oD pa, .tuple (ms.map mtD), sttD st]), .fz (oD pa), .fz (.tuple (ms.map mtD)), .fz (sttD st)]
  have cs : E (⟨K, Tb, F0, H0, F0⟩ : Gd) (tCall (spD K Tb R_stt) [] E0 (tCons (tVar 1) (tCons (tVar 2) (tCons (tVar 6) tNil)))) [.fz (.int (i : Nat)), .fz (.list (ws.map .str)), .fz (.list (ps.map .str)), .fz (.tuple [oD pa, .tuple (ms.map mtD), sttD st]), .fz (oD pa), .fz (.tuple (ms.map mtD)), .fz (sttD st)] (.bool (sttB ws ps st)) := e_call (ds := [.list (ws.map .str), .list (ps.map .str), sttD st]) (a_cons (e_var rfl) (a_cons (e_var rfl) (a_cons (e_var rfl) a_nil))) ⟨ws, ps, st, rfl, z3, rfl⟩
  have rt : Rt _ Q (.bool (if i = 0 then pa.isNone && (decide (ms.length = 0) && sttB ws ps st) else paB i pa && (matsB ms && sttB ws ps st))) := rt
  generalize hb1 : sttB ws ps st = b1 at rt cs
  refine q_if (b := decide (((i : Nat) : Int) = 0)) (t_test (b_op (E.b (e_var rfl)) (E.b e_int) (eqv_int (i : Nat) 0 ▸ eqd rfl rfl) rfl)) (fun z => ?_) fun z => s_next (n_go ?_)
  · have h0 : i = 0 := by have := of_decide_eq_true z; omega
    rw [if_pos h0] at rt
    have e : decide (ms.length = 0) = decide ((((ms.map mtD).length : Nat) : Int) = 0) := by rw [lm]; exact decide_eq_decide.mpr (by omega)
    rw [e, ← isND_oD] at rt
    exact s_ret (e_andV (b_op (E.b (e_var rfl)) (E.b e_non) is_n rfl) fun _ => e_andV (b_op (E.b (b_cb (ab_cons (E.b (e_var rfl)) ab_nil) len_t rfl)) (E.b e_int) (eqv_int _ 0 ▸ eqd rfl rfl) rfl) fun _ => cs) rt
  · have h0 : ¬ i = 0 := fun h => by subst h; cases z
    rw [if_neg h0] at rt
    cases pa with
    | none =>
      refine q_if (b := true || false) (t_or (t_test (b_op (E.b (e_var rfl)) (E.b e_non) is_n rfl)) fun z => by cases z) (fun z => ?_) fun z => by cases z
      rw [show (paB i none && (matsB ms && b1)) = false from rfl] at rt
      exact s_ret e_bl rt
    | some p =>
      have rt : Rt _ Q (.bool ((decide ((0 : Int) ≤ p) && decide (p < (i : Nat))) && (matsB ms && b1))) := rt
      generalize hb2 : (decide ((0 : Int) ≤ p) && decide (p < ((i : Nat) : Int))) = b2 at rt
      refine q_if (b := false || !b2) (t_or (t_test (b_op (E.b (e_var (d := .int p) rfl)) (E.b e_non) is_n rfl)) fun _ => t_not (t_test (by rw [← hb2]; exact e_chain (E.b e_int) (E.b (e_var (d := .int p) rfl)) (fun _ => E.b (e_var rfl)) le_i fun _ => lt_i))) (fun z => ?_) fun z => s_next (n_go ?_)
      · rw [show b2 = false from (by cases b2 <;> first | rfl | cases z), Bool.false_and] at rt
        exact s_ret e_bl rt
      · rw [show b2 = true from (by cases b2 <;> first | rfl | cases z), Bool.true_and] at rt
        exact s_ret (e_andV (e_call (ds := [.tuple (ms.map mtD)]) (a_cons (e_var rfl) a_nil) ⟨ms, rfl, z1, z2, rfl⟩) fun _ => cs) rt
structure Hob where
  sr : List Mt
  tg : List Mt
  eq : List Str
def hobD (x : Hob) : PyData := .tuple [.tuple (x.sr.map mtD), .tuple (x.tg.map mtD), .tuple (x.eq.map .str)]
def hobB (x : Hob) : Bool := matsB x.sr && (matsB x.tg && namsB x.eq)
def HobS (x : Hob) : Prop := (x.sr.length ≤ 1000 ∧ ∀ m ∈ x.sr, MtS m) ∧ (x.tg.length ≤ 1000 ∧ ∀ m ∈ x.tg, MtS m) ∧ x.eq.length ≤ 1000 ∧ ∀ n ∈ x.eq, n.length ≤ 100000
def R_hob : List PyData → PyData → Prop := fun ds d => ∃ x : Hob, ds = [hobD x] ∧ HobS x ∧ d = .bool (hobB x)
theorem ok_hob (Fn : Fun K "is_holdback" "is_holdback" s_is_holdback f fd) (hm : mg "is_holdback" = some (.ref f)) (hb : Binds K fd ["holdback"] []) (Z : Zb mg)
    (D_are_names : Df P w K mg base 6 "are_names" ["names"] (spD K Tb R_ans)) (D_are_matchers : Df P w K mg base 8 "are_matchers" ["matchers"] (spD K Tb R_mts)) :
    Df P w K mg base 9 "is_holdback" ["holdback"] (spD K Tb R_hob) := by
  refine df_D Fn sc_is_holdback hm hb (fun ds d h => by obtain ⟨_, rfl, _⟩ := h; rfl) fun cdv A outer s H Ek hr => ⟨_, (pss_cons (ps_asg (pv 0) (pg_tupK (n := 3) K rfl (pgs_cons (pg_name (i := 1) sc_is_holdback.nd rfl (by first | exact .inl rfl | exact .inr rfl)) (pgs_cons (pg_name (i := 2) sc_is_holdback.nd rfl (by first | exact .inl rfl | exact .inr rfl)) (pgs_cons (pg_name (i := 3) sc_is_holdback.nd rfl (by first | exact .inl rfl | exact .inr rfl)) pgs_nil)))))
      (pss_one (ps_ret (pe_and (pe_df D_are_matchers hr (by first | decide | exact Nat.le_refl _ | omega) (by rfl) (pa_cons (pv 1) pa_nil)) (pe_and (pe_df D_are_matchers hr (by first | decide | exact Nat.le_refl _ | omega) (by rfl) (pa_cons (pv 2) pa_nil)) (pe_one (pe_df D_are_names hr (by first | decide | exact Nat.le_refl _ | omega) (by rfl) (pa_cons (pv 3) pa_nil)))))))),  fun ds d F0 H0 Q r rt => ?_⟩
  obtain ⟨⟨sr, tg, eq⟩, rfl, ⟨⟨z1, z2⟩, ⟨z3, z4⟩, z5, z6⟩, rfl⟩ := r
  show S _ _ _ [.fz (.tuple [.tuple (sr.map mtD), .tuple (tg.map mtD), .tuple (eq.map .str)]), .un, .un, .un]
  refine q_asgT (e_var rfl) (g_tup (gs_cons g_name (gs_cons g_name (gs_cons g_name gs_nil))) rfl) ?_
  show S _ _ _ [.fz (.tuple [.tuple (sr.map mtD), .tuple (tg.map mtD), .tuple (eq.map .str)]), .fz (.tuple (sr.map mtD)), .fz (.tuple (tg.map mtD)), .fz (.tuple (eq.map .str))]
  exact s_ret (e_andV (e_call (ds := [.tuple (sr.map mtD)]) (a_cons (e_var rfl) a_nil) ⟨sr, rfl, z1, z2, rfl⟩) fun _ => e_andV (e_call (ds := [.tuple (tg.map mtD)]) (a_cons (e_var rfl) a_nil) ⟨tg, rfl, z3, z4, rfl⟩) fun _ => e_call (ds := [.tuple (eq.map .str)]) (a_cons (e_var rfl) a_nil) ⟨eq, rfl, z5, z6, rfl⟩) rt
end
section
variable {P : Program} {w : World} {K : PySem.W.Frag} {mg : Str → Option Value} {base : Heap} {f : Addr} {fd : FuncData} {Tb : List Addr} {k : Nat}
theorem nmE_map (es : List (Str × List PyData)) : nmE es = (es.map (·.1)).map .str := by unfold nmE; rw [List.map_map]; rfl
/-- the first place where p does not hold -/
def fB {α : Type} (p : Nat → α → Bool) : Nat → List α → Option Nat
  | _, [] => none
  | i, x :: xs => if p i x = true then fB p (i + 1) xs else some i
def roB (ws ps : List Str) (i : Nat) (x : Rou) : Bool := !decide (((i : Nat) : Int) ≥ 30) && rouB i ws ps x
def hoB (i : Nat) (x : Hob) : Bool := !decide (((i : Nat) : Int) ≥ 10) && hobB x
def roF (ws ps : List Str) (ro : List Rou) : Option Nat := if ro.isEmpty = true then some 0 else fB (roB ws ps) 0 ro
def alO (C : Addr) (wi po : List (Str × List PyData)) (ro : List Rou) (ho : List Hob) : Out := thO C "routes" (roF (wi.map (·.1)) (po.map (·.1)) ro) (cnO C "holdbacks" (fB hoB 0 ho))
structure CaIn (F : Hp) (K : PySem.W.Frag) (Ca a : Addr) (wi po : List (Str × List PyData)) (ro : List Rou) (ho : List Hob) : Prop where
  ob : ∃ fs, ObF K F a Ca fs ∧ fs.lookup ("windows" : Str) = some (.list (wi.map enE)) ∧ fs.lookup ("policies" : Str) = some (.list (po.map enE)) ∧ fs.lookup ("routes" : Str) = some (.list (ro.map rouD)) ∧ fs.lookup ("holdbacks" : Str) = some (.list (ho.map hobD))
  z1 : wi.length ≤ 1000
  z2 : po.length ≤ 1000
  z3 : ∀ x ∈ ro, RouS x
  z4 : ∀ x ∈ ho, HobS x
def R_al (K : PySem.W.Frag) (C Ca : Addr) : Hp → List Sl → Out → Prop := fun F Gs o => ∃ a wi po ro ho, Gs = [.raw (.ref a)] ∧ CaIn F K Ca a wi po ro ho ∧ o = alO C wi po ro ho
theorem ok_al {C Ca : Addr} (Fn : Fun K "check_alerts" "check_alerts" s_check_alerts f fd) (hm : mg "check_alerts" = some (.ref f)) (hb : Binds K fd ["made"] []) (Z : Zb mg) (XI_BadSetup : XiOk2 P w K mg base "BadSetup" C "part" "place")
    (C_MOST_ROUTES : ∃ u, mg "MOST_ROUTES" = some u ∧ RelV (.int 30) u) (C_MOST_HOLDBACKS : ∃ u, mg "MOST_HOLDBACKS" = some u ∧ RelV (.int 10) u)
    (CL : Cls K Ca) (N_routes : NoAttr K Ca "routes") (N_holdbacks : NoAttr K Ca "holdbacks") (N_policies : NoAttr K Ca "policies") (N_windows : NoAttr K Ca "windows")
    (D_names_of : Df P w K mg base 1 "names_of" ["entries"] (spL K Tb R_nms)) (D_is_route : Df P w K mg base 9 "is_route" ["place", "windows", "policies", "route"] (spD K Tb R_rou)) (D_is_holdback : Df P w K mg base 9 "is_holdback" ["holdback"] (spD K Tb R_hob)) :
    DfX P w K mg base 12 "check_alerts" ["made"] (spSX K Tb (R_al K C Ca)) := by
  refine df_SX Fn sc_check_alerts hm hb (fun F Gs o h => by obtain ⟨_, _, _, _, _, rfl, _⟩ := h; rfl) fun cdv A outer s H Ek hr => ⟨_, (pss_cons (ps_set (i := 1) sc_check_alerts.nd rfl (by first | exact .inl rfl | exact .inr rfl) (pe_df D_names_of hr (by first | decide | exact Nat.le_refl _ | omega) (by rfl) (pa_cons (pe_fldK K (pv 0)) pa_nil)))
      (pss_cons (ps_set (i := 2) sc_check_alerts.nd rfl (by first | exact .inl rfl | exact .inr rfl) (pe_df D_names_of hr (by first | decide | exact Nat.le_refl _ | omega) (by rfl) (pa_cons (pe_fldK K (pv 0)) pa_nil)))
      (pss_cons (ps_if (pt_not (pt_truthK K (pe_fldK K (pv 0)) (by intro _; rfl))) (pss_one (ps_raiseI2 (W := fun cls d _ H => Ek cls d H) rfl XI_BadSetup hr (by first | decide | omega) (takes_of rfl rfl rfl rfl) (by rfl) (pa_cons pe_str (pa_cons pe_int pa_nil)))) pss_nil)
      (pss_cons (ps_for (passes_of rfl) rfl (pi_enum (by rfl) Z.enumerate (pa_cons (pe_fldK K (pv 0)) pa_nil)) (pg_tupK (n := 2) K rfl (pgs_cons (pg_name (i := 3) sc_check_alerts.nd rfl (by first | exact .inl rfl | exact .inr rfl)) (pgs_cons (pg_name (i := 4) sc_check_alerts.nd rfl (by first | exact .inl rfl | exact .inr rfl)) pgs_nil))) (pss_one (ps_if (PW.pt (pw_or (pt_cmpR op_ge (pv 3) (pe_gc C_MOST_ROUTES (by rfl)) (nomark _)) (pw_or1 (pt_not (pt_truthK K (pe_df D_is_route hr (by first | decide | exact Nat.le_refl _ | omega) (by rfl) (pa_cons (pv 3) (pa_cons (pv 1) (pa_cons (pv 2) (pa_cons (pv 4) pa_nil))))) (by intro _; rfl)))))) (pss_one (ps_raiseI2 (W := fun cls d _ H => Ek cls d H) rfl XI_BadSetup hr (by first | decide | omega) (takes_of rfl rfl rfl rfl) (by rfl) (pa_cons pe_str (pa_cons (pv 3) pa_nil)))) pss_nil)))
      (pss_one (ps_for (passes_of rfl) rfl (pi_enum (by rfl) Z.enumerate (pa_cons (pe_fldK K (pv 0)) pa_nil)) (pg_tupK (n := 2) K rfl (pgs_cons (pg_name (i := 3) sc_check_alerts.nd rfl (by first | exact .inl rfl | exact .inr rfl)) (pgs_cons (pg_name (i := 5) sc_check_alerts.nd rfl (by first | exact .inl rfl | exact .inr rfl)) pgs_nil))) (pss_one (ps_if (PW.pt (pw_or (pt_cmpR op_ge (pv 3) (pe_gc C_MOST_HOLDBACKS (by rfl)) (nomark _)) (pw_or1 (pt_not (pt_truthK K (pe_df D_is_holdback hr (by first | decide | exact Nat.le_refl _ | omega) (by rfl) (pa_cons (pv 5) pa_nil)) (by intro _; rfl)))))) (pss_one (ps_raiseI2 (W := fun cls d _ H => Ek cls d H) rfl XI_BadSetup hr (by first | decide | omega) (takes_of rfl rfl rfl rfl) (by rfl) (pa_cons pe_str (pa_cons (pv 3) pa_nil)))) pss_nil)))))))),  fun Gs o F0 H0 Q r rt => ?_⟩
  obtain ⟨a, wi, po, ro, ho, rfl, ⟨⟨fs, ob, w1, w2, w3, w4⟩, z1, z2, z3, z4⟩, rfl⟩ := r
  show S _ _ _ [.raw (.ref a), .un, .un, .un, .un, .un]
  unfold alO at rt
  refine q_asgL (el_call (ds := [.list (wi.map enE)]) (a_cons (e_fld0 rfl ob CL N_windows w1) a_nil) ⟨wi, rfl, z1, rfl⟩) (s_frz (i := 1) rfl ?_)
  refine q_asgL (el_call (ds := [.list (po.map enE)]) (a_cons (e_fld0 rfl ob CL N_policies w2) a_nil) ⟨po, rfl, z2, rfl⟩) (s_frz (i := 2) rfl ?_)
  rw [nmE_map, nmE_map]
  generalize wi.map (·.1) = ws at rt ⊢
  generalize po.map (·.1) = ps at rt ⊢
  show S _ _ _ [.raw (.ref a), .fz (.list (ws.map .str)), .fz (.list (ps.map .str)), .un, .un, .un]
  have em : (ro.map rouD).isEmpty = ro.isEmpty := by cases ro <;> rfl
  refine q_if (b := !(!ro.isEmpty)) (t_not (t_tru (d := .list (ro.map rouD)) (E.b (e_fld0 rfl ob CL N_routes w3)) (by rw [← em]; rfl))) (fun z => ?_) fun z => s_next (n_go ?_)
  · rw [Bool.not_not] at z
    unfold roF at rt
    rw [if_pos z] at rt
    exact s_raise2 e_str e_int rt
  rw [Bool.not_not] at z
  have e0 : roF ws ps ro = fB (roB ws ps) 0 ro := by unfold roF; rw [if_neg (by rw [z]; decide)]
  rw [e0] at rt
  refine q_for (α := Unit) (fun _ _ => [.raw (.ref a), .fz (.list (ws.map .str)), .fz (.list (ps.map .str)), .un, .un, .un]) (fun i _ => fB (roB ws ps) i (ro.drop i) = fB (roB ws ps) 0 ro) (it_enum (e_fld0 rfl ob CL N_routes w3)) () rfl (Wk.refl _) (fun F1 i _ d hd pp => ?_) fun _ pp => ?_
  · obtain ⟨d', hq, rfl⟩ := enD_get _ _ _ _ hd
    obtain ⟨x, hx, rfl⟩ := map_get hq
    rw [drop_get hx] at pp
    refine ⟨_, _, g_tup (gs_cons g_name (gs_cons g_name gs_nil)) rfl, ?_⟩
    rw [Nat.zero_add]
    show S _ _ _ [.raw (.ref a), .fz (.list (ws.map .str)), .fz (.list (ps.map .str)), .fz (.int (i : Nat)), .fz (rouD x), .un]
    refine s_if (b := decide (((i : Nat) : Int) ≥ 30) || !rouB i ws ps x) (t_or (t_test (b_op (E.b (e_var rfl)) (E.b e_int) ge_i rfl)) fun _ => t_not (t_tru (d := .bool (rouB i ws ps x)) (E.b (e_call (ds := [.int (i : Nat), .list (ws.map .str), .list (ps.map .str), rouD x]) (a_cons (e_var rfl) (a_cons (e_var rfl) (a_cons (e_var rfl) (a_cons (e_var rfl) a_nil)))) ⟨i, ws, ps, x, rfl, z3 x (List.mem_of_getElem? hx), rfl⟩)) rfl)) (fun y => ?_) fun y => s_next (n_end () ?_ ?_)
    · have nz : ¬ roB ws ps i x = true := fun h => by
        unfold roB at h
        revert y h
        cases decide (((i : Nat) : Int) ≥ 30) <;> cases rouB i ws ps x <;> decide
      rw [fB, if_neg nz] at pp
      rw [← pp] at rt
      exact s_raise2 e_str (e_var rfl) rt
    · have yz : roB ws ps i x = true := by
        unfold roB
        revert y
        cases decide (((i : Nat) : Int) ≥ 30) <;> cases rouB i ws ps x <;> decide
      rw [fB, if_pos yz] at pp
      exact pp
    · exact .keep rfl (.keep rfl (.keep rfl (.drop (.drop (.drop .nil)))))
  have pp : fB (roB ws ps) (enD 0 (ro.map rouD)).length (ro.drop (enD 0 (ro.map rouD)).length) = fB (roB ws ps) 0 ro := pp
  rw [enD_len, List.length_map, List.drop_length] at pp
  rw [← pp] at rt
  have rt : OutOk _ Q Ek (cnO C "holdbacks" (fB hoB 0 ho)) := rt
  refine s_for (α := Unit) (fun _ _ => [.raw (.ref a), .fz (.list (ws.map .str)), .fz (.list (ps.map .str)), .un, .un, .un]) (fun i _ => fB hoB i (ho.drop i) = fB hoB 0 ho) (it_enum (e_fld0 rfl ob CL N_holdbacks w4)) () rfl (Wk.refl _) (fun F1 i _ d hd pp => ?_) fun _ pp => ?_
  · obtain ⟨d', hq, rfl⟩ := enD_get _ _ _ _ hd
    obtain ⟨x, hx, rfl⟩ := map_get hq
    rw [drop_get hx] at pp
    refine ⟨_, _, g_tup (gs_cons g_name (gs_cons g_name gs_nil)) rfl, ?_⟩
    rw [Nat.zero_add]
    show S _ _ _ [.raw (.ref a), .fz (.list (ws.map .str)), .fz (.list (ps.map .str)), .fz (.int (i : Nat)), .un, .fz (hobD x)]
    refine s_if (b := decide (((i : Nat) : Int) ≥ 10) || !hobB x) (t_or (t_test (b_op (E.b (e_var rfl)) (E.b e_int) ge_i rfl)) fun _ => t_not (t_tru (d := .bool (hobB x)) (E.b (e_call (ds := [hobD x]) (a_cons (e_var rfl) a_nil) ⟨x, rfl, z4 x (List.mem_of_getElem? hx), rfl⟩)) rfl)) (fun y => ?_) fun y => s_next (n_end () ?_ ?_)
    · have nz : ¬ hoB i x = true := fun h => by
        unfold hoB at h
        revert y h
        cases decide (((i : Nat) : Int) ≥ 10) <;> cases hobB x <;> decide
      rw [fB, if_neg nz] at pp
      rw [← pp] at rt
      exact s_raise2 e_str (e_var rfl) rt
    · have yz : hoB i x = true := by
        unfold hoB
        revert y
        cases decide (((i : Nat) : Int) ≥ 10) <;> cases hobB x <;> decide
      rw [fB, if_pos yz] at pp
      exact pp
    · exact .keep rfl (.keep rfl (.keep rfl (.drop (.drop (.drop .nil)))))
  · have pp : fB hoB (enD 0 (ho.map hobD)).length (ho.drop (enD 0 (ho.map hobD)).length) = fB hoB 0 ho := pp
    rw [enD_len, List.length_map, List.drop_length] at pp
    rw [← pp] at rt
    exact n_rt rt
end
section
variable {P : Program} {w : World} {K : PySem.W.Frag} {mg : Str → Option Value} {base : Heap} {f : Addr} {fd : FuncData} {Tb : List Addr} {k : Nat}
/-- the fields of a setup -/
def setF (wk : PyData) (p s q u r h g : List PyData) (rp pa dn st lb : PyData) : List (Str × PyData) := [("week", wk), ("people", .list p), ("schedules", .list s), ("policies", .list q), ("windows", .list u), ("routes", .list r), ("holdbacks", .list h), ("groups", .list g), ("replicas", rp), ("pause", pa), ("down", dn), ("store", st), ("lookback", lb)]
/-- the arguments of a setup -/
def setA (wk dp ds dq du dr dh dg rp pa dn st lb : PyData) : List PyData := [wk, dp, ds, dq, du, dr, dh, dg, rp, pa, dn, st, lb]
def R_ini : List PyData → List (Str × PyData) → Prop := fun ds fs => ∃ wk dp de dq du dr dh dg rp pa dn st lb p s q u r h g, ds = setA wk dp de dq du dr dh dg rp pa dn st lb ∧ (asL dp = some p ∧ asL de = some s ∧ asL dq = some q ∧ asL du = some u ∧ asL dr = some r ∧ asL dh = some h ∧ asL dg = some g) ∧ fs = setF wk p s q u r h g rp pa dn st lb
theorem fn_ini {Ca : Addr} (Fn : Fun K "__init__" "Setup.__init__" s_Setup_init f fd) (Z : Zb mg) (CL : Cls K Ca) (N_week : NoAttr K Ca "week") (N_people : NoAttr K Ca "people") (N_schedules : NoAttr K Ca "schedules") (N_policies : NoAttr K Ca "policies") (N_windows : NoAttr K Ca "windows") (N_routes : NoAttr K Ca "routes") (N_holdbacks : NoAttr K Ca "holdbacks") (N_groups : NoAttr K Ca "groups") (N_replicas : NoAttr K Ca "replicas") (N_pause : NoAttr K Ca "pause") (N_down : NoAttr K Ca "down") (N_store : NoAttr K Ca "store") (N_lookback : NoAttr K Ca "lookback") :
    FnOk P w K mg base CX0 1 f fd ["self", "week", "people", "schedules", "policies", "windows", "routes", "holdbacks", "groups", "replicas", "pause", "down", "store", "lookback"] (spI K Tb Ca R_ini) := by
  refine fn_I Fn sc_Setup_init (fun ds fs h => by obtain ⟨_, _, _, _, _, _, _, _, _, _, _, _, _, _, _, _, _, _, _, _, rfl, _⟩ := h; rfl) fun cdv A outer s H Ek hr => ⟨_, (pss_cons (ps_fldK K (pv 0) (pv 1))
      (pss_cons (ps_fldK K (pv 0) (pe_callTy (uListK K (by rfl)) (by rfl) Z.list (by decide +kernel) (pa_cons (pv 2) pa_nil)))
      (pss_cons (ps_fldK K (pv 0) (pe_callTy (uListK K (by rfl)) (by rfl) Z.list (by decide +kernel) (pa_cons (pv 3) pa_nil)))
      (pss_cons (ps_fldK K (pv 0) (pe_callTy (uListK K (by rfl)) (by rfl) Z.list (by decide +kernel) (pa_cons (pv 4) pa_nil)))
      (pss_cons (ps_fldK K (pv 0) (pe_callTy (uListK K (by rfl)) (by rfl) Z.list (by decide +kernel) (pa_cons (pv 5) pa_nil)))
      (pss_cons (ps_fldK K (pv 0) (pe_callTy (uListK K (by rfl)) (by rfl) Z.list (by decide +kernel) (pa_cons (pv 6) pa_nil)))
      (pss_cons (ps_fldK K (pv 0) (pe_callTy (uListK K (by rfl)) (by rfl) Z.list (by decide +kernel) (pa_cons (pv 7) pa_nil)))
      (pss_cons (ps_fldK K (pv 0) (pe_callTy (uListK K (by rfl)) (by rfl) Z.list (by decide +kernel) (pa_cons (pv 8) pa_nil)))
      (pss_cons (ps_fldK K (pv 0) (pv 9))
      (pss_cons (ps_fldK K (pv 0) (pv 10))
      (pss_cons (ps_fldK K (pv 0) (pv 11))
      (pss_cons (ps_fldK K (pv 0) (pv 12))
      (pss_one (ps_fldK K (pv 0) (pv 13))))))))))))))),  fun F0 H2 a dx ws ds fs Q hd r q => ?_⟩
  obtain ⟨wk, dp, de, dq, du, dr, dh, dg, rp, pa, dn, st, lb, p, s, q', u, r, h, g, rfl, ⟨e1, e2, e3, e4, e5, e6, e7⟩, rfl⟩ := r
  cases hd with | cons d1 hd =>
  cases hd with | cons d2 hd =>
  cases hd with | cons d3 hd =>
  cases hd with | cons d4 hd =>
  cases hd with | cons d5 hd =>
  cases hd with | cons d6 hd =>
  cases hd with | cons d7 hd =>
  cases hd with | cons d8 hd =>
  cases hd with | cons d9 hd =>
  cases hd with | cons d10 hd =>
  cases hd with | cons d11 hd =>
  cases hd with | cons d12 hd =>
  cases hd with | cons d13 hd =>
  cases hd
  refine si_valq rfl rfl d1 CL N_week (by show ("week" : Str) ∉ ([] : List Str); decide) (by show 0 < 1000; decide) ?_
  show SI _ _ _ _ _ _ _ [("week", wk)] _ _
  refine si_listq rfl rfl d2 e1 CL N_people (by show ("people" : Str) ∉ (["week"] : List Str); decide) (by show 1 < 1000; decide) ?_
  show SI _ _ _ _ _ _ _ [("week", wk), ("people", .list p)] _ _
  refine si_listq rfl rfl d3 e2 CL N_schedules (by show ("schedules" : Str) ∉ (["week", "people"] : List Str); decide) (by show 2 < 1000; decide) ?_
  show SI _ _ _ _ _ _ _ [("week", wk), ("people", .list p), ("schedules", .list s)] _ _
  refine si_listq rfl rfl d4 e3 CL N_policies (by show ("policies" : Str) ∉ (["week", "people", "schedules"] : List Str); decide) (by show 3 < 1000; decide) ?_
  show SI _ _ _ _ _ _ _ [("week", wk), ("people", .list p), ("schedules", .list s), ("policies", .list q')] _ _
  refine si_listq rfl rfl d5 e4 CL N_windows (by show ("windows" : Str) ∉ (["week", "people", "schedules", "policies"] : List Str); decide) (by show 4 < 1000; decide) ?_
  show SI _ _ _ _ _ _ _ [("week", wk), ("people", .list p), ("schedules", .list s), ("policies", .list q'), ("windows", .list u)] _ _
  refine si_listq rfl rfl d6 e5 CL N_routes (by show ("routes" : Str) ∉ (["week", "people", "schedules", "policies", "windows"] : List Str); decide) (by show 5 < 1000; decide) ?_
  show SI _ _ _ _ _ _ _ [("week", wk), ("people", .list p), ("schedules", .list s), ("policies", .list q'), ("windows", .list u), ("routes", .list r)] _ _
  refine si_listq rfl rfl d7 e6 CL N_holdbacks (by show ("holdbacks" : Str) ∉ (["week", "people", "schedules", "policies", "windows", "routes"] : List Str); decide) (by show 6 < 1000; decide) ?_
  show SI _ _ _ _ _ _ _ [("week", wk), ("people", .list p), ("schedules", .list s), ("policies", .list q'), ("windows", .list u), ("routes", .list r), ("holdbacks", .list h)] _ _
  refine si_listq rfl rfl d8 e7 CL N_groups (by show ("groups" : Str) ∉ (["week", "people", "schedules", "policies", "windows", "routes", "holdbacks"] : List Str); decide) (by show 7 < 1000; decide) ?_
  show SI _ _ _ _ _ _ _ [("week", wk), ("people", .list p), ("schedules", .list s), ("policies", .list q'), ("windows", .list u), ("routes", .list r), ("holdbacks", .list h), ("groups", .list g)] _ _
  refine si_valq rfl rfl d9 CL N_replicas (by show ("replicas" : Str) ∉ (["week", "people", "schedules", "policies", "windows", "routes", "holdbacks", "groups"] : List Str); decide) (by show 8 < 1000; decide) ?_
  show SI _ _ _ _ _ _ _ [("week", wk), ("people", .list p), ("schedules", .list s), ("policies", .list q'), ("windows", .list u), ("routes", .list r), ("holdbacks", .list h), ("groups", .list g), ("replicas", rp)] _ _
  refine si_valq rfl rfl d10 CL N_pause (by show ("pause" : Str) ∉ (["week", "people", "schedules", "policies", "windows", "routes", "holdbacks", "groups", "replicas"] : List Str); decide) (by show 9 < 1000; decide) ?_
  show SI _ _ _ _ _ _ _ [("week", wk), ("people", .list p), ("schedules", .list s), ("policies", .list q'), ("windows", .list u), ("routes", .list r), ("holdbacks", .list h), ("groups", .list g), ("replicas", rp), ("pause", pa)] _ _
  refine si_valq rfl rfl d11 CL N_down (by show ("down" : Str) ∉ (["week", "people", "schedules", "policies", "windows", "routes", "holdbacks", "groups", "replicas", "pause"] : List Str); decide) (by show 10 < 1000; decide) ?_
  show SI _ _ _ _ _ _ _ [("week", wk), ("people", .list p), ("schedules", .list s), ("policies", .list q'), ("windows", .list u), ("routes", .list r), ("holdbacks", .list h), ("groups", .list g), ("replicas", rp), ("pause", pa), ("down", dn)] _ _
  refine si_valq rfl rfl d12 CL N_store (by show ("store" : Str) ∉ (["week", "people", "schedules", "policies", "windows", "routes", "holdbacks", "groups", "replicas", "pause", "down"] : List Str); decide) (by show 11 < 1000; decide) ?_
  show SI _ _ _ _ _ _ _ [("week", wk), ("people", .list p), ("schedules", .list s), ("policies", .list q'), ("windows", .list u), ("routes", .list r), ("holdbacks", .list h), ("groups", .list g), ("replicas", rp), ("pause", pa), ("down", dn), ("store", st)] _ _
  exact si_val rfl rfl d13 CL N_lookback (by show ("lookback" : Str) ∉ (["week", "people", "schedules", "policies", "windows", "routes", "holdbacks", "groups", "replicas", "pause", "down", "store"] : List Str); decide) (by show 12 < 1000; decide) fun F1 H1 I => q F1 H1 I
end
section
variable {P : Program} {w : World} {K : PySem.W.Frag} {mg : Str → Option Value} {base : Heap} {f : Addr} {fd : FuncData} {Tb : List Addr} {k : Nat}
abbrev Pp := Str × Int
abbrev Sc := Str × List Lay × List Sti
abbrev Po := Str × List (Str × Int)
abbrev Wi := Str × List (Int × Int)
def ppE (x : Pp) : Str × List PyData := (x.1, [.int x.2])
def scE (x : Sc) : Str × List PyData := (x.1, [.tuple (x.2.1.map layD), .tuple (x.2.2.map stiD)])
def poE (x : Po) : Str × List PyData := (x.1, [.tuple (x.2.map lvD)])
def wiE (x : Wi) : Str × List PyData := (x.1, [.tuple (x.2.map spD2)])
theorem ppI (x y : Pp) (h : enE (ppE x) = enE (ppE y)) : x = y := by
  have h := enE_inj _ _ h
  obtain ⟨a, b⟩ := x
  obtain ⟨c, d⟩ := y
  injection h with h1 h2
  injection h2 with h2 _
  injection h2 with h2
  exact Prod.ext h1 h2
theorem scI (x y : Sc) (h : enE (scE x) = enE (scE y)) : x = y := by
  have h := enE_inj _ _ h
  obtain ⟨a, b, b'⟩ := x
  obtain ⟨c, d, d'⟩ := y
  injection h with h1 h2
  injection h2 with h2 h3
  injection h3 with h3 _
  injection h2 with h2
  injection h3 with h3
  exact Prod.ext h1 (Prod.ext (mapI layD_inj _ _ h2) (mapI stiD_inj _ _ h3))
theorem poI (x y : Po) (h : enE (poE x) = enE (poE y)) : x = y := by
  have h := enE_inj _ _ h
  obtain ⟨a, b⟩ := x
  obtain ⟨c, d⟩ := y
  injection h with h1 h2
  injection h2 with h2 _
  injection h2 with h2
  exact Prod.ext h1 (mapI lvD_inj _ _ h2)
theorem wiI (x y : Wi) (h : enE (wiE x) = enE (wiE y)) : x = y := by
  have h := enE_inj _ _ h
  obtain ⟨a, b⟩ := x
  obtain ⟨c, d⟩ := y
  injection h with h1 h2
  injection h2 with h2 _
  injection h2 with h2
  exact Prod.ext h1 (mapI spD2_inj _ _ h2)
/-- the parts of a setup -/
structure SuP where
  wk : Int
  pp : List Pp
  sc : List Sc
  po : List Po
  wi : List Wi
  ro : List Rou
  ho : List Hob
  gr : List (Str × List PyData)
  rp : Int
  pa : Int
  dn : Int
  s1 : Int
  s2 : Int
  s3 : Int
  s4 : Int
  lb : Int
def stoD (x : SuP) : PyData := .tuple [.int x.s1, .int x.s2, .int x.s3, .int x.s4]
def ppL (x : SuP) : List (Str × List PyData) := x.pp.map ppE
def scL (x : SuP) : List (Str × List PyData) := x.sc.map scE
def poL (x : SuP) : List (Str × List PyData) := x.po.map poE
def wiL (x : SuP) : List (Str × List PyData) := x.wi.map wiE
def suF (x : SuP) : List (Str × PyData) := setF (.int x.wk) ((ppL x).map enE) ((scL x).map enE) ((poL x).map enE) ((wiL x).map enE) (x.ro.map rouD) (x.ho.map hobD) (x.gr.map enE) (.int x.rp) (.int x.pa) (.int x.dn) (stoD x) (.int x.lb)
/-- what may be asked -/
structure SuS (x : SuP) : Prop where
  z1 : x.pp.length ≤ 1000
  z2 : x.sc.length ≤ 1000
  z3 : x.po.length ≤ 1000
  z4 : x.wi.length ≤ 1000
  n1 : ∀ y ∈ x.pp, y.1.length ≤ 100000
  n2 : ∀ y ∈ x.sc, y.1.length ≤ 100000 ∧ y.2.1.length ≤ 1000 ∧ y.2.2.length ≤ 1000 ∧ ∀ l ∈ y.2.1, l.ms.length ≤ 1000 ∧ l.sp.length ≤ 1000
  n3 : ∀ y ∈ x.po, y.1.length ≤ 100000 ∧ y.2.length ≤ 1000
  n4 : ∀ y ∈ x.wi, y.1.length ≤ 100000 ∧ y.2.length ≤ 1000
  r : ∀ y ∈ x.ro, RouS y
  h : ∀ y ∈ x.ho, HobS y
def rgB (a b n : Int) : Bool := decide (a ≤ n) && decide (n ≤ b)
noncomputable def pPf : PyData → Bool := liftB (fun y : Pp => enE (ppE y)) fun y => rgB 0 20 y.2
noncomputable def pSf (x : SuP) : PyData → Bool := liftB (fun y : Sc => enE (scE y)) fun y => schB x.wk (x.pp.map (·.1)) y.2.1 y.2.2
noncomputable def pOf (x : SuP) : PyData → Bool := liftB (fun y : Po => enE (poE y)) fun y => polB (x.sc.map (·.1)) y.2
noncomputable def pWf (x : SuP) : PyData → Bool := liftB (fun y : Wi => enE (wiE y)) fun y => winB x.wk y.2
noncomputable def suO (C : Addr) (x : SuP) (pG : PyData → Bool) : Out :=
  thE (caO C "week" (rgB 1 2000 x.wk)) (thE (cpO C pPf (pSf x) (pOf x) (pWf x) (ppL x) (scL x) (poL x) (wiL x)) (thE (alO C (wiL x) (poL x) x.ro x.ho) (thE (cnO C "groups" (cnF pG [] 0 x.gr))
    (thE (caO C "replicas" (rgB 1 5 x.rp)) (thE (caO C "pause" (rgB 0 1000 x.pa)) (thE (caO C "down" (rgB 0 20 x.dn)) (thE (caO C "store" (rgB 0 1000 x.s1 && (rgB 1 1000 x.s2 && (rgB 2 10 x.s3 && rgB 0 3 x.s4)))) (thE (caO C "lookback" (rgB 1 1000 x.lb)) (.val .none)))))))))
def asA (dp : PyData) (l : List PyData) : Prop := dp = .list l ∨ dp = .tuple l
theorem asA_L {d : PyData} {l : List PyData} (h : asA d l) : asL d = some l := by rcases h with rfl | rfl <;> rfl
def R_set (K : PySem.W.Frag) (C fp fg : Addr) (R1 Rg : Hp → List Sl → Out → Prop) : Hp → List Sl → List (Str × PyData) → Out → Prop := fun F Gs fs o => ∃ x dp de dq du dr dh dg pG, Gs = (setA (.int x.wk) dp de dq du dr dh dg (.int x.rp) (.int x.pa) (.int x.dn) (stoD x) (.int x.lb)).map .fz ∧
  (asA dp ((ppL x).map enE) ∧ asA de ((scL x).map enE) ∧ asA dq ((poL x).map enE) ∧ asA du ((wiL x).map enE) ∧ asA dr (x.ro.map rouD) ∧ asA dh (x.ho.map hobD) ∧ asA dg (x.gr.map enE)) ∧ SuS x ∧
  (∀ F1, R1 F1 [.fz (.str "people"), .fz (.list ((ppL x).map enE)), .raw (.ref fp)] (cnO C "people" (cnF pPf [] 0 (ppL x)))) ∧ (∀ F1, Rg F1 [.fz (.str "groups"), .fz (.list (x.gr.map enE)), .raw (.ref fg)] (cnO C "groups" (cnF pG [] 0 x.gr))) ∧ fs = suF x ∧ o = suO C x pG
theorem sch_of {x : SuP} (h : SuS x) (y : Sc) (hy : y ∈ x.sc) : R_sch [.int x.wk, .list (nmE (ppL x)), enE (scE y)] (.bool (pSf x (enE (scE y)))) := by
  refine ⟨x.wk, x.pp.map (·.1), .str y.1, y.2.1, y.2.2, ?_, (h.n2 y hy).2.1, (h.n2 y hy).2.2.1, (h.n2 y hy).2.2.2, ?_⟩
  · rw [nmE_map]; unfold ppL; simp only [List.map_map]; rfl
  · unfold pSf; rw [liftB_enc (enc := fun y : Sc => enE (scE y)) scI]
theorem pol_of {x : SuP} (h : SuS x) (y : Po) (hy : y ∈ x.po) : R_pol [.list (nmE (scL x)), enE (poE y)] (.bool (pOf x (enE (poE y)))) := by
  refine ⟨x.sc.map (·.1), .str y.1, y.2, ?_, (h.n3 y hy).2, ?_⟩
  · rw [nmE_map]; unfold scL; simp only [List.map_map]; rfl
  · unfold pOf; rw [liftB_enc (enc := fun y : Po => enE (poE y)) poI]
theorem win_of {x : SuP} (h : SuS x) (y : Wi) (hy : y ∈ x.wi) : R_win [.int x.wk, enE (wiE y)] (.bool (pWf x (enE (wiE y)))) := by
  refine ⟨x.wk, .str y.1, y.2, rfl, (h.n4 y hy).2, ?_⟩
  unfold pWf; rw [liftB_enc (enc := fun y : Wi => enE (wiE y)) wiI]
theorem cp_in {F : Hp} {Ca a : Addr} {x : SuP} (h : SuS x) (ob : ObF K F a Ca (suF x)) : CpIn F K Ca a x.wk (ppL x) (scL x) (poL x) (wiL x) R_sch R_pol R_win (pSf x) (pOf x) (pWf x) := by
  refine ⟨⟨suF x, ob, rfl, rfl, rfl, rfl, rfl⟩, ?_, ?_, ?_, ?_, ?_, ?_, ?_, ?_, ?_, ?_⟩
  · unfold ppL; rw [List.length_map]; exact h.z1
  · unfold scL; rw [List.length_map]; exact h.z2
  · unfold poL; rw [List.length_map]; exact h.z3
  · unfold wiL; rw [List.length_map]; exact h.z4
  · intro e he; obtain ⟨y, hy, rfl⟩ := List.mem_map.mp he; exact (h.n2 y hy).1
  · intro e he; obtain ⟨y, hy, rfl⟩ := List.mem_map.mp he; exact (h.n3 y hy).1
  · intro e he; obtain ⟨y, hy, rfl⟩ := List.mem_map.mp he; exact (h.n4 y hy).1
  · intro e he; obtain ⟨y, hy, rfl⟩ := List.mem_map.mp he; exact sch_of h y hy
  · intro e he; obtain ⟨y, hy, rfl⟩ := List.mem_map.mp he; exact pol_of h y hy
  · intro e he; obtain ⟨y, hy, rfl⟩ := List.mem_map.mp he; exact win_of h y hy
end
section
variable {P : Program} {w : World} {K : PySem.W.Frag} {mg : Str → Option Value} {base : Heap} {f : Addr} {fd : FuncData} {Tb : List Addr} {k : Nat}
abbrev SN : List Str := ["week", "people", "schedules", "policies", "windows", "routes", "holdbacks", "groups", "replicas", "pause", "down", "store", "lookback"]
theorem kb_b {kV doc pm : Value} {an : Option Addr} {cdv ct u w1 w2 w3 w4 w5 w6 w7 w8 w9 w10 w11 w12 w13 : Value} :
   bindArgs (PySem.W.fnOf "__init__" "Setup.__init__" (defArgs s_Setup_init) (defBody s_Setup_init) (defScope s_Setup_init) .none kV doc pm an cdv ct) ⟨[u], SN.zip [w1, w2, w3, w4, w5, w6, w7, w8, w9, w10, w11, w12, w13]⟩
    = pure ((("self" : Str) :: SN).zip ([u] ++ [w1, w2, w3, w4, w5, w6, w7, w8, w9, w10, w11, w12, w13])) := by kernel_rfl
theorem kb_ini (Fn : Fun K "__init__" "Setup.__init__" s_Setup_init f fd) : KBn K fd (("self" : Str) :: SN) 1 SN (fun us ws => us ++ ws) (fun vs zs => vs ++ zs) := by
  obtain ⟨oc, od, kV, doc, pm, an, cdv, ct, osl, rfl, lk, hcd⟩ := Fn.ex
  refine ⟨fun s us ws _ l1 l2 => BindsTo.of_looks fun M => ?_, fun r1 r2 => r1.append r2⟩
  obtain ⟨u, rfl⟩ := List.length_eq_one_iff.mp l1
  match ws, l2 with
  | [w1, w2, w3, w4, w5, w6, w7, w8, w9, w10, w11, w12, w13], _ =>
    have e := kb_b (kV := kV) (doc := doc) (pm := pm) (an := an) (cdv := cdv) (ct := ct) (u := u) (w1 := w1) (w2 := w2) (w3 := w3) (w4 := w4) (w5 := w5) (w6 := w6) (w7 := w7) (w8 := w8) (w9 := w9) (w10 := w10) (w11 := w11) (w12 := w12) (w13 := w13)
    rw [e]
    exact PySem.W.Looks.of_pure rfl
theorem mk_su {Ca : Addr} (M : Mk K Ca f) (hm : mg "Setup" = some (.ref Ca)) (Fn : Fun K "__init__" "Setup.__init__" s_Setup_init f fd) (Z : Zb mg) (CL : Cls K Ca) (N_week : NoAttr K Ca "week") (N_people : NoAttr K Ca "people") (N_schedules : NoAttr K Ca "schedules") (N_policies : NoAttr K Ca "policies") (N_windows : NoAttr K Ca "windows") (N_routes : NoAttr K Ca "routes") (N_holdbacks : NoAttr K Ca "holdbacks") (N_groups : NoAttr K Ca "groups") (N_replicas : NoAttr K Ca "replicas") (N_pause : NoAttr K Ca "pause") (N_down : NoAttr K Ca "down") (N_store : NoAttr K Ca "store") (N_lookback : NoAttr K Ca "lookback") : MkOk P w K mg base 1 "Setup" Ca SN (spI K Tb Ca R_ini) :=
  ⟨f, fd, _, M, fn_ini Fn Z CL N_week N_people N_schedules N_policies N_windows N_routes N_holdbacks N_groups N_replicas N_pause N_down N_store N_lookback, hm, kb_ini Fn⟩
theorem ok_set {C Ca fp fg : Addr} {kws : List (Str × V)} {R1 Rg : Hp → List Sl → Out → Prop} (Fn : FunD K "setup" "setup" (defArgs s_setup) (defBody s_setup) (defScope s_setup) [] kws f fd) (Z : Zb mg) (CL : Cls K Ca) (N_week : NoAttr K Ca "week") (N_people : NoAttr K Ca "people") (N_schedules : NoAttr K Ca "schedules") (N_policies : NoAttr K Ca "policies") (N_windows : NoAttr K Ca "windows") (N_routes : NoAttr K Ca "routes") (N_holdbacks : NoAttr K Ca "holdbacks") (N_groups : NoAttr K Ca "groups") (N_replicas : NoAttr K Ca "replicas") (N_pause : NoAttr K Ca "pause") (N_down : NoAttr K Ca "down") (N_store : NoAttr K Ca "store") (N_lookback : NoAttr K Ca "lookback")
    (MK_Setup : MkOk P w K mg base 1 "Setup" Ca SN (spI K Tb Ca R_ini)) (D_check_alone : DfX P w K mg base 3 "check_alone" ["part", "right"] (spX K Tb (R_ca C))) (D_is_duration : Df P w K mg base 1 "is_duration" ["number"] (spD K Tb R_dur)) (D_is_store : Df P w K mg base 2 "is_store" ["store"] (spD K Tb R_sto))
    (D_check_people : DfX P w K mg base 12 "check_people" ["made"] (spSX K Tb (R_cp K C Ca fp R1 R_sch R_pol R_win))) (D_check_alerts : DfX P w K mg base 12 "check_alerts" ["made"] (spSX K Tb (R_al K C Ca)))
    (D_check_named : DfX P w K mg base 10 "check_named" ["part", "entries", "is_right"] (spSX K Tb Rg)) (V_is_group : mg "is_group" = some (.ref fg)) :
    FnOk P w K mg base (L2.CX P w) 13 f fd SN (spOX K Tb Ca (R_set K C fp fg R1 Rg)) := by
  refine fn_OX Fn sc_setup (fun F Gs fs o h => by obtain ⟨_, _, _, _, _, _, _, _, _, rfl, _⟩ := h; rfl) fun cdv A outer s H Ek hr => ⟨_, (pss_cons (ps_set (i := 13) sc_setup.nd rfl (by first | exact .inl rfl | exact .inr rfl) (pe_mk MK_Setup hr (by first | decide | exact Nat.le_refl _ | omega) (by rfl) (pk_cons (pv 0) (pk_cons (pv 1) (pk_cons (pv 2) (pk_cons (pv 3) (pk_cons (pv 4) (pk_cons (pv 5) (pk_cons (pv 6) (pk_cons (pv 7) (pk_cons (pv 8) (pk_cons (pv 9) (pk_cons (pv 10) (pk_cons (pv 11) (pk_cons (pv 12) pk_nil)))))))))))))))
      (pss_cons (ps_expr (pe_dfX (W := fun cls d _ H => Ek cls d H) D_check_alone hr (by first | decide | exact Nat.le_refl _ | omega) (by rfl) (takes_of rfl rfl rfl rfl) (pa_cons pe_str (pa_cons (pe_chain op_le op_le pe_int (pe_fldK K (pv 13)) pe_int) pa_nil))))
      (pss_cons (ps_expr (pe_dfX (W := fun cls d _ H => Ek cls d H) D_check_people hr (by first | decide | exact Nat.le_refl _ | omega) (by rfl) (takes_of rfl rfl rfl rfl) (pa_cons (pv 13) pa_nil)))
      (pss_cons (ps_expr (pe_dfX (W := fun cls d _ H => Ek cls d H) D_check_alerts hr (by first | decide | exact Nat.le_refl _ | omega) (by rfl) (takes_of rfl rfl rfl rfl) (pa_cons (pv 13) pa_nil)))
      (pss_cons (ps_expr (pe_dfX (W := fun cls d _ H => Ek cls d H) D_check_named hr (by first | decide | exact Nat.le_refl _ | omega) (by rfl) (takes_of rfl rfl rfl rfl) (pa_cons pe_str (pa_cons (pe_fldK K (pv 13)) (pa_cons (pe_fv V_is_group (by rfl)) pa_nil)))))
      (pss_cons (ps_expr (pe_dfX (W := fun cls d _ H => Ek cls d H) D_check_alone hr (by first | decide | exact Nat.le_refl _ | omega) (by rfl) (takes_of rfl rfl rfl rfl) (pa_cons pe_str (pa_cons (pe_chain op_le op_le pe_int (pe_fldK K (pv 13)) pe_int) pa_nil))))
      (pss_cons (ps_expr (pe_dfX (W := fun cls d _ H => Ek cls d H) D_check_alone hr (by first | decide | exact Nat.le_refl _ | omega) (by rfl) (takes_of rfl rfl rfl rfl) (pa_cons pe_str (pa_cons (pe_df D_is_duration hr (by first | decide | exact Nat.le_refl _ | omega) (by rfl) (pa_cons (pe_fldK K (pv 13)) pa_nil)) pa_nil))))
      (pss_cons (ps_expr (pe_dfX (W := fun cls d _ H => Ek cls d H) D_check_alone hr (by first | decide | exact Nat.le_refl _ | omega) (by rfl) (takes_of rfl rfl rfl rfl) (pa_cons pe_str (pa_cons (pe_chain op_le op_le pe_int (pe_fldK K (pv 13)) pe_int) pa_nil))))
      (pss_cons (ps_expr (pe_dfX (W := fun cls d _ H => Ek cls d H) D_check_alone hr (by first | decide | exact Nat.le_refl _ | omega) (by rfl) (takes_of rfl rfl rfl rfl) (pa_cons pe_str (pa_cons (pe_df D_is_store hr (by first | decide | exact Nat.le_refl _ | omega) (by rfl) (pa_cons (pe_fldK K (pv 13)) pa_nil)) pa_nil))))
      (pss_cons (ps_expr (pe_dfX (W := fun cls d _ H => Ek cls d H) D_check_alone hr (by first | decide | exact Nat.le_refl _ | omega) (by rfl) (takes_of rfl rfl rfl rfl) (pa_cons pe_str (pa_cons (pe_chain op_le op_le pe_int (pe_fldK K (pv 13)) pe_int) pa_nil))))
      (pss_one (ps_ret (pv 13))))))))))))),  fun Gs fs o F0 H0 Q r rt => ?_⟩
  obtain ⟨x, dp, de, dq, du, dr, dh, dg, pG, rfl, ⟨a1, a2, a3, a4, a5, a6, a7⟩, hS, h1, hg, rfl, rfl⟩ := r
  show S _ _ _ [.fz (.int x.wk), .fz dp, .fz de, .fz dq, .fz du, .fz dr, .fz dh, .fz dg, .fz (.int x.rp), .fz (.int x.pa), .fz (.int x.dn), .fz (stoD x), .fz (.int x.lb), .un]
  unfold suO at rt
  refine q_make (m := 13) (fs := suF x) (ds := setA (.int x.wk) dp de dq du dr dh dg (.int x.rp) (.int x.pa) (.int x.dn) (stoD x) (.int x.lb)) (a_cons (e_var rfl) (a_cons (e_var rfl) (a_cons (e_var rfl) (a_cons (e_var rfl) (a_cons (e_var rfl) (a_cons (e_var rfl) (a_cons (e_var rfl) (a_cons (e_var rfl) (a_cons (e_var rfl) (a_cons (e_var rfl) (a_cons (e_var rfl) (a_cons (e_var rfl) (a_cons (e_var rfl) a_nil))))))))))))) rfl (fun v zs _ => rfl) ⟨_, _, _, _, _, _, _, _, _, _, _, _, _, _, _, _, _, _, _, _, rfl, ⟨asA_L a1, asA_L a2, asA_L a3, asA_L a4, asA_L a5, asA_L a6, asA_L a7⟩, rfl⟩ fun a F1 ob e1 => ?_
  show S _ _ _ [.fz (.int x.wk), .fz dp, .fz de, .fz dq, .fz du, .fz dr, .fz dh, .fz dg, .fz (.int x.rp), .fz (.int x.pa), .fz (.int x.dn), .fz (stoD x), .fz (.int x.lb), .raw (.ref a)]
  have fld : ∀ {n : Str} {d : PyData} {G : List Sl}, G[13]? = some (.raw (.ref a)) → NoAttr K Ca n → (suF x).lookup n = some d → E (⟨K, Tb, F0, H0, F1⟩ : Gd) (tFld K (tVar 13) n) G d := fun hi hn hl => e_fldO hi ob CL hn hl
  refine q_chkX (o := caO C "week" (rgB 1 2000 x.wk)) (ds := [.str "week", .bool (rgB 1 2000 x.wk)]) (a_cons e_str (a_cons (e_chain (E.b e_int) (E.b (fld rfl N_week rfl)) (fun _ => E.b e_int) le_i fun _ => le_i) a_nil)) ⟨"week", _, rfl, rfl⟩ (fun _ => rfl) rt fun rt => ?_
  refine q_chkS (Gs := [.raw (.ref a)]) (as_raw rfl as_nil) (fun F e => ⟨a, x.wk, ppL x, scL x, poL x, wiL x, pPf, pSf x, pOf x, pWf x, rfl, cp_in hS (ob.mono e), h1, rfl⟩) (fun _ => rfl) rt fun rt => ?_
  refine q_chkS (Gs := [.raw (.ref a)]) (as_raw rfl as_nil) (fun F e => ⟨a, wiL x, poL x, x.ro, x.ho, rfl, ⟨⟨suF x, ob.mono e, rfl, rfl, rfl, rfl⟩, by unfold wiL; rw [List.length_map]; exact hS.z4, by unfold poL; rw [List.length_map]; exact hS.z3, hS.r, hS.h⟩, rfl⟩) (fun _ => rfl) rt fun rt => ?_
  refine q_chkS (Gs := [.fz (.str "groups"), .fz (.list (x.gr.map enE)), .raw (.ref fg)]) (as_cons e_str (as_cons (fld rfl N_groups rfl) (as_con as_nil))) (fun F e => hg F) (fun _ => rfl) rt fun rt => ?_
  refine q_chkX (o := caO C "replicas" (rgB 1 5 x.rp)) (ds := [.str "replicas", .bool (rgB 1 5 x.rp)]) (a_cons e_str (a_cons (e_chain (E.b e_int) (E.b (fld rfl N_replicas rfl)) (fun _ => E.b e_int) le_i fun _ => le_i) a_nil)) ⟨"replicas", _, rfl, rfl⟩ (fun _ => rfl) rt fun rt => ?_
  refine q_chkX (o := caO C "pause" (rgB 0 1000 x.pa)) (ds := [.str "pause", .bool (rgB 0 1000 x.pa)]) (a_cons e_str (a_cons (e_call (ds := [.int x.pa]) (a_cons (fld rfl N_pause rfl) a_nil) ⟨x.pa, rfl, rfl⟩) a_nil)) ⟨"pause", _, rfl, rfl⟩ (fun _ => rfl) rt fun rt => ?_
  refine q_chkX (o := caO C "down" (rgB 0 20 x.dn)) (ds := [.str "down", .bool (rgB 0 20 x.dn)]) (a_cons e_str (a_cons (e_chain (E.b e_int) (E.b (fld rfl N_down rfl)) (fun _ => E.b e_int) le_i fun _ => le_i) a_nil)) ⟨"down", _, rfl, rfl⟩ (fun _ => rfl) rt fun rt => ?_
  refine q_chkX (o := caO C "store" (rgB 0 1000 x.s1 && (rgB 1 1000 x.s2 && (rgB 2 10 x.s3 && rgB 0 3 x.s4)))) (ds := [.str "store", .bool (rgB 0 1000 x.s1 && (rgB 1 1000 x.s2 && (rgB 2 10 x.s3 && rgB 0 3 x.s4)))]) (a_cons e_str (a_cons (e_call (ds := [stoD x]) (a_cons (fld rfl N_store rfl) a_nil) ⟨x.s1, x.s2, x.s3, x.s4, rfl, rfl⟩) a_nil)) ⟨"store", _, rfl, rfl⟩ (fun _ => rfl) rt fun rt => ?_
  refine q_chkX (o := caO C "lookback" (rgB 1 1000 x.lb)) (ds := [.str "lookback", .bool (rgB 1 1000 x.lb)]) (a_cons e_str (a_cons (e_chain (E.b e_int) (E.b (fld rfl N_lookback rfl)) (fun _ => E.b e_int) le_i fun _ => le_i) a_nil)) ⟨"lookback", _, rfl, rfl⟩ (fun _ => rfl) rt fun rt => ?_
  exact s_retOb rfl ob rt
/-- setup at hand, called by these keywords -/
theorem df_set {C Ca fp fg : Addr} {kws : List (Str × V)} {R1 Rg : Hp → List Sl → Out → Prop} (ks : List Str) (hne : kws ≠ []) (Fn : FunD K "setup" "setup" (defArgs s_setup) (defBody s_setup) (defScope s_setup) [] kws f fd) (hm : mg "setup" = some (.ref f))
    (F : FnOk P w K mg base (L2.CX P w) 13 f fd SN (spOX K Tb Ca (R_set K C fp fg R1 Rg))) (hk : ∀ n ∈ ks, n ∈ SN) (ndk : ks.Nodup) (h2 : ∀ n ∈ SN, n ∉ ks → (kws.lookup n).isSome = true) : DfKX P w K mg base 13 "setup" ks (fun _ zs => kwV kws SN ks zs) (spOX K Tb Ca (R_set K C fp fg R1 Rg)) := by
  obtain ⟨g, hb⟩ := kb_kw Fn ks hne (by rfl) (by rfl) (ps := SN) (by rfl) (by rfl) (by rfl) hk ndk (by decide) h2
  exact ⟨f, fd, SN, g, F, hm, Fn.kp, hb⟩
end
namespace WL
/-! ### labels -/
def valD : List (Str × Str) → Str → Str
  | [], _ => ""
  | p :: L, n => if p.1 = n then p.2 else valD L n
theorem inD_str (a : Str) : ∀ (ns : List Str), inD (.str a) (ns.map .str) = decide (a ∈ ns)
  | [] => rfl
  | n :: ns => by
    have ih := inD_str a ns
    unfold inD inV at ih ⊢
    rw [List.map_cons, List.map_cons, List.any_cons, ih]
    show ((n == a) || _) = _
    rw [Bool.eq_iff_iff, Bool.or_eq_true, beq_iff_eq, decide_eq_true_iff, decide_eq_true_iff, List.mem_cons]
    exact or_congr eq_comm Iff.rfl
theorem scal_strs : ∀ (ns : List Str), (ns.map PyData.str).all scalD = true
  | [] => rfl
  | _ :: ns => by rw [List.map_cons, List.all_cons, scal_strs ns]; rfl
def g2 (G : List Sl) : PyData → List Sl
  | .tuple [a, b] => G ++ [.fz a, .fz b]
  | _ => []
def sortP (L : List (Str × Str)) : List (Str × Str) := L.mergeSort fun p q => leD (prD p) (prD q)
theorem prD_sh (p : Str × Str) : ∃ l, prD p = .tuple l ∧ l ≠ [] ∧ shD (fun _ => true) 0 l = true := ⟨_, rfl, List.cons_ne_nil _ _, rfl⟩
theorem prs_sh (L : List (Str × Str)) : ∀ d ∈ L.map prD, ∃ l, d = .tuple l ∧ l ≠ [] ∧ shD (fun _ => true) 0 l = true := fun d h => by
  obtain ⟨p, _, rfl⟩ := List.mem_map.mp h; exact prD_sh p
theorem sh_anti {a b : PyData} (ha : ∃ l, a = .tuple l ∧ l ≠ [] ∧ shD (fun _ => true) 0 l = true) (hb : ∃ l, b = .tuple l ∧ l ≠ [] ∧ shD (fun _ => true) 0 l = true) (h3 : leD a b = true) (h4 : leD b a = true) : a = b := by
  obtain ⟨l, rfl, _, s1⟩ := ha
  obtain ⟨m, rfl, _, s2⟩ := hb
  unfold leD at h3 h4
  have k := lex_total (O := itemOrd) (keyD (.tuple l)) (keyD (.tuple m)) (by simpa using h4) (by simpa using h3)
  rw [itm_inj s1 s2 k]
theorem sortP_perm (L : List (Str × Str)) : (sortP L).Perm L := List.mergeSort_perm L _
theorem sortP_sorted (L : List (Str × Str)) : (sortP L).Pairwise fun p q => leD (prD p) (prD q) = true := List.pairwise_mergeSort (le := fun p q => leD (prD p) (prD q)) (fun _ _ _ => leD_trans _ _ _) (fun _ _ => leD_total _ _) L
theorem sortD_map (L : List (Str × Str)) : sortD (L.map prD) = (sortP L).map prD := by
  refine sorted_uniq (R := fun x y => leD x y = true) ((sortD_perm _).trans ((sortP_perm L).map prD).symm) (fun a ha b hb => ?_) (sortD_sorted _) (List.pairwise_map.mpr (sortP_sorted L))
  exact sh_anti (prs_sh L a ((sortD_perm _).mem_iff.mp ha)) (prs_sh L b ((sortD_perm _).mem_iff.mp hb))
def lbs (D : List Int) (ns ws : List Str) : Nat → List (Str × Str)
  | 0 => []
  | i + 1 => if itS ns (itI D (0 + (i : Nat) * 2) % ns.length) ∈ (lbs D ns ws i).map (·.1) then lbs D ns ws i else lbs D ns ws i ++ [(itS ns (itI D (0 + (i : Nat) * 2) % ns.length), itS ws (itI D (0 + (i : Nat) * 2 + 1) % ws.length))]
theorem lbs_len (D : List Int) (ns ws : List Str) : ∀ i, (lbs D ns ws i).length ≤ i
  | 0 => Nat.le_refl _
  | i + 1 => by
    have := lbs_len D ns ws i
    unfold lbs
    split
    · omega
    · rw [List.length_append]; exact Nat.succ_le_succ this
section
variable {P : Program} {w : World} {K : PySem.W.Frag} {mg : Str → Option Value} {base : Heap} {f : Addr} {fd : FuncData} {Tb : List Addr} {k : Nat}
def R_labels : List PyData → PyData → Prop := fun ds d => ∃ (D : List Int) (ns ws : List Str), ds = [iL D, sL ns, sL ws] ∧ D.length ≤ 200 ∧ 0 < ns.length ∧ 0 < ws.length ∧ d = lbD (sortP (lbs D ns ws (D.length / 2)))
theorem ok_labels (Fn : Fun K "_law_labels" "_law_labels" s_l_law_labels f fd) (hm : mg "_law_labels" = some (.ref f)) (hb : Binds K fd ["_law_draws_here", "_law_names", "_law_worths_here"] []) (Z : Zb mg) :
    Df P w K mg base 1 "_law_labels" ["_law_draws_here", "_law_names", "_law_worths_here"] (spD K Tb R_labels) := by
  refine df_D Fn sc_l_law_labels hm hb (fun ds d h => by obtain ⟨c, m, x, rfl, _⟩ := h; rfl) fun cdv A outer s H Ek hr => ⟨_, (pss_cons (ps_set (i := 3) sc_l_law_labels.nd rfl (by first | exact .inl rfl | exact .inr rfl) (pe_lst pa_nil))
      (pss_cons (ps_set (i := 4) sc_l_law_labels.nd rfl (by first | exact .inl rfl | exact .inr rfl) (pe_lst pa_nil))
      (pss_cons (ps_for PassesOwn.never rfl (pi_range3 (by rfl) Z.range (pa_cons pe_int (pa_cons (pe_op op_sub (pe_callB (uLenK K) (by rfl) Z.len (by decide +kernel) (pa_cons (pv 0) pa_nil)) pe_int) (pa_cons pe_int pa_nil)))) (pg_name (i := 5) sc_l_law_labels.nd rfl (by first | exact .inl rfl | exact .inr rfl)) (pss_cons (ps_set (i := 6) sc_l_law_labels.nd rfl (by first | exact .inl rfl | exact .inr rfl) (pe_ix (ix_seqK K) (pv 1) (pe_op op_mod (pe_callTy uInt (by rfl) Z.int (by decide +kernel) (pa_cons (pe_ix (ix_seqK K) (pv 0) (pv 5) (fun _ _ => rfl)) pa_nil)) (pe_callB (uLenK K) (by rfl) Z.len (by decide +kernel) (pa_cons (pv 1) pa_nil))) (fun _ _ => rfl)))
      (pss_one (ps_if (pt_cmpR (uNiK K) (pv 6) (pv 4) (by rfl)) (pss_cons (ps_expr (pe_bm PySem.F.plainAttrs_list PySem.F.slot_list_append PySem.F.type_list_append mt_append (pv 4) (pa_cons (pv 6) pa_nil)))
      (pss_one (ps_expr (pe_bm PySem.F.plainAttrs_list PySem.F.slot_list_append PySem.F.type_list_append mt_append (pv 3) (pa_cons (pe_tup (pa_cons (pv 6) (pa_cons (pe_ix (ix_seqK K) (pv 2) (pe_op op_mod (pe_callTy uInt (by rfl) Z.int (by decide +kernel) (pa_cons (pe_ix (ix_seqK K) (pv 0) (pe_op (uAddK K) (pv 5) pe_int) (fun _ _ => rfl)) pa_nil)) (pe_callB (uLenK K) (by rfl) Z.len (by decide +kernel) (pa_cons (pv 2) pa_nil))) (fun _ _ => rfl)) pa_nil))) pa_nil))))) pss_nil))))
      (pss_one (ps_ret (pe_callTy (uTupK K) (by rfl) Z.tuple (by decide +kernel) (pa_cons (pe_callB (uSortK K (by rfl)) (by rfl) Z.sorted (by decide +kernel) (pa_cons (pv 3) pa_nil)) pa_nil))))))),  fun ds d F0 H0 Q r rt => ?_⟩
  obtain ⟨D, ns, ws, rfl, hD2, hn, hw, rfl⟩ := r
  have l1 : ((D.map PyData.int).length : Int) - 1 = (D.length : Int) - 1 := by rw [List.length_map]
  obtain ⟨rg, _⟩ := rgC_pos (a := 0) (b := (D.length : Int) - 1) (c := 2) (by decide) (by decide) (by decide) (by decide) (by omega) (by omega)
  have rn : nR3 0 ((D.length : Int) - 1) 2 = D.length / 2 := by unfold nR3; split <;> omega
  rw [rn] at rg
  have l2 : ((ns.map PyData.str).length : Int) = ns.length := by rw [List.length_map]
  have l3 : ((ws.map PyData.str).length : Int) = ws.length := by rw [List.length_map]
  have p2 : (0 : Int) < ((ns.map PyData.str).length : Int) := by omega
  have p3 : (0 : Int) < ((ws.map PyData.str).length : Int) := by omega
  refine q_asgL (el_lst a_nil (by decide)) (q_asgL (el_lst a_nil (by decide)) ?_)
  refine q_for1 (fun i => [.fz (iL D), .fz (sL ns), .fz (sL ws), .ow ((lbs D ns ws i).map prD), .ow (((lbs D ns ws i).map (·.1)).map .str), .un, .un]) (it_rng3 (lo := 0) (hi := ((D.map PyData.int).length : Int) - 1) (c := 2) (n := D.length / 2) (by walk_at "e") (by rw [l1]; exact rg)) (Wk.refl _) (fun F1 i d hd => ?_) ?_
  · obtain ⟨hi, rfl⟩ := rngC_get hd
    refine ⟨_, _, g_name, ?_⟩
    have a1 : atI (D.map PyData.int) (0 + (i : Nat) * 2) = _ := at_int (by omega) (by omega)
    have a2 : atI (D.map PyData.int) (0 + (i : Nat) * 2 + 1) = _ := at_int (by omega) (by omega)
    have m1 := md (itI D (0 + (i : Nat) * 2)) ns.length (by omega)
    have m2 := md (itI D (0 + (i : Nat) * 2 + 1)) ws.length (by omega)
    have a3 : atI (ns.map PyData.str) (itI D (0 + (i : Nat) * 2) % ((ns.map PyData.str).length : Int)) = some (.str (itS ns (itI D (0 + (i : Nat) * 2) % ns.length))) := by rw [l2]; exact at_str m1.1 m1.2
    have a4 : atI (ws.map PyData.str) (itI D (0 + (i : Nat) * 2 + 1) % ((ws.map PyData.str).length : Int)) = some (.str (itS ws (itI D (0 + (i : Nat) * 2 + 1) % ws.length))) := by rw [l3]; exact at_str m2.1 m2.2
    have sc := scal_strs ((lbs D ns ws i).map (·.1))
    have ll := lbs_len D ns ws i
    refine q_asg (d := .str (itS ns (itI D (0 + (i : Nat) * 2) % ns.length))) (by walk_at "e") ?_
    refine s_if (b := !inD (.str (itS ns (itI D (0 + (i : Nat) * 2) % ns.length))) (((lbs D ns ws i).map (·.1)).map .str)) (by walk_at "e") (fun h => ?_) fun h => ?_
    · rw [inD_str, Bool.not_eq_true'] at h
      have h' := of_decide_eq_false h
      have e : lbs D ns ws (i + 1) = lbs D ns ws i ++ [(itS ns (itI D (0 + (i : Nat) * 2) % ns.length), itS ws (itI D (0 + (i : Nat) * 2 + 1) % ws.length))] := by
        show (if _ then _ else _) = _
        rw [if_neg h']
      refine q_app (d := .str (itS ns (itI D (0 + (i : Nat) * 2) % ns.length))) rfl (by walk_at "e") (by rw [List.length_map, List.length_map]; omega) ?_
      refine s_app (d := prD (itS ns (itI D (0 + (i : Nat) * 2) % ns.length), itS ws (itI D (0 + (i : Nat) * 2 + 1) % ws.length))) rfl (by walk_at "e") (by rw [List.length_map]; omega) (n_end1 ?_)
      refine .keep rfl (.keep rfl (.keep rfl (.keep ?_ (.keep ?_ (.drop (.drop .nil))))))
      · show Sl.ow ((lbs D ns ws (i + 1)).map prD) = _
        rw [e, List.map_append]; rfl
      · show Sl.ow (((lbs D ns ws (i + 1)).map (·.1)).map PyData.str) = _
        rw [e, List.map_append, List.map_append]; rfl
    · rw [inD_str, Bool.not_eq_false'] at h
      have h' := of_decide_eq_true h
      have e : lbs D ns ws (i + 1) = lbs D ns ws i := by
        show (if _ then _ else _) = _
        rw [if_pos h']
      refine s_next (n_end1 (.keep rfl (.keep rfl (.keep rfl (.keep ?_ (.keep ?_ (.drop (.drop .nil))))))))
      · show Sl.ow ((lbs D ns ws (i + 1)).map prD) = _
        rw [e]
      · show Sl.ow (((lbs D ns ws (i + 1)).map (·.1)).map PyData.str) = _
        rw [e]
  · rw [rngC_len]
    have hz := lbs_len D ns ws (D.length / 2)
    unfold lbD at rt
    rw [← sortD_map] at rt
    exact s_ret (e_tupL (so_own (fun _ => true) rfl (prs_sh _) (by rw [List.length_map]; omega))) rt
end
/-! ### matchers -/
abbrev Mt := Str × List Str × Bool
abbrev mtD (m : Mt) : PyData := .tuple [.str m.1, .tuple (m.2.1.map .str), .bool m.2.2]
def mtF (L : List (Str × Str)) (m : Mt) : Bool := decide (decide (valD L m.1 ∈ m.2.1) = m.2.2)
section
variable {P : Program} {w : World} {K : PySem.W.Frag} {mg : Str → Option Value} {base : Heap} {f : Addr} {fd : FuncData} {Tb : List Addr} {k : Nat}
/-! ### names and worths -/
theorem lt2 : LT2.cps.toList.length = 37 := by decide +kernel
theorem lz2 : LT2.length ≤ 100000 := by decide +kernel
theorem a2_37 (a : Int) : atI LT2.cps.toList (a % 37) = some (LT2.cps.toList.getD (a % 37).toNat 0) := at_sg (s := LT2) (md a 37 (by decide)).1 (by have := md a 37 (by decide); have := lt2; omega)
theorem e_sg {g : Gd} {G : List Sl} {ta tb : TE} {s : Str} {k : Int} (ha : E g ta G (.str s)) (hb : E g tb G (.int k)) (hl : s.length ≤ 100000) (hk : atI s.cps.toList k = some (s.cps.toList.getD k.toNat 0)) : E g (tOp (rIx g.K) ta tb) G (.str (sg s k)) := e_op ha hb (ix_s hl hk)
end
/-! ### words and worths of routes -/
theorem cutS_len (z : Str) (lo hi : Option Int) : (cutS z lo hi).length ≤ z.length := by
  show ((z.cps.toList.drop _).take _).toArray.size ≤ z.cps.size
  rw [List.size_toArray, List.length_take, List.length_drop, Array.length_toList]; omega
def LT3 : Str := "abcdefghijklmnopqrstuvwxyz"
theorem lt3 : LT3.cps.toList.length = 26 := by decide +kernel
theorem lz3 : LT3.length ≤ 100000 := by decide +kernel
theorem a3_26 (a : Int) : atI LT3.cps.toList (a % 26) = some (LT3.cps.toList.getD (a % 26).toNat 0) := at_sg (s := LT3) (md a 26 (by decide)).1 (by have := md a 26 (by decide); have := lt3; omega)
def wdF (c k : Int) : Str := cutS "xyz" none (some (c / 26 % 4)) ++ sg LT3 ((c + 3 * k) % 26) ++ cutS "xyzw" (some (c / 26 % 4)) none
def woF (c k : Int) : Str := cutS "v7_" none (some (c / 37 % 3)) ++ sg LT2 ((c + 5 * k) % 37) ++ cutS "0_" (some (c / 37 % 3)) none
def wdsF (c : Int) (m : Nat) : List Str := (List.range m).map fun k => wdF c (0 + (k : Nat))
def wosF (c : Int) (m : Nat) : List Str := (List.range m).map fun k => woF c (0 + (k : Nat))
theorem wds_len (c : Int) (m : Nat) : (wdsF c m).length = m := by unfold wdsF; rw [List.length_map, List.length_range]
theorem wos_len (c : Int) (m : Nat) : (wosF c m).length = m := by unfold wosF; rw [List.length_map, List.length_range]
section
variable {P : Program} {w : World} {K : PySem.W.Frag} {mg : Str → Option Value} {base : Heap} {f : Addr} {fd : FuncData} {Tb : List Addr} {k : Nat}
def R_words : List PyData → PyData → Prop := fun ds d => ∃ (c : Int) (m : Nat), ds = [.int c, .int m] ∧ m ≤ 100 ∧ d = sL (wdsF c m)
theorem ok_words (Fn : Fun K "_law_words" "_law_words" s_l_law_words f fd) (hm : mg "_law_words" = some (.ref f)) (hb : Binds K fd ["_law_cell_here", "_law_many"] []) (Z : Zb mg) :
    Df P w K mg base 1 "_law_words" ["_law_cell_here", "_law_many"] (spD K Tb R_words) := by
  refine df_D Fn sc_l_law_words hm hb (fun ds d h => by obtain ⟨c, m, rfl, _⟩ := h; rfl) fun cdv A outer s H Ek hr => ⟨_, (pss_cons (ps_set (i := 2) sc_l_law_words.nd rfl (by first | exact .inl rfl | exact .inr rfl) pe_str)
      (pss_cons (ps_set (i := 3) sc_l_law_words.nd rfl (by first | exact .inl rfl | exact .inr rfl) (pe_op op_mod (pe_callTy uInt (by rfl) Z.int (by decide +kernel) (pa_cons (pe_op op_fdiv (pe_callTy uInt (by rfl) Z.int (by decide +kernel) (pa_cons (pv 0) pa_nil)) pe_int) pa_nil)) pe_int))
      (pss_one (ps_ret (pe_lc (own := [("_law_k", 4)]) (by rfl) sc_l_law_words.nd (pi_range1 (by rfl) Z.range (pa_cons (pv 1) pa_nil)) (blkOk_by (own := [("_law_k", 4)]) (N := N_l_law_words) (sc := defScope s_l_law_words) (by decide +kernel)) (fun _ _ _ _ _ => (pg_name (i := 4) sc_l_law_words.nd rfl (by first | exact .inl rfl | exact .inr rfl))) (fun _ _ _ _ _ => pts_nil) (fun _ _ _ _ _ => (pe_op (uAddK K) (pe_op (uAddK K) (pe_slice (uSlK K) pe_str po_none (po_some (pv 3))) (pe_ix (ix_seqK K) (pv 2) (pe_op op_mod (pe_callTy uInt (by rfl) Z.int (by decide +kernel) (pa_cons (pe_op (uAddK K) (pe_callTy uInt (by rfl) Z.int (by decide +kernel) (pa_cons (pv 0) pa_nil)) (pe_op uMul pe_int (pv 4))) pa_nil)) pe_int) (fun _ _ => rfl))) (pe_slice (uSlK K) pe_str (po_some (pv 3)) po_none)))))))),  fun ds d F0 H0 Q r rt => ?_⟩
  obtain ⟨c, m, rfl, hm, rfl⟩ := r
  have m4 := md (c / 26) 4 (by decide)
  refine q_asg (d := .str LT3) e_str ?_
  refine q_asg (d := .int (c / 26 % 4)) (by walk_at "e") ?_
  have er : (wdsF c m).map PyData.str = (rngD 0 ((m : Int)).toNat).filterMap (fI fun i => .str (wdF c i)) := by
    rw [fI_rng, wdsF, List.map_map]; rfl
  unfold sL at rt
  rw [er] at rt
  refine s_ret (EL.e (el_lc (ix := [4]) _ (g1 [.fz (.int c), .fz (.int m), .fz (.str LT3), .fz (.int (c / 26 % 4))]) (it_rng1 (n := (m : Int)) (by walk_at "e") (by omega) (by omega)) (by rw [rngD_len]; omega) (fun F1 d hd => g_name) (by decide) (fun F1 d hd => ?_) fun F1 d hd y hy => ?_)) rt
  · obtain ⟨i, hi⟩ := List.getElem?_of_mem hd
    obtain ⟨_, rfl⟩ := rngD_get hi
    exact t_yes
  · obtain ⟨i, hi⟩ := List.getElem?_of_mem hd
    obtain ⟨h1, rfl⟩ := rngD_get hi
    cases hy
    generalize (0 + (i : Int)) = j
    have l1 := cutS_len "xyz" none (some (c / 26 % 4))
    have l2 := cutS_len "xyzw" (some (c / 26 % 4)) none
    have z1 : ("xyz" : Str).length = 3 := by decide +kernel
    have z2 : ("xyzw" : Str).length = 4 := by decide +kernel
    refine e_op (e_op (e_slS (lo := none) (hi := some (c / 26 % 4)) e_str (by decide +kernel) o_none (o_some (e_var rfl))) (e_sg (k := (c + 3 * j) % 26) (e_var rfl) (by walk_at "e") lz3 (a3_26 _)) (add_s (by rw [sg_len]; omega))) (e_slS (lo := some (c / 26 % 4)) (hi := none) e_str (by decide +kernel) (o_some (e_var rfl)) o_none) (add_s (by rw [add_len, sg_len]; omega))
def R_worths : List PyData → PyData → Prop := fun ds d => ∃ (c : Int) (m : Nat), ds = [.int c, .int m] ∧ m ≤ 100 ∧ d = sL (wosF c m)
theorem ok_worths (Fn : Fun K "_law_worths" "_law_worths" s_l_law_worths f fd) (hm : mg "_law_worths" = some (.ref f)) (hb : Binds K fd ["_law_cell_here", "_law_many"] []) (Z : Zb mg) :
    Df P w K mg base 1 "_law_worths" ["_law_cell_here", "_law_many"] (spD K Tb R_worths) := by
  refine df_D Fn sc_l_law_worths hm hb (fun ds d h => by obtain ⟨c, m, rfl, _⟩ := h; rfl) fun cdv A outer s H Ek hr => ⟨_, (pss_cons (ps_set (i := 2) sc_l_law_worths.nd rfl (by first | exact .inl rfl | exact .inr rfl) pe_str)
      (pss_cons (ps_set (i := 3) sc_l_law_worths.nd rfl (by first | exact .inl rfl | exact .inr rfl) (pe_op op_mod (pe_callTy uInt (by rfl) Z.int (by decide +kernel) (pa_cons (pe_op op_fdiv (pe_callTy uInt (by rfl) Z.int (by decide +kernel) (pa_cons (pv 0) pa_nil)) pe_int) pa_nil)) pe_int))
      (pss_one (ps_ret (pe_lc (own := [("_law_k", 4)]) (by rfl) sc_l_law_worths.nd (pi_range1 (by rfl) Z.range (pa_cons (pv 1) pa_nil)) (blkOk_by (own := [("_law_k", 4)]) (N := N_l_law_worths) (sc := defScope s_l_law_worths) (by decide +kernel)) (fun _ _ _ _ _ => (pg_name (i := 4) sc_l_law_worths.nd rfl (by first | exact .inl rfl | exact .inr rfl))) (fun _ _ _ _ _ => pts_nil) (fun _ _ _ _ _ => (pe_op (uAddK K) (pe_op (uAddK K) (pe_slice (uSlK K) pe_str po_none (po_some (pv 3))) (pe_ix (ix_seqK K) (pv 2) (pe_op op_mod (pe_callTy uInt (by rfl) Z.int (by decide +kernel) (pa_cons (pe_op (uAddK K) (pe_callTy uInt (by rfl) Z.int (by decide +kernel) (pa_cons (pv 0) pa_nil)) (pe_op uMul pe_int (pv 4))) pa_nil)) pe_int) (fun _ _ => rfl))) (pe_slice (uSlK K) pe_str (po_some (pv 3)) po_none)))))))),  fun ds d F0 H0 Q r rt => ?_⟩
  obtain ⟨c, m, rfl, hm, rfl⟩ := r
  have m4 := md (c / 37) 3 (by decide)
  refine q_asg (d := .str LT2) e_str ?_
  refine q_asg (d := .int (c / 37 % 3)) (by walk_at "e") ?_
  have er : (wosF c m).map PyData.str = (rngD 0 ((m : Int)).toNat).filterMap (fI fun i => .str (woF c i)) := by
    rw [fI_rng, wosF, List.map_map]; rfl
  unfold sL at rt
  rw [er] at rt
  refine s_ret (EL.e (el_lc (ix := [4]) _ (g1 [.fz (.int c), .fz (.int m), .fz (.str LT2), .fz (.int (c / 37 % 3))]) (it_rng1 (n := (m : Int)) (by walk_at "e") (by omega) (by omega)) (by rw [rngD_len]; omega) (fun F1 d hd => g_name) (by decide) (fun F1 d hd => ?_) fun F1 d hd y hy => ?_)) rt
  · obtain ⟨i, hi⟩ := List.getElem?_of_mem hd
    obtain ⟨_, rfl⟩ := rngD_get hi
    exact t_yes
  · obtain ⟨i, hi⟩ := List.getElem?_of_mem hd
    obtain ⟨h1, rfl⟩ := rngD_get hi
    cases hy
    generalize (0 + (i : Int)) = j
    have l1 := cutS_len "v7_" none (some (c / 37 % 3))
    have l2 := cutS_len "0_" (some (c / 37 % 3)) none
    have z1 : ("v7_" : Str).length = 3 := by decide +kernel
    have z2 : ("0_" : Str).length = 2 := by decide +kernel
    refine e_op (e_op (e_slS (lo := none) (hi := some (c / 37 % 3)) e_str (by decide +kernel) o_none (o_some (e_var rfl))) (e_sg (k := (c + 5 * j) % 37) (e_var rfl) (by walk_at "e") lz2 (a2_37 _)) (add_s (by rw [sg_len]; omega))) (e_slS (lo := some (c / 37 % 3)) (hi := none) e_str (by decide +kernel) (o_some (e_var rfl)) o_none) (add_s (by rw [add_len, sg_len]; omega))
/-! ### a matcher -/
def mkV (a b : Int) (ws : List Str) : List Str := [itS ws (a / 7 % ws.length)] ++ if b % 3 = 0 then [itS ws (a / 50 % ws.length)] else []
def mkMt (a b : Int) (ns ws : List Str) : Mt := (itS ns (a % ns.length), mkV a b (ws ++ [("" : Str)]), decide (b % 2 = 0))
def R_matcher : List PyData → PyData → Prop := fun ds d => ∃ (a b : Int) (ns ws : List Str), ds = [.int a, .int b, sL ns, sL ws] ∧ 0 < ns.length ∧ ws.length ≤ 1000 ∧ d = mtD (mkMt a b ns ws)
theorem ok_matcher (Fn : Fun K "_law_matcher" "_law_matcher" s_l_law_matcher f fd) (hm : mg "_law_matcher" = some (.ref f)) (hb : Binds K fd ["_law_first", "_law_second", "_law_names", "_law_worths_here"] []) (Z : Zb mg) :
    Df P w K mg base 1 "_law_matcher" ["_law_first", "_law_second", "_law_names", "_law_worths_here"] (spD K Tb R_matcher) := by
  refine df_D Fn sc_l_law_matcher hm hb (fun ds d h => by obtain ⟨_, _, _, _, rfl, _⟩ := h; rfl) fun cdv A outer s H Ek hr => ⟨_, (pss_cons (ps_set (i := 4) sc_l_law_matcher.nd rfl (by first | exact .inl rfl | exact .inr rfl) (pe_op (uAddK K) (pv 3) (pe_lst (pa_cons pe_str pa_nil))))
      (pss_cons (ps_set (i := 5) sc_l_law_matcher.nd rfl (by first | exact .inl rfl | exact .inr rfl) (pe_lst (pa_cons (pe_ix (ix_seqK K) (pv 4) (pe_op op_mod (pe_callTy uInt (by rfl) Z.int (by decide +kernel) (pa_cons (pe_op op_fdiv (pv 0) pe_int) pa_nil)) (pe_callB (uLenK K) (by rfl) Z.len (by decide +kernel) (pa_cons (pv 4) pa_nil))) (fun _ _ => rfl)) pa_nil)))
      (Evl.pss_cut (ps_if (pt_cmpR (uEqK K hr.units) (pe_op op_mod (pe_callTy uInt (by rfl) Z.int (by decide +kernel) (pa_cons (pv 1) pa_nil)) pe_int) pe_int (nomark _)) (pss_one (ps_expr (pe_bm PySem.F.plainAttrs_list PySem.F.slot_list_append PySem.F.type_list_append mt_append (pv 5) (pa_cons (pe_ix (ix_seqK K) (pv 4) (pe_op op_mod (pe_callTy uInt (by rfl) Z.int (by decide +kernel) (pa_cons (pe_op op_fdiv (pv 0) pe_int) pa_nil)) (pe_callB (uLenK K) (by rfl) Z.len (by decide +kernel) (pa_cons (pv 4) pa_nil))) (fun _ _ => rfl)) pa_nil)))) pss_nil)
      (pss_one (ps_ret (pe_tup (pa_cons (pe_ix (ix_seqK K) (pv 2) (pe_op op_mod (pe_callTy uInt (by rfl) Z.int (by decide +kernel) (pa_cons (pv 0) pa_nil)) (pe_callB (uLenK K) (by rfl) Z.len (by decide +kernel) (pa_cons (pv 2) pa_nil))) (fun _ _ => rfl)) (pa_cons (pe_callTy (uTupK K) (by rfl) Z.tuple (by decide +kernel) (pa_cons (pv 5) pa_nil)) (pa_cons (pe_cmpR (uEqK K hr.units) (pe_op op_mod (pe_callTy uInt (by rfl) Z.int (by decide +kernel) (pa_cons (pv 1) pa_nil)) pe_int) pe_int (nomark _)) pa_nil))))))))),  fun ds d F0 H0 Q r rt => ?_⟩
  obtain ⟨a, b, ns, ws, rfl, hn, hw, rfl⟩ := r
  refine q_asg (d := sL (ws ++ [("" : Str)])) (by
    have : sL (ws ++ [("" : Str)]) = .list (ws.map .str ++ [.str ""]) := by unfold sL; rw [List.map_append]; rfl
    rw [this]
    exact EL.e (el_op (e_var rfl) (EL.e (el_lst (a_cons e_str a_nil) (by decide))) (add_l (by rw [List.length_map]; show _ + 1 ≤ _; omega)))) ?_
  unfold mkMt at rt
  have hp : 0 < (ws ++ [("" : Str)]).length := by rw [List.length_append]; show 0 < _ + 1; omega
  generalize ws ++ [("" : Str)] = mn at hp rt ⊢
  have l2 : ((mn.map PyData.str).length : Int) = mn.length := by rw [List.length_map]
  have p2 : (0 : Int) < ((mn.map PyData.str).length : Int) := by omega
  have l3 : ((ns.map PyData.str).length : Int) = ns.length := by rw [List.length_map]
  have p3 : (0 : Int) < ((ns.map PyData.str).length : Int) := by omega
  have m1 := md (a / 7) mn.length (by omega)
  have m2 := md (a / 50) mn.length (by omega)
  have m3 := md a ns.length (by omega)
  have a1 : atI (mn.map PyData.str) (a / 7 % ((mn.map PyData.str).length : Int)) = some (.str (itS mn (a / 7 % mn.length))) := by rw [l2]; exact at_str m1.1 m1.2
  have a2 : atI (mn.map PyData.str) (a / 50 % ((mn.map PyData.str).length : Int)) = some (.str (itS mn (a / 50 % mn.length))) := by rw [l2]; exact at_str m2.1 m2.2
  have a3 : atI (ns.map PyData.str) (a % ((ns.map PyData.str).length : Int)) = some (.str (itS ns (a % ns.length))) := by rw [l3]; exact at_str m3.1 m3.2
  refine q_asgL (ds := [.str (itS mn (a / 7 % mn.length))]) (el_lst (a_cons (by walk_at "e") a_nil) (Nat.le_of_ble_eq_true rfl)) ?_
  refine s_cut [.fz (.int a), .fz (.int b), .fz (sL ns), .fz (sL ws), .fz (sL mn), .ow ((mkV a b mn).map .str)] (s_if (b := decide (b % 3 = 0)) (by walk_at "e") (fun h => ?_) fun h => ?_) ?_
  · have e : mkV a b mn = [itS mn (a / 7 % mn.length)] ++ [itS mn (a / 50 % mn.length)] := by unfold mkV; rw [if_pos (of_decide_eq_true h)]
    rw [e]
    exact s_app rfl (d := .str (itS mn (a / 50 % mn.length))) (by walk_at "e") (Nat.lt_of_succ_le (Nat.le_of_ble_eq_true rfl)) (n_end1 (Wk.refl _))
  · have e : mkV a b mn = [itS mn (a / 7 % mn.length)] := by unfold mkV; rw [if_neg (of_decide_eq_false h)]; rfl
    rw [e]
    exact s_next (n_end1 (Wk.refl _))
  · exact s_ret (e_tup (a_cons (by walk_at "e") (a_cons (e_tupO rfl) (a_cons (by walk_at "e") a_nil))) (Nat.le_of_ble_eq_true rfl)) rt
/-! ### what the law says of values and matchers -/
def R_value : List PyData → PyData → Prop := fun ds d => ∃ (L : List (Str × Str)) (n : Str), ds = [lbD L, .str n] ∧ d = .str (valD L n)
theorem ok_value (Fn : Fun K "_law_value" "_law_value" s_l_law_value f fd) (hm : mg "_law_value" = some (.ref f)) (hb : Binds K fd ["_law_labels_here", "_law_name"] []) (Z : Zb mg) :
    Df P w K mg base 1 "_law_value" ["_law_labels_here", "_law_name"] (spD K Tb R_value) := by
  refine df_D Fn sc_l_law_value hm hb (fun ds d h => by obtain ⟨c, m, rfl, _⟩ := h; rfl) fun cdv A outer s H Ek hr => ⟨_, (pss_cons (ps_for PassesOwn.never rfl (pi_any (pv 0)) (pg_name (i := 2) sc_l_law_value.nd rfl (by first | exact .inl rfl | exact .inr rfl)) (pss_one (ps_if (pt_cmpR (uEqK K hr.units) (pe_ix (ix_seqK K) (pv 2) pe_int (fun _ _ => rfl)) (pv 1) (nomark _)) (pss_one (ps_ret (pe_ix (ix_seqK K) (pv 2) pe_int (fun _ _ => rfl)))) pss_nil)))
      (pss_one (ps_ret pe_str))),  fun ds d F0 H0 Q r rt => ?_⟩
  obtain ⟨L, n, rfl, rfl⟩ := r
  refine q_for (fun _ (_ : Unit) => [.fz (lbD L), .fz (.str n), .un]) (fun i _ => valD (L.drop i) n = valD L n) (it_at (e_var rfl)) () rfl (Wk.refl _) (fun F1 i _ d hd p => ?_) fun _ p => ?_
  · obtain ⟨q, hq, rfl⟩ := map_get hd
    rw [drop_get hq] at p
    refine ⟨_, _, g_name, ?_⟩
    refine s_if (b := decide (q.1 = n)) (t_test (b_op (E.b (e_op (e_var rfl) e_int (ix_t rfl))) (E.b (e_var rfl)) eq_s rfl)) (fun h => ?_) fun h => ?_
    · refine s_ret (d := .str q.2) (e_op (e_var rfl) e_int (ix_t rfl)) ?_
      rw [valD, if_pos (of_decide_eq_true h)] at p
      rw [p]; exact rt
    · rw [valD, if_neg (of_decide_eq_false h)] at p
      exact s_next (n_end () p (.keep rfl (.keep rfl (.drop .nil))))
  · rw [List.length_map, List.drop_length] at p
    refine s_ret e_str ?_
    rw [← p] at rt; exact rt
def R_lmatches : List PyData → PyData → Prop := fun ds d => ∃ (x : PyData) (ms : List Mt) (L : List (Str × Str)), ds = [x, lbD L] ∧ (x = .list (ms.map mtD) ∨ x = .tuple (ms.map mtD)) ∧ d = .bool (ms.all (mtF L))
theorem ok_lmatches (Fn : Fun K "_law_matches" "_law_matches" s_l_law_matches f fd) (hm : mg "_law_matches" = some (.ref f)) (hb : Binds K fd ["_law_matchers", "_law_labels_here"] []) (Z : Zb mg)
    (D_l_law_value : Df P w K mg base 1 "_law_value" ["_law_labels_here", "_law_name"] (spD K Tb R_value)) :
    Df P w K mg base 2 "_law_matches" ["_law_matchers", "_law_labels_here"] (spD K Tb R_lmatches) := by
  refine df_D Fn sc_l_law_matches hm hb (fun ds d h => by obtain ⟨_, _, _, rfl, _⟩ := h; rfl) fun cdv A outer s H Ek hr => ⟨_, (pss_cons (ps_for PassesOwn.never rfl (pi_any (pv 0)) (pg_tupK (n := 3) K rfl (pgs_cons (pg_name (i := 2) sc_l_law_matches.nd rfl (by first | exact .inl rfl | exact .inr rfl)) (pgs_cons (pg_name (i := 3) sc_l_law_matches.nd rfl (by first | exact .inl rfl | exact .inr rfl)) (pgs_cons (pg_name (i := 4) sc_l_law_matches.nd rfl (by first | exact .inl rfl | exact .inr rfl)) pgs_nil)))) (pss_one (ps_if (pt_cmpR (uNeK K hr.units) (pe_cmpR (uInK K) (pe_df D_l_law_value hr (by first | decide | exact Nat.le_refl _ | omega) (by rfl) (pa_cons (pv 1) (pa_cons (pv 2) pa_nil))) (pv 3) (by rfl)) (pv 4) (nomark _)) (pss_one (ps_ret pe_bl)) pss_nil)))
      (pss_one (ps_ret pe_bl))),  fun ds d F0 H0 Q r rt => ?_⟩
  obtain ⟨x, ms, L, rfl, hx, rfl⟩ := r
  refine q_for (fun _ (_ : Unit) => [.fz x, .fz (lbD L), .un, .un, .un]) (fun i _ => (ms.drop i).all (mtF L) = ms.all (mtF L)) (ds := ms.map mtD) ?_ () rfl (Wk.refl _) (fun F1 i _ d hd p => ?_) fun _ p => ?_
  · rcases hx with rfl | rfl
    · exact it_al (e_var rfl)
    · exact it_at (e_var rfl)
  · obtain ⟨⟨n, vs, b⟩, hq, rfl⟩ := map_get hd
    rw [drop_get hq, List.all_cons] at p
    have iS := inD_str (valD L n) vs
    refine ⟨_, _, g_tup (gs_cons g_name (gs_cons g_name (gs_cons g_name gs_nil))) rfl, ?_⟩
    have e : mtF L (n, vs, b) = decide (inD (.str (valD L n)) (vs.map .str) = b) := by rw [iS]; rfl
    refine s_if (b := !decide (inD (.str (valD L n)) (vs.map .str) = b)) (t_test (b_op (E.b (b_op (E.b (e_call (ds := [lbD L, .str n]) (by walk_at "e") ⟨L, n, rfl, rfl⟩)) (E.b (e_var rfl)) (in_t rfl (scal_strs vs)) rfl)) (E.b (e_var rfl)) ne_b rfl)) (fun h => ?_) fun h => ?_
    · rw [← e] at h
      have h' : mtF L (n, vs, b) = false := by cases z : mtF L (n, vs, b) with
        | false => rfl
        | true => rw [z] at h; cases h
      rw [h', Bool.false_and] at p
      rw [← p] at rt
      exact s_ret e_bl rt
    · rw [← e] at h
      have h' : mtF L (n, vs, b) = true := by cases z : mtF L (n, vs, b) with
        | true => rfl
        | false => rw [z] at h; cases h
      rw [h', Bool.true_and] at p
      exact s_next (n_end () p (.keep rfl (.keep rfl (.drop (.drop (.drop .nil))))))
  · have p' : (ms.drop (ms.map mtD).length).all (mtF L) = ms.all (mtF L) := p
    rw [List.length_map, List.drop_length] at p'
    have : ms.all (mtF L) = true := p'.symm
    rw [this] at rt
    exact s_ret e_bl rt
end
/-! ### the same answer -/
def okD : Nat → PyData → Prop
  | 0, _ => False
  | k + 1, .list xs => xs.length ≤ 1000 ∧ ∀ x ∈ xs, okD k x
  | k + 1, .tuple xs => xs.length ≤ 1000 ∧ ∀ x ∈ xs, okD k x
  | _ + 1, .dict _ => False
  | _ + 1, _ => True
def R_same (k : Nat) : List PyData → PyData → Prop := fun ds d => ∃ x, ds = [x, x] ∧ okD k x ∧ d = .bool true
theorem si_ii : isiS "int" "int" = true := by decide +kernel
theorem si_ib : isiS "int" "bool" = false := by decide +kernel
theorem si_si : isiS "str" "int" = false := by decide +kernel
theorem si_ss : isiS "str" "str" = true := by decide +kernel
theorem si_li : isiS "list" "int" = false := by decide +kernel
theorem si_ls : isiS "list" "str" = false := by decide +kernel
theorem si_ti : isiS "tuple" "int" = false := by decide +kernel
theorem si_ts : isiS "tuple" "str" = false := by decide +kernel
theorem at_of {α : Type} {xs : List α} {i : Nat} {x : α} (h : xs[i]? = some x) : atI xs (0 + (i : Nat)) = some x := by
  obtain ⟨hi, e⟩ := List.getElem?_eq_some_iff.mp h
  rw [at_nat (by omega) (by omega)]
  rw [show (0 + (i : Int)).toNat = i by omega]; exact h
section
variable {P : Program} {w : World} {K : PySem.W.Frag} {mg : Str → Option Value} {base : Heap} {f : Addr} {fd : FuncData} {Tb : List Addr} {k : Nat}
theorem ok_sameK (Fn : Fun K "_law_same" "_law_same" s_l_law_same f fd) (hm : mg "_law_same" = some (.ref f)) (hb : Binds K fd ["_law_told", "_law_due_here"] []) (Z : Zb mg) : ∀ k, Df P w K mg base k "_law_same" ["_law_told", "_law_due_here"] (spD K Tb (R_same k))
  | 0 => df_no Fn hm hb fun ds d ⟨x, _, h, _⟩ => h
  | k + 1 => by
    have D_l_law_same := ok_sameK Fn hm hb Z k
    refine df_D Fn sc_l_law_same hm hb (fun ds d h => by obtain ⟨_, rfl, _⟩ := h; rfl) fun cdv A outer s H Ek hr => ⟨_, (pss_cons (ps_if (pt_cmpR uIsN (pv 1) pe_non (nomark _)) (pss_one (ps_ret (pe_cmpR uIsN (pv 0) pe_non (nomark _)))) pss_nil)
      (pss_cons (ps_if (pt_cmpR uIsD (pv 1) pe_bl (nomark _)) (pss_one (ps_ret (pe_cmpR uIsD (pv 0) pe_bl (nomark _)))) pss_nil)
      (pss_cons (ps_if (pt_cmpR uIsD (pv 1) pe_bl (nomark _)) (pss_one (ps_ret (pe_cmpR uIsD (pv 0) pe_bl (nomark _)))) pss_nil)
      (pss_cons (ps_if (pt_truthK K (pe_callB (call_isiK K) (by rfl) Z.isinstance (by decide +kernel) (pa_cons (pv 1) (pa_cons (pe_bltn (by rfl) Z.int (by decide +kernel) (show RelV (.ty "int") (.type "int") from rfl)) pa_nil))) (by intro _; rfl)) (pss_one (ps_ret (pe_and (pe_callB (call_isiK K) (by rfl) Z.isinstance (by decide +kernel) (pa_cons (pv 0) (pa_cons (pe_bltn (by rfl) Z.int (by decide +kernel) (show RelV (.ty "int") (.type "int") from rfl)) pa_nil))) (pe_and (pe_notT (pe_callB (call_isiK K) (by rfl) Z.isinstance (by decide +kernel) (pa_cons (pv 0) (pa_cons (pe_bltn (by rfl) Z.bool (by decide +kernel) (show RelV (.ty "bool") (.type "bool") from rfl)) pa_nil)))) (pe_one (pe_cmpR (uEqK K hr.units) (pv 0) (pv 1) (nomark _))))))) pss_nil)
      (pss_cons (ps_if (pt_truthK K (pe_callB (call_isiK K) (by rfl) Z.isinstance (by decide +kernel) (pa_cons (pv 1) (pa_cons (pe_bltn (by rfl) Z.str (by decide +kernel) (show RelV (.ty "str") (.type "str") from rfl)) pa_nil))) (by intro _; rfl)) (pss_one (ps_ret (pe_and (pe_callB (call_isiK K) (by rfl) Z.isinstance (by decide +kernel) (pa_cons (pv 0) (pa_cons (pe_bltn (by rfl) Z.str (by decide +kernel) (show RelV (.ty "str") (.type "str") from rfl)) pa_nil))) (pe_one (pe_cmpR (uEqK K hr.units) (pv 0) (pv 1) (nomark _)))))) pss_nil)
      (pss_cons (ps_if (PW.pt (pw_and (pt_truthK K (pe_callB (call_isiK K) (by rfl) Z.isinstance (by decide +kernel) (pa_cons (pv 1) (pa_cons (pe_bltn (by rfl) Z.tuple (by decide +kernel) (show RelV (.ty "tuple") (.type "tuple") from rfl)) pa_nil))) (by intro _; rfl)) (pw_and1 (pt_not (pt_truthK K (pe_callB (call_isiK K) (by rfl) Z.isinstance (by decide +kernel) (pa_cons (pv 0) (pa_cons (pe_bltn (by rfl) Z.tuple (by decide +kernel) (show RelV (.ty "tuple") (.type "tuple") from rfl)) pa_nil))) (by intro _; rfl)))))) (pss_one (ps_ret pe_bl)) pss_nil)
      (pss_cons (ps_if (PW.pt (pw_and (pt_truthK K (pe_callB (call_isiK K) (by rfl) Z.isinstance (by decide +kernel) (pa_cons (pv 1) (pa_cons (pe_bltn (by rfl) Z.list (by decide +kernel) (show RelV (.ty "list") (.type "list") from rfl)) pa_nil))) (by intro _; rfl)) (pw_and1 (pt_not (pt_truthK K (pe_callB (call_isiK K) (by rfl) Z.isinstance (by decide +kernel) (pa_cons (pv 0) (pa_cons (pe_bltn (by rfl) Z.list (by decide +kernel) (show RelV (.ty "list") (.type "list") from rfl)) pa_nil))) (by intro _; rfl)))))) (pss_one (ps_ret pe_bl)) pss_nil)
      (pss_cons (ps_if (pt_cmpR (uNeK K hr.units) (pe_callB (uLenK K) (by rfl) Z.len (by decide +kernel) (pa_cons (pv 0) pa_nil)) (pe_callB (uLenK K) (by rfl) Z.len (by decide +kernel) (pa_cons (pv 1) pa_nil)) (nomark _)) (pss_one (ps_ret pe_bl)) pss_nil)
      (pss_cons (ps_for PassesOwn.never rfl (pi_range1 (by rfl) Z.range (pa_cons (pe_callB (uLenK K) (by rfl) Z.len (by decide +kernel) (pa_cons (pv 1) pa_nil)) pa_nil)) (pg_name (i := 2) sc_l_law_same.nd rfl (by first | exact .inl rfl | exact .inr rfl)) (pss_one (ps_if (pt_not (pt_truthK K (pe_df D_l_law_same hr (by first | decide | exact Nat.le_refl _ | omega) (by rfl) (pa_cons (pe_ix (ix_seqK K) (pv 0) (pv 2) (fun _ _ => rfl)) (pa_cons (pe_ix (ix_seqK K) (pv 1) (pv 2) (fun _ _ => rfl)) pa_nil))) (by intro _; rfl))) (pss_one (ps_ret pe_bl)) pss_nil)))
      (pss_one (ps_ret pe_bl))))))))))),  fun ds d F0 H0 Q r rt => ?_⟩
    obtain ⟨x, rfl, hx, rfl⟩ := r
    have mI : "int" ∈ ["int", "str", "tuple", "list", "bool"] := by simp
    have mS : "str" ∈ ["int", "str", "tuple", "list", "bool"] := by simp
    have mB : "bool" ∈ ["int", "str", "tuple", "list", "bool"] := by simp
    have mT : "tuple" ∈ ["int", "str", "tuple", "list", "bool"] := by simp
    have mL : "list" ∈ ["int", "str", "tuple", "list", "bool"] := by simp
    refine q_if (b := isND x) (t_test (b_op (E.b (e_var rfl)) (E.b e_non) is_n rfl)) (fun h => ?_) fun hN => s_next (n_go ?_)
    · refine s_ret (d := .bool (isND x)) (b_op (E.b (e_var rfl)) (E.b e_non) is_n rfl) ?_
      rw [h]; exact rt
    refine q_if (b := isBD x true) (t_test (b_op (E.b (e_var rfl)) (E.b e_bl) is_d rfl)) (fun h => ?_) fun hT => s_next (n_go ?_)
    · refine s_ret (d := .bool (isBD x true)) (b_op (E.b (e_var rfl)) (E.b e_bl) is_d rfl) ?_
      rw [h]; exact rt
    refine q_if (b := isBD x false) (t_test (b_op (E.b (e_var rfl)) (E.b e_bl) is_d rfl)) (fun h => ?_) fun hF => s_next (n_go ?_)
    · refine s_ret (d := .bool (isBD x false)) (b_op (E.b (e_var rfl)) (E.b e_bl) is_d rfl) ?_
      rw [h]; exact rt
    refine q_if (b := isiS (tyN x) "int") (t_tru (E.b (e_isiD (E.b (e_var rfl)) mI)) rfl) (fun h => ?_) fun hI => s_next (n_go ?_)
    · have hi : ∃ i, x = .int i := by
        cases x with
        | none => cases hN
        | bool b => exact (match b, hT, hF with | true, h, _ => nomatch h | false, _, h => nomatch h)
        | int i => exact ⟨i, rfl⟩
        | str s => exact absurd (si_si.symm.trans h) (by decide)
        | list xs => exact absurd (si_li.symm.trans h) (by decide)
        | tuple xs => exact absurd (si_ti.symm.trans h) (by decide)
        | dict xs => exact absurd hx id
      obtain ⟨i, rfl⟩ := hi
      refine s_ret (d := .bool (isiS "int" "int" && ((!isiS "int" "bool") && decide (i = i)))) (e_andV (e_isiD (x := .int i) (E.b (e_var rfl)) mI) fun _ => e_andV (e_notT (E.b (e_isiD (x := .int i) (E.b (e_var rfl)) mB)) rfl) fun _ => b_op (E.b (e_var rfl)) (E.b (e_var rfl)) eq_i rfl) ?_
      rw [si_ii, si_ib, decide_eq_true rfl]; exact rt
    refine q_if (b := isiS (tyN x) "str") (t_tru (E.b (e_isiD (E.b (e_var rfl)) mS)) rfl) (fun h => ?_) fun hS => s_next (n_go ?_)
    · have hi : ∃ i, x = .str i := by
        cases x with
        | none => cases hN
        | bool b => exact (match b, hT, hF with | true, h, _ => nomatch h | false, _, h => nomatch h)
        | int i => exact absurd (si_ii.symm.trans hI) (by decide)
        | str s => exact ⟨s, rfl⟩
        | list xs => exact absurd (si_ls.symm.trans h) (by decide)
        | tuple xs => exact absurd (si_ts.symm.trans h) (by decide)
        | dict xs => exact absurd hx id
      obtain ⟨i, rfl⟩ := hi
      refine s_ret (d := .bool (isiS "str" "str" && decide (i = i))) (e_andV (e_isiD (x := .str i) (E.b (e_var rfl)) mS) fun _ => b_op (E.b (e_var rfl)) (E.b (e_var rfl)) eq_s rfl) ?_
      rw [si_ss, decide_eq_true rfl]; exact rt
    have hi : ∃ xs : List PyData, (x = .list xs ∨ x = .tuple xs) ∧ xs.length ≤ 1000 ∧ ∀ y ∈ xs, okD k y := by
      cases x with
      | none => cases hN
      | bool b => exact (match b, hT, hF with | true, h, _ => nomatch h | false, _, h => nomatch h)
      | int i => exact absurd (si_ii.symm.trans hI) (by decide)
      | str s => exact absurd (si_ss.symm.trans hS) (by decide)
      | list xs => exact ⟨xs, .inl rfl, hx⟩
      | tuple xs => exact ⟨xs, .inr rfl, hx⟩
      | dict xs => exact absurd hx id
    obtain ⟨xs, he, hz, hy⟩ := hi
    clear hN hT hF hI hS hx
    refine q_if (b := isiS (tyN x) "tuple" && !isiS (tyN x) "tuple") (t_and (t_tru (E.b (e_isiD (E.b (e_var rfl)) mT)) rfl) fun _ => t_not (t_tru (E.b (e_isiD (E.b (e_var rfl)) mT)) rfl)) (fun h => by rw [Bool.and_not_self] at h; cases h) fun _ => s_next (n_go ?_)
    refine q_if (b := isiS (tyN x) "list" && !isiS (tyN x) "list") (t_and (t_tru (E.b (e_isiD (E.b (e_var rfl)) mL)) rfl) fun _ => t_not (t_tru (E.b (e_isiD (E.b (e_var rfl)) mL)) rfl)) (fun h => by rw [Bool.and_not_self] at h; cases h) fun _ => s_next (n_go ?_)
    have ln : ∀ (g : Gd) (G : List Sl) (i : Nat), G[i]? = some (.fz x) → E g (tCB (rLenU g.K) (tCons (tVar i) tNil)) G (.int xs.length) := fun g G i hG => by
      rcases he with rfl | rfl
      · exact b_cb (ab_cons (E.b (e_var hG)) ab_nil) len_l rfl
      · exact b_cb (ab_cons (E.b (e_var hG)) ab_nil) len_t rfl
    refine q_if (b := !decide ((xs.length : Int) = xs.length)) (t_test (b_op (E.b (ln _ _ 0 rfl)) (E.b (ln _ _ 1 rfl)) ne_i rfl)) (fun h => by rw [decide_eq_true rfl] at h; cases h) fun _ => s_next (n_go ?_)
    refine q_for1 (fun _ => [.fz x, .fz x, .un]) (it_rng1 (n := (xs.length : Int)) (a_cons (ln _ _ 1 rfl) a_nil) (by omega) (by omega)) (Wk.refl _) (fun F1 i d hd => ?_) (s_ret e_bl rt)
    obtain ⟨hi, rfl⟩ := rngD_get hd
    have hi' : i < xs.length := by omega
    have ha := at_of (List.getElem?_eq_getElem hi')
    have hm' : xs[i] ∈ xs := List.getElem_mem _
    generalize xs[i] = y at ha hm'
    have ix : ∀ (g : Gd) (G : List Sl) (j l : Nat), G[j]? = some (.fz x) → G[l]? = some (.fz (.int (0 + (i : Nat)))) → E g (tOp (rIx g.K) (tVar j) (tVar l)) G y := fun g G j l h1 h2 => by
      rcases he with rfl | rfl
      · exact e_op (e_var h1) (e_var h2) (ix_l ha)
      · exact e_op (e_var h1) (e_var h2) (ix_t ha)
    refine ⟨_, _, g_name, ?_⟩
    refine s_if (b := !true) (t_not (t_tru (d := .bool true) (E.b (e_call (ds := [y, y]) (a_cons (ix _ _ 0 2 rfl rfl) (a_cons (ix _ _ 1 2 rfl rfl) a_nil)) ⟨y, rfl, hy y hm', rfl⟩)) rfl)) (fun z => by cases z) fun _ => s_next (n_end1 (.keep rfl (.keep rfl (.drop .nil))))
theorem ok_same (Fn : Fun K "_law_same" "_law_same" s_l_law_same f fd) (hm : mg "_law_same" = some (.ref f)) (hb : Binds K fd ["_law_told", "_law_due_here"] []) (Z : Zb mg) : Df P w K mg base 5 "_law_same" ["_law_told", "_law_due_here"] (spD K Tb (R_same 5)) := ok_sameK Fn hm hb Z 5
end
/-! ### routes -/
abbrev Sg := List Str × Int × Int × Int × List Str × Str
abbrev sgD (s : Sg) : PyData := .tuple [.tuple (s.1.map .str), .int s.2.1, .int s.2.2.1, .int s.2.2.2.1, .tuple (s.2.2.2.2.1.map .str), .str s.2.2.2.2.2]
abbrev Rou := Option Int × List Mt × Sg
abbrev rtD (r : Rou) : PyData := .tuple [oD r.1, .tuple (r.2.1.map mtD), sgD r.2.2]
theorem od_shp (o : Option Int) : SeqAt.shaped (oD o) = true := by cases o <;> rfl
def treeOk (ts : List Rou) : Prop := 0 < ts.length ∧ ts.length ≤ 1000 ∧ ∀ (i : Nat) r, ts[i]? = some r → ∀ p, r.1 = some p → p < (i : Int) ∧ 0 ≤ p
def hit (L : List (Str × Str)) (ts : List Rou) (i : Nat) (q : Int) : Bool :=
  match ts[i]? with
  | some r => PyData.eqv (oD r.1) (.int q) && r.2.1.all (mtF L)
  | none => false
theorem hit_some {L : List (Str × Str)} {ts : List Rou} {i : Nat} {q : Int} {r : Rou} (h : ts[i]? = some r) : hit L ts i q = (PyData.eqv (oD r.1) (.int q) && r.2.1.all (mtF L)) := by unfold hit; rw [h]
theorem eqv_od {o : Option Int} {q : Int} (h : PyData.eqv (oD o) (.int q) = true) : o = some q := by
  cases o with
  | none => cases h
  | some p => exact congrArg some (of_decide_eq_true (p := p = q) (by exact h))
theorem hit_par {L : List (Str × Str)} {ts : List Rou} {i : Nat} {q : Int} (T : treeOk ts) (h : hit L ts i q = true) : q < (i : Int) ∧ 0 ≤ q := by
  unfold hit at h
  split at h
  · rename_i r e
    rw [Bool.and_eq_true] at h
    exact T.2.2 i r e q (eqv_od h.1)
  · cases h
def pw (L : List (Str × Str)) (ts : List Rou) : Nat → List Int × Int
  | 0 => ([], 0)
  | i + 1 => if hit L ts i (pw L ts i).2 then ((pw L ts i).1 ++ [(pw L ts i).2], (i : Int)) else pw L ts i
def fcw (L : List (Str × Str)) (ts : List Rou) (q : Int) : Nat → Option Int
  | 0 => none
  | j + 1 => if (fcw L ts q j).isNone && hit L ts (1 + j) q then some (1 + (j : Nat)) else fcw L ts q j
def lw (L : List (Str × Str)) (ts : List Rou) : Nat → List Int × Int
  | 0 => ([], 0)
  | t + 1 => match fcw L ts (lw L ts t).2 (ts.length - 1) with
    | none => lw L ts t
    | some f => ((lw L ts t).1 ++ [(lw L ts t).2], f)
def pth (p : List Int × Int) : List Int := p.1 ++ [p.2]
theorem fcw_none {L : List (Str × Str)} {ts : List Rou} {q : Int} : ∀ j, (∀ k, 1 ≤ k → k ≤ j → hit L ts k q = false) → fcw L ts q j = none
  | 0, _ => rfl
  | j + 1, h => by
    unfold fcw
    rw [fcw_none j fun k a b => h k a (by omega), h (1 + j) (by omega) (by omega)]; rfl
theorem fcw_some {L : List (Str × Str)} {ts : List Rou} {q : Int} {i : Nat} (h : hit L ts i q = true) (h1 : 1 ≤ i) (hn : ∀ k, 1 ≤ k → k < i → hit L ts k q = false) : ∀ j, i ≤ j → fcw L ts q j = some (i : Int)
  | 0, z => by omega
  | j + 1, z => by
    by_cases e : i ≤ j
    · have ih := fcw_some h h1 hn j e
      unfold fcw
      rw [ih]; rfl
    · have e2 : i = 1 + j := by omega
      subst e2
      unfold fcw
      rw [fcw_none j fun k a b => hn k a (by omega), h]
      show some (1 + ((j : Nat) : Int)) = _
      congr 1
theorem lw_stay {L : List (Str × Str)} {ts : List Rou} {t : Nat} {p : List Int × Int} (h : lw L ts t = p) (hf : fcw L ts p.2 (ts.length - 1) = none) : ∀ s, lw L ts (t + s) = p
  | 0 => h
  | s + 1 => by
    have ih := lw_stay h hf s
    show lw L ts ((t + s) + 1) = p
    unfold lw
    rw [ih, hf]
theorem lw_main {L : List (Str × Str)} {ts : List Rou} (T : treeOk ts) : ∀ (m i t s : Nat), i + m = ts.length → lw L ts t = pw L ts i → (∀ k, k < i → hit L ts k (pw L ts i).2 = false) → m ≤ s → lw L ts (t + s) = pw L ts ts.length
  | 0, i, t, s, e, h, hn, _ => by
    have ei : i = ts.length := by omega
    subst ei
    exact lw_stay h (fcw_none _ fun k a b => hn k (by have := T.1; omega)) s
  | m + 1, i, t, s, e, h, hn, hs => by
    cases hh : hit L ts i (pw L ts i).2 with
    | true =>
      have hp := hit_par T hh
      have hf := fcw_some hh (by omega) (fun k _ b => hn k b) (ts.length - 1) (by omega)
      have e1 : pw L ts (i + 1) = ((pw L ts i).1 ++ [(pw L ts i).2], (i : Int)) := by
        show (if _ then _ else _) = _
        rw [if_pos hh]
      have e2 : lw L ts (t + 1) = pw L ts (i + 1) := by
        rw [e1]
        unfold lw
        rw [h, hf]
      have e3 : t + s = (t + 1) + (s - 1) := by omega
      rw [e3]
      refine lw_main T m (i + 1) (t + 1) (s - 1) (by omega) e2 (fun k hk => ?_) (by omega)
      cases z : hit L ts k (pw L ts (i + 1)).2 with
      | false => rfl
      | true =>
        have := hit_par T z
        rw [e1] at this
        have : (i : Int) < k := this.1
        omega
    | false =>
      have e1 : pw L ts (i + 1) = pw L ts i := by
        show (if _ then _ else _) = _
        rw [if_neg (by rw [hh]; decide)]
      refine lw_main T m (i + 1) t s (by omega) (h.trans e1.symm) (fun k hk => ?_) (by omega)
      rw [e1]
      by_cases ek : k = i
      · subst ek; exact hh
      · exact hn k (by omega)
theorem lw_pw {L : List (Str × Str)} {ts : List Rou} (T : treeOk ts) : lw L ts ts.length = pw L ts ts.length := by
  have := lw_main (L := L) T ts.length 0 0 ts.length (by omega) rfl (fun k hk => by omega) (Nat.le_refl _)
  rw [Nat.zero_add] at this
  exact this
theorem lw_len {L : List (Str × Str)} {ts : List Rou} : ∀ i, (lw L ts i).1.length ≤ i
  | 0 => Nat.le_refl _
  | i + 1 => by
    have := lw_len (L := L) (ts := ts) i
    unfold lw
    split
    · omega
    · show ((lw L ts i).1 ++ [(lw L ts i).2]).length ≤ _
      rw [List.length_append]; show _ + 1 ≤ _; omega
theorem pth_map (p : List Int × Int) : (pth p).map PyData.int = p.1.map PyData.int ++ [.int p.2] := by unfold pth; rw [List.map_append]; rfl
theorem pth_end (p : List Int × Int) : atI ((pth p).map PyData.int) (-1) = some (.int p.2) := by rw [pth_map]; exact at_end
theorem pth_len (p : List Int × Int) : (pth p).length = p.1.length + 1 := by unfold pth; rw [List.length_append]; rfl
section
variable {P : Program} {w : World} {K : PySem.W.Frag} {mg : Str → Option Value} {base : Heap} {f : Addr} {fd : FuncData} {Tb : List Addr} {k : Nat}
def R_way : List PyData → PyData → Prop := fun ds d => ∃ (ts : List Rou) (L : List (Str × Str)), ds = [.list (ts.map rtD), lbD L] ∧ treeOk ts ∧ d = iL (pth (pw L ts ts.length))
theorem ok_lway (Fn : Fun K "_law_way" "_law_way" s_l_law_way f fd) (hm : mg "_law_way" = some (.ref f)) (hb : Binds K fd ["_law_tree", "_law_labels_here"] []) (Z : Zb mg)
    (D_l_law_matches : Df P w K mg base 2 "_law_matches" ["_law_matchers", "_law_labels_here"] (spD K Tb R_lmatches)) :
    Df P w K mg base 3 "_law_way" ["_law_tree", "_law_labels_here"] (spD K Tb R_way) := by
  refine df_D Fn sc_l_law_way hm hb (fun ds d h => by obtain ⟨_, _, rfl, _⟩ := h; rfl) fun cdv A outer s H Ek hr => ⟨_, (pss_cons (ps_set (i := 2) sc_l_law_way.nd rfl (by first | exact .inl rfl | exact .inr rfl) (pe_lst (pa_cons pe_int pa_nil)))
      (pss_cons (ps_for PassesOwn.never rfl (pi_range1 (by rfl) Z.range (pa_cons (pe_callB (uLenK K) (by rfl) Z.len (by decide +kernel) (pa_cons (pv 0) pa_nil)) pa_nil)) (pg_name (i := 3) sc_l_law_way.nd rfl (by first | exact .inl rfl | exact .inr rfl)) (pss_cons (ps_set (i := 4) sc_l_law_way.nd rfl (by first | exact .inl rfl | exact .inr rfl) pe_non)
      (pss_cons (ps_for PassesOwn.never rfl (pi_range2 (by rfl) Z.range (pa_cons pe_int (pa_cons (pe_callB (uLenK K) (by rfl) Z.len (by decide +kernel) (pa_cons (pv 0) pa_nil)) pa_nil))) (pg_name (i := 5) sc_l_law_way.nd rfl (by first | exact .inl rfl | exact .inr rfl)) (pss_one (ps_if (PW.pt (pw_and (pt_cmpR uIsN (pv 4) pe_non (nomark _)) (pw_and (pt_cmpR (uEqK K hr.units) (pe_ix (ix_seqK K) (pe_ix (ix_seqK K) (pv 0) (pv 5) (fun _ _ => rfl)) pe_int (fun _ _ => rfl)) (pe_ix (ix_seqK K) (pv 2) (pe_un un_neg pe_int) (fun _ _ => rfl)) (nomark _)) (pw_and1 (pt_truthK K (pe_df D_l_law_matches hr (by first | decide | exact Nat.le_refl _ | omega) (by rfl) (pa_cons (pe_ix (ix_seqK K) (pe_ix (ix_seqK K) (pv 0) (pv 5) (fun _ _ => rfl)) pe_int (fun _ _ => rfl)) (pa_cons (pv 1) pa_nil))) (by intro _; rfl)))))) (pss_one (ps_set (i := 4) sc_l_law_way.nd rfl (by first | exact .inl rfl | exact .inr rfl) (pv 5))) pss_nil)))
      (pss_one (ps_if (pt_cmpR uNotN (pv 4) pe_non (nomark _)) (pss_one (ps_expr (pe_bm PySem.F.plainAttrs_list PySem.F.slot_list_append PySem.F.type_list_append mt_append (pv 2) (pa_cons (pv 4) pa_nil)))) pss_nil)))))
      (pss_one (ps_ret (pv 2))))),  fun ds d F0 H0 Q r rt => ?_⟩
  obtain ⟨ts, L, rfl, T, rfl⟩ := r
  have lm : ((ts.map rtD).length : Int) = ts.length := by rw [List.length_map]
  have tl := T.2.1
  have t0 := T.1
  rw [← lw_pw T] at rt
  refine q_asgL (ds := [.int 0]) (el_lst (a_cons e_int a_nil) (Nat.le_of_ble_eq_true rfl)) ?_
  refine q_for1 (fun t => [.fz (.list (ts.map rtD)), .fz (lbD L), .ow ((pth (lw L ts t)).map .int), .un, .un, .un]) (it_rng1 (n := ((ts.map rtD).length : Int)) (by walk_at "e") (by omega) (by omega)) (Wk.refl _) (fun F1 t d hd => ?_) ?_
  · obtain ⟨ht, rfl⟩ := rngD_get hd
    refine ⟨_, _, g_name, ?_⟩
    have ll := lw_len (L := L) (ts := ts) t
    have eS : lw L ts (t + 1) = (match fcw L ts (lw L ts t).2 (ts.length - 1) with | none => lw L ts t | some f => ((lw L ts t).1 ++ [(lw L ts t).2], f)) := rfl
    generalize lw L ts t = p at ll eS ⊢
    refine q_asg (d := .none) e_non ?_
    refine q_for1 (fun j => [.fz (.list (ts.map rtD)), .fz (lbD L), .ow ((pth p).map .int), .un, .fz (oD (fcw L ts p.2 j)), .un]) (it_rng2 (lo := 1) (hi := ((ts.map rtD).length : Int)) (by walk_at "e") (by omega) (by omega) (by omega) (by omega)) (.keep rfl (.keep rfl (.keep rfl (.drop (.keep rfl (.keep rfl .nil)))))) (fun F2 j d hd => ?_) ?_
    · obtain ⟨hj, rfl⟩ := rngD_get hd
      refine ⟨_, _, g_name, ?_⟩
      have hj' : 1 + j < ts.length := by omega
      have hq : ts[1 + j]? = some ts[1 + j] := List.getElem?_eq_getElem hj'
      generalize ts[1 + j] = r at hq
      obtain ⟨pa, ms, sg⟩ := r
      have hx := hit_some (L := L) (q := p.2) hq
      have hk : atI (ts.map rtD) (1 + (j : Nat)) = some (rtD (pa, ms, sg)) := by
        rw [at_nat (by omega) (by rw [List.length_map]; omega), show (1 + (j : Int)).toNat = 1 + j by omega, List.getElem?_map, hq]; rfl
      have eJ : fcw L ts p.2 (j + 1) = if (fcw L ts p.2 j).isNone && hit L ts (1 + j) p.2 then some (1 + (j : Int)) else fcw L ts p.2 j := rfl
      rw [hx] at eJ
      generalize fcw L ts p.2 j = o at eJ ⊢
      refine s_if (b := o.isNone && (PyData.eqv (oD pa) (.int p.2) && ms.all (mtF L))) (t_and (t_test (by rw [← isND_oD]; exact b_op (E.b (e_var rfl)) (E.b e_non) is_n rfl)) fun _ => t_and (t_test (b_op (E.b (e_op (e_op (e_var rfl) (e_var rfl) (ix_l hk)) e_int (ix_t rfl))) (E.b (e_ixo rfl (e_neg e_int) (pth_end _))) (eqd (od_shp _) rfl) rfl)) fun _ => t_tru (d := .bool (ms.all (mtF L))) (E.b (e_call (ds := [.tuple (ms.map mtD), lbD L]) (a_cons (e_op (e_op (e_var rfl) (e_var rfl) (ix_l hk)) e_int (ix_t rfl)) (by walk_at "e")) ⟨_, ms, L, rfl, .inr rfl, rfl⟩)) rfl) (fun h => ?_) fun h => ?_
      · refine s_asg (d := .int (1 + (j : Int))) (e_var rfl) (n_end1 (.keep rfl (.keep rfl (.keep rfl (.keep rfl (.keep ?_ (.drop .nil)))))))
        show Sl.fz (oD (fcw L ts p.2 (j + 1))) = _
        rw [eJ, if_pos h]; rfl
      · refine s_next (n_end1 (.keep rfl (.keep rfl (.keep rfl (.keep rfl (.keep ?_ (.drop .nil)))))))
        show Sl.fz (oD (fcw L ts p.2 (j + 1))) = _
        rw [eJ, if_neg (by rw [h]; decide)]
    · have ej : (rngD 1 (((ts.map rtD).length : Int) - 1).toNat).length = ts.length - 1 := by rw [rngD_len]; omega
      rw [ej]
      generalize fcw L ts p.2 (ts.length - 1) = o at eS ⊢
      refine s_if (b := !o.isNone) (t_test (by rw [← isND_oD]; exact b_op (E.b (e_var rfl)) (E.b e_non) nis_n rfl)) (fun h => ?_) fun h => ?_
      · cases o with
        | none => cases h
        | some z =>
          refine s_app (d := .int z) rfl (e_var rfl) (by rw [List.length_map, pth_len]; omega) (n_end1 (.keep rfl (.keep rfl (.keep ?_ (.keep rfl (.drop (.keep rfl .nil)))))))
          show Sl.ow ((pth (lw L ts (t + 1))).map .int) = _
          rw [eS]
          show Sl.ow ((pth (pth p, z)).map .int) = _
          rw [pth_map]
      · cases o with
        | some z => cases h
        | none =>
          refine s_next (n_end1 (.keep rfl (.keep rfl (.keep ?_ (.keep rfl (.drop (.keep rfl .nil)))))))
          show Sl.ow ((pth (lw L ts (t + 1))).map .int) = _
          rw [eS]
  · have ej : (rngD 0 ((ts.map rtD).length : Int).toNat).length = ts.length := by rw [rngD_len]; omega
    rw [ej]
    exact s_retO rfl (RtL.of (D := { nx := fun x H' => Q V.non H', rt := Q }) rt)
end
def mkRo (D : List Int) (pl : Int) (ns ws la sh : List Str) : Rou :=
  (if 0 < pl then some (itI D 0 % pl) else none,
   if 0 < pl then (List.range (itI D 1 % 3).toNat).map fun k => mkMt (itI D (2 + 2 * (0 + (k : Nat)))) (itI D (3 + 2 * (0 + (k : Nat)))) ns ws else [],
   (List.range (itI D 6 % 3).toNat).map fun k => itS ns ((itI D 7 + (0 + (k : Nat))) % ns.length),
   itI D 8 % 5, 1 + itI D 9 % 6, 1 + itI D 9 % 6 + itI D 10 % 9,
   cutA sh none (some (itI D 11 % (sh.length + 1))),
   itS la (itI D 12 % la.length))
section
variable {P : Program} {w : World} {K : PySem.W.Frag} {mg : Str → Option Value} {base : Heap} {f : Addr} {fd : FuncData} {Tb : List Addr} {k : Nat}
def R_route : List PyData → PyData → Prop := fun ds d => ∃ (c pl : Int) (ns ws la sh : List Str), ds = [.int c, .int pl, sL ns, sL ws, sL la, sL sh] ∧ 0 < ns.length ∧ ws.length ≤ 1000 ∧ 0 < la.length ∧ sh.length ≤ 1000 ∧ d = rtD (mkRo (draws c 16) pl ns ws la sh)
theorem ok_route (Fn : Fun K "_law_route" "_law_route" s_l_law_route f fd) (hm : mg "_law_route" = some (.ref f)) (hb : Binds K fd ["_law_cell_here", "_law_place", "_law_names", "_law_worths_here", "_law_ladders", "_law_shutters"] []) (Z : Zb mg)
    (D_l_law_draws : Df P w K mg base 1 "_law_draws" ["_law_cell_here", "_law_many"] (spD K Tb R_draws))
    (D_l_law_matcher : Df P w K mg base 1 "_law_matcher" ["_law_first", "_law_second", "_law_names", "_law_worths_here"] (spD K Tb R_matcher)) :
    Df P w K mg base 2 "_law_route" ["_law_cell_here", "_law_place", "_law_names", "_law_worths_here", "_law_ladders", "_law_shutters"] (spD K Tb R_route) := by
  refine df_D Fn sc_l_law_route hm hb (fun ds d h => by obtain ⟨_, _, _, _, _, _, rfl, _⟩ := h; rfl) fun cdv A outer s H Ek hr => ⟨_, (pss_cons (ps_set (i := 6) sc_l_law_route.nd rfl (by first | exact .inl rfl | exact .inr rfl) (pe_df D_l_law_draws hr (by first | decide | exact Nat.le_refl _ | omega) (by rfl) (pa_cons (pv 0) (pa_cons pe_int pa_nil))))
      (pss_cons (ps_set (i := 7) sc_l_law_route.nd rfl (by first | exact .inl rfl | exact .inr rfl) pe_non)
      (pss_cons (ps_set (i := 8) sc_l_law_route.nd rfl (by first | exact .inl rfl | exact .inr rfl) (pe_lst pa_nil))
      (Evl.pss_cut (ps_if (pt_cmpR op_gt (pv 1) pe_int (nomark _)) (pss_cons (ps_set (i := 7) sc_l_law_route.nd rfl (by first | exact .inl rfl | exact .inr rfl) (pe_op op_mod (pe_callTy uInt (by rfl) Z.int (by decide +kernel) (pa_cons (pe_ix (ix_seqK K) (pv 6) pe_int (fun _ _ => rfl)) pa_nil)) (pv 1)))
      (pss_one (ps_for PassesOwn.never rfl (pi_range1 (by rfl) Z.range (pa_cons (pe_op op_mod (pe_callTy uInt (by rfl) Z.int (by decide +kernel) (pa_cons (pe_ix (ix_seqK K) (pv 6) pe_int (fun _ _ => rfl)) pa_nil)) pe_int) pa_nil)) (pg_name (i := 9) sc_l_law_route.nd rfl (by first | exact .inl rfl | exact .inr rfl)) (pss_one (ps_expr (pe_bm PySem.F.plainAttrs_list PySem.F.slot_list_append PySem.F.type_list_append mt_append (pv 8) (pa_cons (pe_df D_l_law_matcher hr (by first | decide | exact Nat.le_refl _ | omega) (by rfl) (pa_cons (pe_ix (ix_seqK K) (pv 6) (pe_op (uAddK K) pe_int (pe_op uMul pe_int (pv 9))) (fun _ _ => rfl)) (pa_cons (pe_ix (ix_seqK K) (pv 6) (pe_op (uAddK K) pe_int (pe_op uMul pe_int (pv 9))) (fun _ _ => rfl)) (pa_cons (pv 2) (pa_cons (pv 3) pa_nil))))) pa_nil))))))) pss_nil)
      (pss_cons (ps_setLc (i := 10) (own := [("_law_k", 9)]) (by rfl) sc_l_law_route.nd rfl rfl (sw_true rfl rfl rfl (by decide +kernel)) (pi_range1 (by rfl) Z.range (pa_cons (pe_op op_mod (pe_callTy uInt (by rfl) Z.int (by decide +kernel) (pa_cons (pe_ix (ix_seqK K) (pv 6) pe_int (fun _ _ => rfl)) pa_nil)) pe_int) pa_nil)) (blkOk_by (own := [("_law_k", 9)]) (N := N_l_law_route) (sc := defScope s_l_law_route) (by decide +kernel)) (fun _ _ _ _ _ => (pg_name (i := 9) sc_l_law_route.nd rfl (by first | exact .inl rfl | exact .inr rfl))) (fun _ _ _ _ _ => pts_nil) (fun _ _ _ _ _ => (pe_ix (ix_seqK K) (pv 2) (pe_op op_mod (pe_callTy uInt (by rfl) Z.int (by decide +kernel) (pa_cons (pe_op (uAddK K) (pe_ix (ix_seqK K) (pv 6) pe_int (fun _ _ => rfl)) (pv 9)) pa_nil)) (pe_callB (uLenK K) (by rfl) Z.len (by decide +kernel) (pa_cons (pv 2) pa_nil))) (fun _ _ => rfl))))
      (pss_cons (ps_set (i := 11) sc_l_law_route.nd rfl (by first | exact .inl rfl | exact .inr rfl) (pe_op (uAddK K) pe_int (pe_op op_mod (pe_callTy uInt (by rfl) Z.int (by decide +kernel) (pa_cons (pe_ix (ix_seqK K) (pv 6) pe_int (fun _ _ => rfl)) pa_nil)) pe_int)))
      (pss_cons (ps_set (i := 12) sc_l_law_route.nd rfl (by first | exact .inl rfl | exact .inr rfl) (pe_op (uAddK K) (pv 11) (pe_op op_mod (pe_callTy uInt (by rfl) Z.int (by decide +kernel) (pa_cons (pe_ix (ix_seqK K) (pv 6) pe_int (fun _ _ => rfl)) pa_nil)) pe_int)))
      (pss_cons (ps_set (i := 13) sc_l_law_route.nd rfl (by first | exact .inl rfl | exact .inr rfl) (pe_slice (uSlK K) (pv 5) po_none (po_some (pe_op op_mod (pe_callTy uInt (by rfl) Z.int (by decide +kernel) (pa_cons (pe_ix (ix_seqK K) (pv 6) pe_int (fun _ _ => rfl)) pa_nil)) (pe_op (uAddK K) (pe_callB (uLenK K) (by rfl) Z.len (by decide +kernel) (pa_cons (pv 5) pa_nil)) pe_int)))))
      (pss_cons (ps_set (i := 14) sc_l_law_route.nd rfl (by first | exact .inl rfl | exact .inr rfl) (pe_ix (ix_seqK K) (pv 4) (pe_op op_mod (pe_callTy uInt (by rfl) Z.int (by decide +kernel) (pa_cons (pe_ix (ix_seqK K) (pv 6) pe_int (fun _ _ => rfl)) pa_nil)) (pe_callB (uLenK K) (by rfl) Z.len (by decide +kernel) (pa_cons (pv 4) pa_nil))) (fun _ _ => rfl)))
      (pss_one (ps_ret (pe_tup (pa_cons (pv 7) (pa_cons (pe_callTy (uTupK K) (by rfl) Z.tuple (by decide +kernel) (pa_cons (pv 8) pa_nil)) (pa_cons (pe_tup (pa_cons (pe_callTy (uTupK K) (by rfl) Z.tuple (by decide +kernel) (pa_cons (pv 10) pa_nil)) (pa_cons (pe_op op_mod (pe_callTy uInt (by rfl) Z.int (by decide +kernel) (pa_cons (pe_ix (ix_seqK K) (pv 6) pe_int (fun _ _ => rfl)) pa_nil)) pe_int) (pa_cons (pv 11) (pa_cons (pv 12) (pa_cons (pe_callTy (uTupK K) (by rfl) Z.tuple (by decide +kernel) (pa_cons (pv 13) pa_nil)) (pa_cons (pv 14) pa_nil))))))) pa_nil))))))))))))))),  fun ds d F0 H0 Q r rt => ?_⟩
  obtain ⟨c, pl, ns, ws, la, sh, rfl, hn, hw, hla, hsh, rfl⟩ := r
  have dl := draws_len c 16
  refine q_asg (d := iL (draws c 16)) (e_call (ds := [.int c, .int 16]) (by walk_at "e") ⟨c, 16, rfl, by decide, rfl⟩) ?_
  generalize draws c 16 = D at dl rt ⊢
  have a0 : atI (D.map PyData.int) 0 = _ := at_int (by omega) (by omega)
  have a1 : atI (D.map PyData.int) 1 = _ := at_int (by omega) (by omega)
  have a6 : atI (D.map PyData.int) 6 = _ := at_int (by omega) (by omega)
  have a7 : atI (D.map PyData.int) 7 = _ := at_int (by omega) (by omega)
  have a8 : atI (D.map PyData.int) 8 = _ := at_int (by omega) (by omega)
  have a9 : atI (D.map PyData.int) 9 = _ := at_int (by omega) (by omega)
  have a10 : atI (D.map PyData.int) 10 = _ := at_int (by omega) (by omega)
  have a11 : atI (D.map PyData.int) 11 = _ := at_int (by omega) (by omega)
  have a12 : atI (D.map PyData.int) 12 = _ := at_int (by omega) (by omega)
  have m1 := md (itI D 1) 3 (by decide)
  have m6 := md (itI D 6) 3 (by decide)
  have l3 : ((ns.map PyData.str).length : Int) = ns.length := by rw [List.length_map]
  have l4 : ((la.map PyData.str).length : Int) = la.length := by rw [List.length_map]
  have l5 : ((sh.map PyData.str).length : Int) = sh.length := by rw [List.length_map]
  let par : Option Int := if 0 < pl then some (itI D 0 % pl) else none
  let ms : List Mt := if 0 < pl then (List.range (itI D 1 % 3).toNat).map fun k => mkMt (itI D (2 + 2 * (0 + (k : Nat)))) (itI D (3 + 2 * (0 + (k : Nat)))) ns ws else []
  let gr : List Str := (List.range (itI D 6 % 3).toNat).map fun k => itS ns ((itI D 7 + (0 + (k : Nat))) % ns.length)
  refine q_asg (d := .none) e_non (q_asgL (el_lst a_nil (by decide)) ?_)
  refine s_cut [.fz (.int c), .fz (.int pl), .fz (sL ns), .fz (sL ws), .fz (sL la), .fz (sL sh), .fz (iL D), .fz (oD par), .ow (ms.map mtD), .un, .un, .un, .un, .un, .un] (s_if (b := decide (0 < pl)) (by walk_at "e") (fun h => ?_) fun h => ?_) ?_
  · have h' := of_decide_eq_true h
    have ep : par = some (itI D 0 % pl) := if_pos h'
    have em : ms = (List.range (itI D 1 % 3).toNat).map fun k => mkMt (itI D (2 + 2 * (0 + (k : Nat)))) (itI D (3 + 2 * (0 + (k : Nat)))) ns ws := if_pos h'
    rw [ep, em]
    refine q_asg (d := .int (itI D 0 % pl)) (by walk_at "e") ?_
    refine s_for1 (fun i => [.fz (.int c), .fz (.int pl), .fz (sL ns), .fz (sL ws), .fz (sL la), .fz (sL sh), .fz (iL D), .fz (.int (itI D 0 % pl)), .ow (((List.range i).map fun k => mkMt (itI D (2 + 2 * (0 + (k : Nat)))) (itI D (3 + 2 * (0 + (k : Nat)))) ns ws).map mtD), .un, .un, .un, .un, .un, .un]) (it_rng1 (n := itI D 1 % 3) (by walk_at "e") (by omega) (by omega)) (Wk.refl _) (fun F1 i d hd => ?_) ?_
    · obtain ⟨hi, rfl⟩ := rngD_get hd
      refine ⟨_, _, g_name, ?_⟩
      have b1 : atI (D.map PyData.int) (2 + 2 * (0 + (i : Nat))) = _ := at_int (by omega) (by omega)
      have b2 : atI (D.map PyData.int) (3 + 2 * (0 + (i : Nat))) = _ := at_int (by omega) (by omega)
      refine s_app (d := mtD (mkMt (itI D (2 + 2 * (0 + (i : Nat)))) (itI D (3 + 2 * (0 + (i : Nat)))) ns ws)) rfl (e_call (ds := [.int (itI D (2 + 2 * (0 + (i : Nat)))), .int (itI D (3 + 2 * (0 + (i : Nat)))), sL ns, sL ws]) (by walk_at "e") ⟨_, _, ns, ws, rfl, hn, hw, rfl⟩) (by rw [List.length_map, List.length_map, List.length_range]; omega) (n_end1 (.keep rfl (.keep rfl (.keep rfl (.keep rfl (.keep rfl (.keep rfl (.keep rfl (.keep rfl (.keep ?_ (.drop (.keep rfl (.keep rfl (.keep rfl (.keep rfl (.keep rfl .nil))))))))))))))))
      show Sl.ow (((List.range (i + 1)).map fun k => mkMt (itI D (2 + 2 * (0 + (k : Nat)))) (itI D (3 + 2 * (0 + (k : Nat)))) ns ws).map mtD) = _
      rw [List.range_succ, List.map_append, List.map_append]; rfl
    · rw [rngD_len]
      exact n_end1 (Wk.refl _)
  · have h' := of_decide_eq_false h
    have ep : par = none := if_neg h'
    have em : ms = [] := if_neg h'
    rw [ep, em]
    exact s_next (n_end1 (Wk.refl _))
  · refine q_asg (d := .list (gr.map .str)) (EL.e ?_) ?_
    · have er : gr.map PyData.str = (rngD 0 (itI D 6 % 3).toNat).filterMap (fI fun i => .str (itS ns ((itI D 7 + i) % ns.length))) := by rw [fI_rng]; show List.map _ (List.map _ _) = _; rw [List.map_map]; rfl
      rw [er]
      refine el_lc (ix := [9]) _ (fun d => [.fz (.int c), .fz (.int pl), .fz (sL ns), .fz (sL ws), .fz (sL la), .fz (sL sh), .fz (iL D), .fz (oD par), .ow (ms.map mtD), .fz d, .un, .un, .un, .un, .un]) (it_rng1 (n := itI D 6 % 3) (by walk_at "e") (by omega) (by omega)) (by rw [rngD_len]; omega) (fun F1 d hd => g_name) (by decide) (fun F1 d hd => ?_) fun F1 d hd y hy => ?_
      · obtain ⟨i, hi⟩ := List.getElem?_of_mem hd
        obtain ⟨_, rfl⟩ := rngD_get hi
        exact t_yes
      · obtain ⟨i, hi⟩ := List.getElem?_of_mem hd
        obtain ⟨h1, rfl⟩ := rngD_get hi
        cases hy
        have m3 := md (itI D 7 + (0 + (i : Nat))) ns.length (by omega)
        have p3 : (0 : Int) < ((ns.map PyData.str).length : Int) := by omega
        have b3 : atI (ns.map PyData.str) ((itI D 7 + (0 + (i : Nat))) % ((ns.map PyData.str).length : Int)) = some (.str (itS ns ((itI D 7 + (0 + (i : Nat))) % ns.length))) := by rw [l3]; exact at_str m3.1 m3.2
        walk_at "e"
    refine q_asg (d := .int (1 + itI D 9 % 6)) (by walk_at "e") ?_
    refine q_asg (d := .int (1 + itI D 9 % 6 + itI D 10 % 9)) (by walk_at "e") ?_
    have e13 : PyData.list ((cutA sh none (some (itI D 11 % (sh.length + 1)))).map .str) = .list (DW.cutD (sh.map .str) none (some (itI D 11 % (((sh.map PyData.str).length : Int) + 1)))) := by rw [cut_map, l5]
    refine q_asg (d := .list ((cutA sh none (some (itI D 11 % (sh.length + 1)))).map .str)) (by
      rw [e13]
      exact EL.e (el_sl (lo := none) (hi := some (itI D 11 % (((sh.map PyData.str).length : Int) + 1))) (e_var rfl) o_none (o_some (by walk_at "e")))) ?_
    have m12 := md (itI D 12) la.length (by omega)
    have p4 : (0 : Int) < ((la.map PyData.str).length : Int) := by omega
    have b12 : atI (la.map PyData.str) (itI D 12 % ((la.map PyData.str).length : Int)) = some (.str (itS la (itI D 12 % la.length))) := by rw [l4]; exact at_str m12.1 m12.2
    refine q_asg (d := .str (itS la (itI D 12 % la.length))) (by walk_at "e") ?_
    exact s_ret (e_tup (a_cons (e_var rfl) (a_cons (e_tupO rfl) (a_cons (e_tup (a_cons (e_tupE (e_var rfl)) (a_cons (by walk_at "e") (a_cons (e_var rfl) (a_cons (e_var rfl) (a_cons (e_tupE (e_var rfl)) (a_cons (e_var rfl) a_nil)))))) (Nat.le_of_ble_eq_true rfl)) a_nil))) (Nat.le_of_ble_eq_true rfl)) rt
end
end WL
open WL
/-! ### names -/
def wd2 (p r : Int) : Str := cutS "xyz" none (some p) ++ sg LT3 r ++ cutS "xyzw" (some p) none
theorem wdF_eq (c k : Int) : wdF c k = wd2 (c / 26 % 4) ((c + 3 * k) % 26) := rfl
theorem wd2_nam : ∀ p : Fin 4, ∀ r : Fin 26, namB (wd2 (p.val : Int) (r.val : Int)) = true := by decide +kernel
theorem wd2_inj : ∀ p : Fin 4, ∀ r : Fin 26, ∀ q : Fin 26, wd2 (p.val : Int) (r.val : Int) = wd2 (p.val : Int) (q.val : Int) → r = q := by decide +kernel
theorem wd_nam (c k : Int) : namB (wdF c k) = true := by
  rw [wdF_eq]
  have h1 := md (c / 26) 4 (by decide)
  have h2 := md (c + 3 * k) 26 (by decide)
  have := wd2_nam ⟨(c / 26 % 4).toNat, by omega⟩ ⟨((c + 3 * k) % 26).toNat, by omega⟩
  rwa [show (((⟨(c / 26 % 4).toNat, by omega⟩ : Fin 4).val : Nat) : Int) = c / 26 % 4 by show ((c / 26 % 4).toNat : Int) = _; omega, show (((⟨((c + 3 * k) % 26).toNat, by omega⟩ : Fin 26).val : Nat) : Int) = (c + 3 * k) % 26 by show (((c + 3 * k) % 26).toNat : Int) = _; omega] at this
theorem wd_inj {c j k : Int} (h : wdF c j = wdF c k) : (c + 3 * j) % 26 = (c + 3 * k) % 26 := by
  rw [wdF_eq, wdF_eq] at h
  have h1 := md (c / 26) 4 (by decide)
  have h2 := md (c + 3 * j) 26 (by decide)
  have h3 := md (c + 3 * k) 26 (by decide)
  have := wd2_inj ⟨(c / 26 % 4).toNat, by omega⟩ ⟨((c + 3 * j) % 26).toNat, by omega⟩ ⟨((c + 3 * k) % 26).toNat, by omega⟩
  rw [show (((⟨(c / 26 % 4).toNat, by omega⟩ : Fin 4).val : Nat) : Int) = c / 26 % 4 by show ((c / 26 % 4).toNat : Int) = _; omega, show (((⟨((c + 3 * j) % 26).toNat, by omega⟩ : Fin 26).val : Nat) : Int) = (c + 3 * j) % 26 by show (((c + 3 * j) % 26).toNat : Int) = _; omega, show (((⟨((c + 3 * k) % 26).toNat, by omega⟩ : Fin 26).val : Nat) : Int) = (c + 3 * k) % 26 by show (((c + 3 * k) % 26).toNat : Int) = _; omega] at this
  have := congrArg Fin.val (this h)
  have : ((c + 3 * j) % 26).toNat = ((c + 3 * k) % 26).toNat := this
  omega
theorem nam_len {t : Str} (h : namB t = true) : t.length ≤ 20 := by
  unfold namB valB at h
  rw [Bool.and_eq_true, Bool.and_eq_true] at h
  exact (len_pos h.1.1).2
/-! ### checks that let pass -/
theorem cnF_ok {p : PyData → Bool} : ∀ {es : List (Str × List PyData)} {seen : List Str} {i : Nat}, (∀ x ∈ es, namB x.1 = true ∧ p (enE x) = true) → (es.map (·.1)).Nodup → (∀ x ∈ es, x.1 ∉ seen) → cnF p seen i es = none
  | [], _, _, _, _, _ => rfl
  | x :: es, seen, i, h, nd, hs => by
    rw [List.map_cons, List.nodup_cons] at nd
    have hx := h x (List.mem_cons_self ..)
    rw [cnF, if_pos ⟨hx.1, hs x (List.mem_cons_self ..), hx.2⟩]
    refine cnF_ok (fun y hy => h y (List.mem_cons_of_mem _ hy)) nd.2 fun y hy hm => ?_
    rcases List.mem_append.mp hm with hm | hm
    · exact hs y (List.mem_cons_of_mem _ hy) hm
    · exact nd.1 (List.mem_map.mpr ⟨y, hy, List.mem_singleton.mp hm⟩)
theorem fB_ok {α : Type} {p : Nat → α → Bool} : ∀ {xs : List α} {i : Nat}, (∀ j x, xs[j]? = some x → p (i + j) x = true) → fB p i xs = none
  | [], _, _ => rfl
  | x :: xs, i, h => by
    have h0 := h 0 x rfl
    rw [Nat.add_zero] at h0
    rw [fB, if_pos h0]
    exact fB_ok fun j y hy => by have := h (j + 1) y (by simpa using hy); rwa [show i + (j + 1) = i + 1 + j by omega] at this
/-- a sound setup -/
structure SuG (x : SuP) (pG : PyData → Bool) : Prop where
  wk : rgB 1 2000 x.wk = true
  p : (∀ y ∈ x.pp, namB y.1 = true ∧ rgB 0 20 y.2 = true) ∧ (x.pp.map (·.1)).Nodup
  s : (∀ y ∈ x.sc, namB y.1 = true ∧ schB x.wk (x.pp.map (·.1)) y.2.1 y.2.2 = true) ∧ (x.sc.map (·.1)).Nodup
  o : (∀ y ∈ x.po, namB y.1 = true ∧ polB (x.sc.map (·.1)) y.2 = true) ∧ (x.po.map (·.1)).Nodup
  w : (∀ y ∈ x.wi, namB y.1 = true ∧ winB x.wk y.2 = true) ∧ (x.wi.map (·.1)).Nodup
  r0 : x.ro ≠ []
  r : ∀ j y, x.ro[j]? = some y → roB (x.wi.map (·.1)) (x.po.map (·.1)) j y = true
  h : ∀ j y, x.ho[j]? = some y → hoB j y = true
  g : cnF pG [] 0 x.gr = none
  n : rgB 1 5 x.rp = true ∧ rgB 0 1000 x.pa = true ∧ rgB 0 20 x.dn = true ∧ (rgB 0 1000 x.s1 && (rgB 1 1000 x.s2 && (rgB 2 10 x.s3 && rgB 0 3 x.s4))) = true ∧ rgB 1 1000 x.lb = true
theorem SuG.ok {x : SuP} {pG : PyData → Bool} {C : Addr} (h : SuG x pG) : suO C x pG = .val .none := by
  have e1 : cnF pPf [] 0 (ppL x) = none := cnF_ok (fun y hy => by
    unfold ppL at hy
    obtain ⟨z, hz, rfl⟩ := List.mem_map.mp hy
    refine ⟨(h.p.1 z hz).1, ?_⟩
    unfold pPf
    rw [liftB_enc (enc := fun y : Pp => enE (ppE y)) ppI]
    exact (h.p.1 z hz).2) (by unfold ppL; rw [List.map_map]; exact h.p.2) fun _ _ => by simp
  have e2 : cnF (pSf x) [] 0 (scL x) = none := cnF_ok (fun y hy => by
    unfold scL at hy
    obtain ⟨z, hz, rfl⟩ := List.mem_map.mp hy
    refine ⟨(h.s.1 z hz).1, ?_⟩
    unfold pSf
    rw [liftB_enc (enc := fun y : Sc => enE (scE y)) scI]
    exact (h.s.1 z hz).2) (by unfold scL; rw [List.map_map]; exact h.s.2) fun _ _ => by simp
  have e3 : cnF (pOf x) [] 0 (poL x) = none := cnF_ok (fun y hy => by
    unfold poL at hy
    obtain ⟨z, hz, rfl⟩ := List.mem_map.mp hy
    refine ⟨(h.o.1 z hz).1, ?_⟩
    unfold pOf
    rw [liftB_enc (enc := fun y : Po => enE (poE y)) poI]
    exact (h.o.1 z hz).2) (by unfold poL; rw [List.map_map]; exact h.o.2) fun _ _ => by simp
  have e4 : cnF (pWf x) [] 0 (wiL x) = none := cnF_ok (fun y hy => by
    unfold wiL at hy
    obtain ⟨z, hz, rfl⟩ := List.mem_map.mp hy
    refine ⟨(h.w.1 z hz).1, ?_⟩
    unfold pWf
    rw [liftB_enc (enc := fun y : Wi => enE (wiE y)) wiI]
    exact (h.w.1 z hz).2) (by unfold wiL; rw [List.map_map]; exact h.w.2) fun _ _ => by simp
  have n1 : (wiL x).map (·.1) = x.wi.map (·.1) := by unfold wiL; rw [List.map_map]; rfl
  have n2 : (poL x).map (·.1) = x.po.map (·.1) := by unfold poL; rw [List.map_map]; rfl
  have e5 : roF (x.wi.map (·.1)) (x.po.map (·.1)) x.ro = none := by
    unfold roF
    rw [if_neg (by cases hr : x.ro with | nil => exact absurd hr h.r0 | cons a b => exact Bool.false_ne_true)]
    exact fB_ok fun j y hy => by rw [Nat.zero_add]; exact h.r j y hy
  have e6 : fB hoB 0 x.ho = none := fB_ok fun j y hy => by rw [Nat.zero_add]; exact h.h j y hy
  obtain ⟨n3, n4, n5, n6, n7⟩ := h.n
  unfold suO cpO alO caO
  rw [n1, n2, e1, e2, e3, e4, e5, e6, h.g, h.wk, n3, n4, n5, n6, n7]
  rfl
/-! ### the drawn setup: layers, schedules, ladders, windows -/
theorem itS_inI {xs : List Str} {k : Int} (h0 : 0 ≤ k) (h1 : k < xs.length) : itS xs k ∈ xs := by
  have := at_str h0 h1
  rw [at_nat h0 (by rw [List.length_map]; omega), List.getElem?_map] at this
  cases e : xs[k.toNat]? with
  | none => rw [e] at this; cases this
  | some x => rw [e] at this; cases this; exact List.mem_of_getElem? e
structure LayF (w : Int) (crew : List Str) (l : Lay) : Prop where
  n0 : 1 ≤ l.ms.length
  n1 : l.ms.length ≤ 3
  ms : ∀ m ∈ l.ms, m ∈ crew
  s0 : 0 ≤ l.st
  s1 : l.st ≤ 12
  h0 : 1 ≤ l.sh
  h1 : l.sh ≤ 9
  z : l.sp.length ≤ 2
  sp : ∀ p ∈ l.sp, 0 ≤ p.1 ∧ p.1 < p.2 ∧ p.2 ≤ w
structure StiF (crew : List Str) (s : Sti) : Prop where
  a : 0 ≤ s.a
  b : s.a < s.b
  c : s.b ≤ 100
  p : s.p ∈ crew
structure ScF (w : Int) (crew : List Str) (x : Sc) : Prop where
  ll : x.2.1.length ≤ 2
  ly : ∀ l ∈ x.2.1, LayF w crew l
  tl : x.2.2.length ≤ 3
  st : ∀ s ∈ x.2.2, StiF crew s
theorem span_ok {w : Int} {p : Int × Int} (h : 0 ≤ p.1 ∧ p.1 < p.2 ∧ p.2 ≤ w) : spanB w p.1 p.2 = true := by
  unfold spanB
  rw [decide_eq_true h.1, decide_eq_true h.2.1, decide_eq_true h.2.2]; rfl
theorem LayF.ok {w : Int} {crew : List Str} {l : Lay} (h : LayF w crew l) : layB w crew l = true := by
  have := h.n0
  have := h.n1
  have := h.s0
  have := h.s1
  have := h.h0
  have := h.h1
  unfold layB LT
  rw [decide_eq_true (show (1 : Int) ≤ (l.ms.length : Nat) by omega), decide_eq_true (show ((l.ms.length : Nat) : Int) ≤ 10 by omega), decide_eq_true (show (0 : Int) ≤ l.st by omega), decide_eq_true (show l.st ≤ 10000 by omega), decide_eq_true (show (1 : Int) ≤ l.sh by omega), decide_eq_true (show l.sh ≤ 1000 by omega)]
  rw [List.all_eq_true.mpr fun m hm => decide_eq_true (h.ms m hm), List.all_eq_true.mpr fun p hp => span_ok (h.sp p hp)]; rfl
theorem StiF.ok {crew : List Str} {s : Sti} (h : StiF crew s) : stiB crew s = true := by
  have := h.c
  unfold stiB LT
  rw [decide_eq_true h.a, decide_eq_true h.b, decide_eq_true (show s.b ≤ 10000 by omega), decide_eq_true h.p]; rfl
theorem ScF.ok {w : Int} {crew : List Str} {x : Sc} (h : ScF w crew x) : schB w crew x.2.1 x.2.2 = true := by
  have := h.ll
  have := h.tl
  unfold schB
  rw [decide_eq_false (show ¬ ((x.2.1.length : Nat) : Int) > 6 by omega), decide_eq_false (show ¬ ((x.2.2.length : Nat) : Int) > 20 by omega), List.all_eq_true.mpr fun l hl => (h.ly l hl).ok, List.all_eq_true.mpr fun s hs => (h.st s hs).ok]; rfl
section
variable {P : Program} {w : World} {K : PySem.W.Frag} {mg : Str → Option Value} {base : Heap} {f : Addr} {fd : FuncData} {Tb : List Addr} {k : Nat}
def A_layer : List PyData → Prop := fun ds => ∃ (D : List Int) (crew : List Str) (w : Int), ds = [iL D, sL crew, .int w] ∧ D.length = 11 ∧ 0 < crew.length ∧ 1 ≤ w
def R_layer : List PyData → PyData → Prop := fun ds d => ∀ (D : List Int) (crew : List Str) (w : Int), ds = [iL D, sL crew, .int w] → ∃ l : Lay, d = layD l ∧ LayF w crew l
theorem ok_layer (Fn : Fun K "_law_layer" "_law_layer" s_l_law_layer f fd) (hm : mg "_law_layer" = some (.ref f)) (hb : Binds K fd ["_law_part", "_law_crew", "_law_days"] []) (Z : Zb mg) :
    Df P w K mg base 1 "_law_layer" ["_law_part", "_law_crew", "_law_days"] (spA K Tb A_layer R_layer) := by
  refine df_A Fn sc_l_law_layer hm hb (fun ds h => by obtain ⟨_, _, _, rfl, _⟩ := h; rfl) fun cdv A outer s H Ek hr => ⟨_, (pss_cons (ps_setLc (i := 3) (own := [("_law_j", 7)]) (by rfl) sc_l_law_layer.nd rfl rfl (sw_true rfl rfl rfl (by decide +kernel)) (pi_range1 (by rfl) Z.range (pa_cons (pe_op (uAddK K) pe_int (pe_op op_mod (pe_callTy uInt (by rfl) Z.int (by decide +kernel) (pa_cons (pe_ix (ix_seqK K) (pv 0) pe_int (fun _ _ => rfl)) pa_nil)) pe_int)) pa_nil)) (blkOk_by (own := [("_law_j", 7)]) (N := N_l_law_layer) (sc := defScope s_l_law_layer) (by decide +kernel)) (fun _ _ _ _ _ => (pg_name (i := 7) sc_l_law_layer.nd rfl (by first | exact .inl rfl | exact .inr rfl))) (fun _ _ _ _ _ => pts_nil) (fun _ _ _ _ _ => (pe_ix (ix_seqK K) (pv 1) (pe_op op_mod (pe_callTy uInt (by rfl) Z.int (by decide +kernel) (pa_cons (pe_ix (ix_seqK K) (pv 0) (pv 7) (fun _ _ => rfl)) pa_nil)) (pe_callB (uLenK K) (by rfl) Z.len (by decide +kernel) (pa_cons (pv 1) pa_nil))) (fun _ _ => rfl))))
      (pss_cons (ps_set (i := 4) sc_l_law_layer.nd rfl (by first | exact .inl rfl | exact .inr rfl) (pe_lst pa_nil))
      (pss_cons (ps_for PassesOwn.never rfl (pi_range1 (by rfl) Z.range (pa_cons (pe_op op_mod (pe_callTy uInt (by rfl) Z.int (by decide +kernel) (pa_cons (pe_ix (ix_seqK K) (pv 0) pe_int (fun _ _ => rfl)) pa_nil)) pe_int) pa_nil)) (pg_name (i := 5) sc_l_law_layer.nd rfl (by first | exact .inl rfl | exact .inr rfl)) (pss_cons (ps_set (i := 6) sc_l_law_layer.nd rfl (by first | exact .inl rfl | exact .inr rfl) (pe_op op_mod (pe_callTy uInt (by rfl) Z.int (by decide +kernel) (pa_cons (pe_ix (ix_seqK K) (pv 0) (pe_op (uAddK K) pe_int (pe_op uMul pe_int (pv 5))) (fun _ _ => rfl)) pa_nil)) (pv 2)))
      (pss_one (ps_expr (pe_bm PySem.F.plainAttrs_list PySem.F.slot_list_append PySem.F.type_list_append mt_append (pv 4) (pa_cons (pe_tup (pa_cons (pv 6) (pa_cons (pe_op (uAddK K) (pe_op (uAddK K) (pv 6) pe_int) (pe_op op_mod (pe_callTy uInt (by rfl) Z.int (by decide +kernel) (pa_cons (pe_ix (ix_seqK K) (pv 0) (pe_op (uAddK K) pe_int (pe_op uMul pe_int (pv 5))) (fun _ _ => rfl)) pa_nil)) (pe_op op_sub (pv 2) (pv 6)))) pa_nil))) pa_nil))))))
      (pss_one (ps_ret (pe_tup (pa_cons (pe_callTy (uTupK K) (by rfl) Z.tuple (by decide +kernel) (pa_cons (pv 3) pa_nil)) (pa_cons (pe_op op_mod (pe_callTy uInt (by rfl) Z.int (by decide +kernel) (pa_cons (pe_ix (ix_seqK K) (pv 0) pe_int (fun _ _ => rfl)) pa_nil)) pe_int) (pa_cons (pe_op (uAddK K) pe_int (pe_op op_mod (pe_callTy uInt (by rfl) Z.int (by decide +kernel) (pa_cons (pe_ix (ix_seqK K) (pv 0) pe_int (fun _ _ => rfl)) pa_nil)) pe_int)) (pa_cons (pe_callTy (uTupK K) (by rfl) Z.tuple (by decide +kernel) (pa_cons (pv 4) pa_nil)) pa_nil)))))))))),  fun ds F0 H0 Q r rt => ?_⟩
  obtain ⟨D, crew, w, rfl, dl, hc, w1⟩ := r
  have at_ : ∀ k : Int, 0 ≤ k → k < 11 → atI (D.map PyData.int) k = some (.int (itI D k)) := fun k h0 h1 => at_int h0 (by omega)
  have l2 : ((crew.map PyData.str).length : Int) = crew.length := by rw [List.length_map]
  have p2 : (0 : Int) < ((crew.map PyData.str).length : Int) := by omega
  have m3 := md (itI D 3) 3 (by decide)
  have m6 := md (itI D 6) 3 (by decide)
  have m4 := md (itI D 4) 13 (by decide)
  have m5 := md (itI D 5) 9 (by decide)
  show S _ _ _ [.fz (iL D), .fz (sL crew), .fz (.int w), .un, .un, .un, .un, .un]
  refine q_asgL (ds := ((List.range (1 + itI D 3 % 3).toNat).map fun k => itS crew (itI D (0 + (k : Nat)) % crew.length)).map .str) ?_ ?_
  · have er : ((List.range (1 + itI D 3 % 3).toNat).map fun k => itS crew (itI D (0 + (k : Nat)) % crew.length)).map PyData.str = (rngD 0 (1 + itI D 3 % 3).toNat).filterMap (fI fun i => .str (itS crew (itI D i % crew.length))) := by rw [fI_rng, List.map_map]; rfl
    rw [er]
    refine el_lc (ix := [7]) _ (fun y => [.fz (iL D), .fz (sL crew), .fz (.int w), .un, .un, .un, .un, .fz y]) (it_rng1 (n := 1 + itI D 3 % 3) (a_cons (e_op e_int (e_op (b_cb (ab_cons (E.b (e_op (e_var rfl) e_int (ix_l (at_ 3 (by decide) (by decide))))) ab_nil) int_i rfl) e_int (mod_i (by decide))) add_i) a_nil) (by omega) (by omega)) (by rw [rngD_len]; omega) (fun F1 d hd => g_name) (by decide) (fun F1 d hd => ?_) fun F1 d hd y hy => ?_
    · obtain ⟨i, hi⟩ := List.getElem?_of_mem hd
      obtain ⟨_, rfl⟩ := rngD_get hi
      exact t_yes
    · obtain ⟨i, hi⟩ := List.getElem?_of_mem hd
      obtain ⟨h1, rfl⟩ := rngD_get hi
      cases hy
      have m := md (itI D (0 + (i : Int))) crew.length (by omega)
      have a7 : atI (crew.map PyData.str) (itI D (0 + (i : Int)) % ((crew.map PyData.str).length : Int)) = some (.str (itS crew (itI D (0 + (i : Int)) % crew.length))) := by rw [l2]; exact at_str m.1 m.2
      exact e_op (e_var rfl) (e_op (b_cb (ab_cons (E.b (e_op (e_var rfl) (e_var rfl) (ix_l (at_ _ (by omega) (by omega))))) ab_nil) int_i rfl) (b_cb (ab_cons (E.b (e_var rfl)) ab_nil) len_l rfl) (mod_i (by omega))) (ix_l a7)
  generalize hms : ((List.range (1 + itI D 3 % 3).toNat).map fun k => itS crew (itI D (0 + (k : Nat)) % crew.length)) = ms
  have k1 : 1 ≤ ms.length ∧ ms.length ≤ 3 := by rw [← hms, List.length_map, List.length_range]; omega
  have k2 : ∀ m ∈ ms, m ∈ crew := fun m hm => by
    rw [← hms] at hm
    obtain ⟨k, _, rfl⟩ := List.mem_map.mp hm
    have m := md (itI D (0 + (k : Nat))) crew.length (by omega)
    exact itS_inI m.1 m.2
  clear hms
  show S _ _ _ [.fz (iL D), .fz (sL crew), .fz (.int w), .ow (ms.map .str), .un, .un, .un, .un]
  refine q_asgL (ds := []) (el_lst a_nil (by decide)) ?_
  refine q_for (α := List (Int × Int)) (fun _ sp => [.fz (iL D), .fz (sL crew), .fz (.int w), .ow (ms.map .str), .ow (sp.map spD2), .un, .un, .un]) (fun i sp => sp.length = i ∧ ∀ p ∈ sp, 0 ≤ p.1 ∧ p.1 < p.2 ∧ p.2 ≤ w) (it_rng1 (n := itI D 6 % 3) (a_cons (e_op (b_cb (ab_cons (E.b (e_op (e_var rfl) e_int (ix_l (at_ 6 (by decide) (by decide))))) ab_nil) int_i rfl) e_int (mod_i (by decide))) a_nil) (by omega) (by omega)) [] ⟨rfl, fun p hp => by cases hp⟩ (Wk.refl _) (fun F1 i sp d hdd hp => ?_) fun sp hp => ?_
  · obtain ⟨hi, rfl⟩ := rngD_get hdd
    obtain ⟨hl, hp⟩ := hp
    have hi : i < 2 := by omega
    refine ⟨_, _, g_name, ?_⟩
    have m1 := md (itI D (7 + 2 * (0 + (i : Nat)))) w (by omega)
    refine q_asg (d := .int (itI D (7 + 2 * (0 + (i : Nat))) % w)) (e_op (b_cb (ab_cons (E.b (e_op (e_var rfl) (e_op e_int (e_op e_int (e_var rfl) (mul_i (.inl ⟨by decide, by decide⟩))) add_i) (ix_l (at_ _ (by omega) (by omega))))) ab_nil) int_i rfl) (e_var rfl) (mod_i (by omega))) ?_
    generalize itI D (7 + 2 * (0 + ((i : Nat) : Int))) % w = fi at m1 ⊢
    have m2 := md (itI D (8 + 2 * (0 + (i : Nat)))) (w - fi) (by omega)
    refine s_app (d := spD2 (fi, fi + 1 + itI D (8 + 2 * (0 + (i : Nat))) % (w - fi))) rfl (e_tup (a_cons (e_var rfl) (a_cons (e_op (e_op (e_var rfl) e_int add_i) (e_op (b_cb (ab_cons (E.b (e_op (e_var rfl) (e_op e_int (e_op e_int (e_var rfl) (mul_i (.inl ⟨by decide, by decide⟩))) add_i) (ix_l (at_ _ (by omega) (by omega))))) ab_nil) int_i rfl) (e_op (e_var rfl) (e_var rfl) sub_i) (mod_i (by omega))) add_i) a_nil)) (Nat.le_of_ble_eq_true rfl)) (by rw [List.length_map]; omega) (n_end (sp ++ [(fi, fi + 1 + itI D (8 + 2 * (0 + (i : Nat))) % (w - fi))]) ⟨by rw [List.length_append, hl]; rfl, fun p h => ?_⟩ ?_)
    · rcases List.mem_append.mp h with h | h
      · exact hp p h
      · rw [List.mem_singleton.mp h]
        refine ⟨m1.1, ?_, ?_⟩
        · show fi < fi + 1 + _; omega
        · show fi + 1 + _ ≤ w; omega
    · refine .keep rfl (.keep rfl (.keep rfl (.keep rfl (.keep ?_ (.drop (.drop (.drop .nil)))))))
      rw [List.map_append]; rfl
  rw [rngD_len] at hp
  obtain ⟨hl, hp⟩ := hp
  refine s_retP (E.p (d := layD ⟨ms, itI D 4 % 13, 1 + itI D 5 % 9, sp⟩) (e_tup (ds := [.tuple (ms.map .str), .int (itI D 4 % 13), .int (1 + itI D 5 % 9), .tuple (sp.map spD2)]) (a_cons (e_tupO rfl) (a_cons (e_op (b_cb (ab_cons (E.b (e_op (e_var rfl) e_int (ix_l (at_ 4 (by decide) (by decide))))) ab_nil) int_i rfl) e_int (mod_i (by decide))) (a_cons (e_op e_int (e_op (b_cb (ab_cons (E.b (e_op (e_var rfl) e_int (ix_l (at_ 5 (by decide) (by decide))))) ab_nil) int_i rfl) e_int (mod_i (by decide))) add_i) (a_cons (e_tupO rfl) a_nil)))) (Nat.le_of_ble_eq_true rfl)) fun D' crew' w' e => ?_) rt
  injection e with e1 e
  injection e with e2 e
  injection e with e3 _
  have e2 : crew = crew' := mapI str_inj _ _ (PyData.list.inj e2)
  cases e3
  subst e2
  refine ⟨_, rfl, k1.1, k1.2, k2, m4.1, ?_, ?_, ?_, ?_, hp⟩
  · show itI D 4 % 13 ≤ 12; omega
  · show 1 ≤ 1 + itI D 5 % 9; omega
  · show 1 + itI D 5 % 9 ≤ 9; omega
  · show sp.length ≤ 2; omega
end
theorem cutA_len {α : Type} (l : List α) (a b : Nat) (h : b ≤ l.length) : (cutA l (some (a : Int)) (some (b : Int))).length = b - a := by
  unfold cutA
  rw [HT.sIx_nat, HT.sIx_nat, List.length_take, List.length_drop]; omega
structure LvF (ti : List Str) (lv : List (Str × Int)) : Prop where
  l1 : 1 ≤ lv.length
  l2 : lv.length ≤ 3
  p : ∀ l ∈ lv, l.1 ∈ ti ∧ 0 ≤ l.2 ∧ l.2 ≤ 8
theorem LvF.ok {ti : List Str} {lv : List (Str × Int)} (h : LvF ti lv) : polB ti lv = true := by
  have := h.l1
  have := h.l2
  unfold polB
  rw [decide_eq_true (show (1 : Int) ≤ (lv.length : Nat) by omega), decide_eq_true (show ((lv.length : Nat) : Int) ≤ 6 by omega), List.all_eq_true.mpr fun l hl => ?_]; rfl
  obtain ⟨a, b, c⟩ := h.p l hl
  rw [decide_eq_true a, decide_eq_true b, decide_eq_true (show l.2 ≤ 1000 by omega)]; rfl
structure ShF (w : Int) (sp : List (Int × Int)) : Prop where
  l1 : 1 ≤ sp.length
  l2 : sp.length ≤ 2
  p : ∀ p ∈ sp, 0 ≤ p.1 ∧ p.1 < p.2 ∧ p.2 ≤ w
theorem ShF.ok {w : Int} {sp : List (Int × Int)} (h : ShF w sp) : winB w sp = true := by
  have := h.l1
  have := h.l2
  unfold winB
  rw [decide_eq_true (show (1 : Int) ≤ (sp.length : Nat) by omega), decide_eq_true (show ((sp.length : Nat) : Int) ≤ 8 by omega), List.all_eq_true.mpr fun p hp => span_ok (h.p p hp)]; rfl
section
variable {P : Program} {w : World} {K : PySem.W.Frag} {mg : Str → Option Value} {base : Heap} {f : Addr} {fd : FuncData} {Tb : List Addr} {k : Nat}
def A_rota : List PyData → Prop := fun ds => ∃ (c : Int) (nm : Str) (crew : List Str) (w : Int), ds = [.int c, .str nm, sL crew, .int w] ∧ 0 < crew.length ∧ 1 ≤ w
def R_rota : List PyData → PyData → Prop := fun ds d => ∀ (c : Int) (nm : Str) (crew : List Str) (w : Int), ds = [.int c, .str nm, sL crew, .int w] → ∃ x : Sc, d = enE (scE x) ∧ x.1 = nm ∧ ScF w crew x
theorem ok_rota (Fn : Fun K "_law_rota" "_law_rota" s_l_law_rota f fd) (hm : mg "_law_rota" = some (.ref f)) (hb : Binds K fd ["_law_cell_here", "_law_name", "_law_crew", "_law_days"] []) (Z : Zb mg)
    (D_l_law_draws : Df P w K mg base 1 "_law_draws" ["_law_cell_here", "_law_many"] (spD K Tb R_draws))
    (D_l_law_layer : Df P w K mg base 1 "_law_layer" ["_law_part", "_law_crew", "_law_days"] (spA K Tb A_layer R_layer)) :
    Df P w K mg base 2 "_law_rota" ["_law_cell_here", "_law_name", "_law_crew", "_law_days"] (spA K Tb A_rota R_rota) := by
  refine df_A Fn sc_l_law_rota hm hb (fun ds h => by obtain ⟨_, _, _, _, rfl, _⟩ := h; rfl) fun cdv A outer s H Ek hr => ⟨_, (pss_cons (ps_set (i := 4) sc_l_law_rota.nd rfl (by first | exact .inl rfl | exact .inr rfl) (pe_df D_l_law_draws hr (by first | decide | exact Nat.le_refl _ | omega) (by rfl) (pa_cons (pv 0) (pa_cons pe_int pa_nil))))
      (pss_cons (ps_set (i := 5) sc_l_law_rota.nd rfl (by first | exact .inl rfl | exact .inr rfl) (pe_lst pa_nil))
      (pss_cons (ps_for PassesOwn.never rfl (pi_range1 (by rfl) Z.range (pa_cons (pe_op (uAddK K) (pe_callTy uInt (by rfl) Z.int (by decide +kernel) (pa_cons (pe_cmpR op_gt (pe_op op_mod (pe_ix (ix_seqK K) (pv 4) pe_int (fun _ _ => rfl)) pe_int) pe_int (nomark _)) pa_nil)) (pe_callTy uInt (by rfl) Z.int (by decide +kernel) (pa_cons (pe_cmpR (uEqK K hr.units) (pe_op op_mod (pe_ix (ix_seqK K) (pv 4) pe_int (fun _ _ => rfl)) pe_int) pe_int (nomark _)) pa_nil))) pa_nil)) (pg_name (i := 6) sc_l_law_rota.nd rfl (by first | exact .inl rfl | exact .inr rfl)) (pss_one (ps_expr (pe_bm PySem.F.plainAttrs_list PySem.F.slot_list_append PySem.F.type_list_append mt_append (pv 5) (pa_cons (pe_df D_l_law_layer hr (by first | decide | exact Nat.le_refl _ | omega) (by rfl) (pa_cons (pe_slice (uSlK K) (pv 4) (po_some (pe_op (uAddK K) pe_int (pe_op uMul pe_int (pv 6)))) (po_some (pe_op (uAddK K) pe_int (pe_op uMul pe_int (pv 6))))) (pa_cons (pv 2) (pa_cons (pv 3) pa_nil)))) pa_nil)))))
      (pss_cons (ps_set (i := 7) sc_l_law_rota.nd rfl (by first | exact .inl rfl | exact .inr rfl) (pe_lst pa_nil))
      (pss_cons (ps_for PassesOwn.never rfl (pi_range1 (by rfl) Z.range (pa_cons (pe_op op_mod (pe_callTy uInt (by rfl) Z.int (by decide +kernel) (pa_cons (pe_ix (ix_seqK K) (pv 4) pe_int (fun _ _ => rfl)) pa_nil)) pe_int) pa_nil)) (pg_name (i := 6) sc_l_law_rota.nd rfl (by first | exact .inl rfl | exact .inr rfl)) (pss_cons (ps_set (i := 8) sc_l_law_rota.nd rfl (by first | exact .inl rfl | exact .inr rfl) (pe_op op_mod (pe_callTy uInt (by rfl) Z.int (by decide +kernel) (pa_cons (pe_ix (ix_seqK K) (pv 4) (pe_op (uAddK K) pe_int (pe_op uMul pe_int (pv 6))) (fun _ _ => rfl)) pa_nil)) pe_int))
      (pss_one (ps_expr (pe_bm PySem.F.plainAttrs_list PySem.F.slot_list_append PySem.F.type_list_append mt_append (pv 7) (pa_cons (pe_tup (pa_cons (pv 8) (pa_cons (pe_op (uAddK K) (pe_op (uAddK K) (pv 8) pe_int) (pe_op op_mod (pe_callTy uInt (by rfl) Z.int (by decide +kernel) (pa_cons (pe_ix (ix_seqK K) (pv 4) (pe_op (uAddK K) pe_int (pe_op uMul pe_int (pv 6))) (fun _ _ => rfl)) pa_nil)) pe_int)) (pa_cons (pe_ix (ix_seqK K) (pv 2) (pe_op op_mod (pe_callTy uInt (by rfl) Z.int (by decide +kernel) (pa_cons (pe_ix (ix_seqK K) (pv 4) (pe_op (uAddK K) pe_int (pe_op uMul pe_int (pv 6))) (fun _ _ => rfl)) pa_nil)) (pe_callB (uLenK K) (by rfl) Z.len (by decide +kernel) (pa_cons (pv 2) pa_nil))) (fun _ _ => rfl)) pa_nil)))) pa_nil))))))
      (pss_one (ps_ret (pe_tup (pa_cons (pv 1) (pa_cons (pe_callTy (uTupK K) (by rfl) Z.tuple (by decide +kernel) (pa_cons (pv 5) pa_nil)) (pa_cons (pe_callTy (uTupK K) (by rfl) Z.tuple (by decide +kernel) (pa_cons (pv 7) pa_nil)) pa_nil))))))))))),  fun ds F0 H0 Q r rt => ?_⟩
  obtain ⟨c, nm, crew, w, rfl, hc, w1⟩ := r
  have dl := draws_len c 40
  have l2 : ((crew.map PyData.str).length : Int) = crew.length := by rw [List.length_map]
  have p2 : (0 : Int) < ((crew.map PyData.str).length : Int) := by omega
  show S _ _ _ [.fz (.int c), .fz (.str nm), .fz (sL crew), .fz (.int w), .un, .un, .un, .un, .un]
  refine q_asg (d := iL (draws c 40)) (e_call (ds := [.int c, .int 40]) (a_cons (e_var rfl) (a_cons e_int a_nil)) ⟨_, 40, rfl, by decide, rfl⟩) ?_
  generalize draws c 40 = D at dl ⊢
  have at_ : ∀ k : Int, 0 ≤ k → k < 40 → atI (D.map PyData.int) k = some (.int (itI D k)) := fun k h0 h1 => at_int h0 (by omega)
  have m1 := md (itI D 1) 4 (by decide)
  refine q_asgL (ds := []) (el_lst a_nil (by decide)) ?_
  show S _ _ _ [.fz (.int c), .fz (.str nm), .fz (sL crew), .fz (.int w), .fz (iL D), .ow [], .un, .un, .un]
  generalize hn1 : (if decide (itI D 0 % 8 > 0) = true then (1 : Int) else 0) = n1
  generalize hn2 : (if decide (itI D 0 % 3 = 1) = true then (1 : Int) else 0) = n2
  have b1 : 0 ≤ n1 ∧ n1 ≤ 1 := by rw [← hn1]; split <;> decide
  have b2 : 0 ≤ n2 ∧ n2 ≤ 1 := by rw [← hn2]; split <;> decide
  refine q_for (α := List Lay) (fun _ ls => [.fz (.int c), .fz (.str nm), .fz (sL crew), .fz (.int w), .fz (iL D), .ow (ls.map layD), .un, .un, .un]) (fun i ls => ls.length = i ∧ ∀ l ∈ ls, LayF w crew l) (it_rng1 (n := n1 + n2) (a_cons (e_op (by rw [← hn1]; exact b_cb (ab_cons (E.b (b_op (E.b (e_op (e_op (e_var rfl) e_int (ix_l (at_ 0 (by decide) (by decide)))) e_int (mod_i (by decide)))) (E.b e_int) gt_i rfl)) ab_nil) int_bl rfl) (by rw [← hn2]; exact b_cb (ab_cons (E.b (b_op (E.b (e_op (e_op (e_var rfl) e_int (ix_l (at_ 0 (by decide) (by decide)))) e_int (mod_i (by decide)))) (E.b e_int) eq_i rfl)) ab_nil) int_bl rfl) add_i) a_nil) (by omega) (by omega)) [] ⟨rfl, fun l hl => by cases hl⟩ (Wk.refl _) (fun F1 i ls d hdd hp => ?_) fun ls hp => ?_
  · obtain ⟨hi, rfl⟩ := rngD_get hdd
    obtain ⟨hl, hp⟩ := hp
    have hi : i < 2 := by omega
    refine ⟨_, _, g_name, ?_⟩
    have e1 : (2 + 11 * (0 + (i : Nat)) : Int) = ((2 + 11 * i : Nat) : Int) := by omega
    have e2 : (13 + 11 * (0 + (i : Nat)) : Int) = ((13 + 11 * i : Nat) : Int) := by omega
    have lc : (cutA D (some (2 + 11 * (0 + (i : Nat)))) (some (13 + 11 * (0 + (i : Nat))))).length = 11 := by rw [e1, e2, cutA_len _ _ _ (by omega)]; omega
    refine s_appP (P := R_layer [iL (cutA D (some (2 + 11 * (0 + (i : Nat)))) (some (13 + 11 * (0 + (i : Nat))))), sL crew, .int w]) rfl (p_call (Ad := A_layer) (R := R_layer) (a_cons (by
        show E _ _ _ (.list ((cutA D (some (2 + 11 * (0 + (i : Nat)))) (some (13 + 11 * (0 + (i : Nat))))).map .int))
        rw [← cut_map]
        exact EL.e (el_sl (e_var rfl) (o_some (e_op e_int (e_op e_int (e_var rfl) (mul_i (.inl ⟨by decide, by decide⟩))) add_i)) (o_some (e_op e_int (e_op e_int (e_var rfl) (mul_i (.inl ⟨by decide, by decide⟩))) add_i)))) (a_cons (e_var rfl) (a_cons (e_var rfl) a_nil))) ⟨_, crew, w, rfl, lc, hc, w1⟩) (by rw [List.length_map]; omega) fun d hd => ?_
    obtain ⟨l, rfl, hlf⟩ := hd _ _ _ rfl
    refine n_end (ls ++ [l]) ⟨by rw [List.length_append, hl]; rfl, fun y h => ?_⟩ ?_
    · rcases List.mem_append.mp h with h | h
      · exact hp y h
      · rw [List.mem_singleton.mp h]; exact hlf
    · refine .keep rfl (.keep rfl (.keep rfl (.keep rfl (.keep rfl (.keep ?_ (.drop (.drop (.drop .nil))))))))
      rw [List.map_append]; rfl
  rw [rngD_len] at hp
  obtain ⟨hll, hly⟩ := hp
  refine q_asgL (ds := []) (el_lst a_nil (by decide)) ?_
  show S _ _ _ [.fz (.int c), .fz (.str nm), .fz (sL crew), .fz (.int w), .fz (iL D), .ow (ls.map layD), .un, .ow [], .un]
  refine q_for (α := List Sti) (fun _ ss => [.fz (.int c), .fz (.str nm), .fz (sL crew), .fz (.int w), .fz (iL D), .ow (ls.map layD), .un, .ow (ss.map stiD), .un]) (fun i ss => ss.length = i ∧ ∀ l ∈ ss, StiF crew l) (it_rng1 (n := itI D 1 % 4) (a_cons (e_op (b_cb (ab_cons (E.b (e_op (e_var rfl) e_int (ix_l (at_ 1 (by decide) (by decide))))) ab_nil) int_i rfl) e_int (mod_i (by decide))) a_nil) (by omega) (by omega)) [] ⟨rfl, fun l hl => by cases hl⟩ (Wk.refl _) (fun F1 i ss d hdd hp => ?_) fun ss hp => ?_
  · obtain ⟨hi, rfl⟩ := rngD_get hdd
    obtain ⟨hl, hp⟩ := hp
    have hi : i < 3 := by omega
    refine ⟨_, _, g_name, ?_⟩
    have ix : ∀ {g' : Gd} {G : List Sl} (z : Int), 0 ≤ z → z ≤ 30 → G[4]? = some (.fz (iL D)) → G[6]? = some (.fz (.int (0 + (i : Nat)))) → E g' (tOp (rIx g'.K) (tVar 4) (tOp (rAddU g'.K) (tC (.int z)) (tOp rMulU (tC (.int 3)) (tVar 6)))) G (.int (itI D (z + 3 * (0 + (i : Nat))))) := fun z h0 h1 h2 h3 => e_op (e_var h2) (e_op e_int (e_op e_int (e_var h3) (mul_i (.inl ⟨by decide, by decide⟩))) add_i) (ix_l (at_ _ (by omega) (by omega)))
    have m30 := md (itI D (24 + 3 * (0 + (i : Nat)))) 30 (by decide)
    have m12 := md (itI D (25 + 3 * (0 + (i : Nat)))) 12 (by decide)
    have mc := md (itI D (26 + 3 * (0 + (i : Nat)))) crew.length (by omega)
    refine q_asg (d := .int (itI D (24 + 3 * (0 + (i : Nat))) % 30)) (e_op (b_cb (ab_cons (E.b (ix 24 (by decide) (by decide) rfl rfl)) ab_nil) int_i rfl) e_int (mod_i (by decide))) ?_
    generalize itI D (24 + 3 * (0 + ((i : Nat) : Int))) % 30 = fi at m30 ⊢
    have a7 : atI (crew.map PyData.str) (itI D (26 + 3 * (0 + (i : Nat))) % ((crew.map PyData.str).length : Int)) = some (.str (itS crew (itI D (26 + 3 * (0 + (i : Nat))) % crew.length))) := by rw [l2]; exact at_str mc.1 mc.2
    refine s_app (d := stiD ⟨fi, fi + 1 + itI D (25 + 3 * (0 + (i : Nat))) % 12, itS crew (itI D (26 + 3 * (0 + (i : Nat))) % crew.length)⟩) rfl (e_tup (ds := [.int fi, .int (fi + 1 + itI D (25 + 3 * (0 + (i : Nat))) % 12), .str (itS crew (itI D (26 + 3 * (0 + (i : Nat))) % crew.length))]) (a_cons (e_var rfl) (a_cons (e_op (e_op (e_var rfl) e_int add_i) (e_op (b_cb (ab_cons (E.b (ix 25 (by decide) (by decide) rfl rfl)) ab_nil) int_i rfl) e_int (mod_i (by decide))) add_i) (a_cons (e_op (e_var rfl) (e_op (b_cb (ab_cons (E.b (ix 26 (by decide) (by decide) rfl rfl)) ab_nil) int_i rfl) (b_cb (ab_cons (E.b (e_var rfl)) ab_nil) len_l rfl) (mod_i (by omega))) (ix_l a7)) a_nil))) (Nat.le_of_ble_eq_true rfl)) (by rw [List.length_map]; omega) (n_end (ss ++ [⟨fi, fi + 1 + itI D (25 + 3 * (0 + (i : Nat))) % 12, itS crew (itI D (26 + 3 * (0 + (i : Nat))) % crew.length)⟩]) ⟨by rw [List.length_append, hl]; rfl, fun y h => ?_⟩ ?_)
    · rcases List.mem_append.mp h with h | h
      · exact hp y h
      · rw [List.mem_singleton.mp h]
        refine ⟨m30.1, ?_, ?_, itS_inI mc.1 mc.2⟩
        · show fi < fi + 1 + _; omega
        · show fi + 1 + _ ≤ 100; omega
    · refine .keep rfl (.keep rfl (.keep rfl (.keep rfl (.keep rfl (.keep rfl (.drop (.keep ?_ (.drop .nil))))))))
      rw [List.map_append]; rfl
  rw [rngD_len] at hp
  obtain ⟨hsl, hst⟩ := hp
  refine s_retP (E.p (d := enE (scE (nm, ls, ss))) (e_tup (ds := [.str nm, .tuple (ls.map layD), .tuple (ss.map stiD)]) (a_cons (e_var rfl) (a_cons (e_tupO rfl) (a_cons (e_tupO rfl) a_nil))) (Nat.le_of_ble_eq_true rfl)) fun c' nm' crew' w' e => ?_) rt
  injection e with e0 e
  injection e with e1 e
  injection e with e2 e
  injection e with e3 _
  have e2 : crew = crew' := mapI str_inj _ _ (PyData.list.inj e2)
  cases e1
  cases e3
  subst e2
  exact ⟨_, rfl, rfl, by show ls.length ≤ 2; omega, hly, by show ss.length ≤ 3; omega, hst⟩
def A_lad : List PyData → Prop := fun ds => ∃ (D : List Int) (nm : Str) (ti : List Str), ds = [iL D, .str nm, sL ti] ∧ D.length = 8 ∧ 0 < ti.length
def R_lad : List PyData → PyData → Prop := fun ds d => ∀ (D : List Int) (nm : Str) (ti : List Str), ds = [iL D, .str nm, sL ti] → ∃ lv, d = enE (poE (nm, lv)) ∧ LvF ti lv
theorem ok_lad (Fn : Fun K "_law_ladder" "_law_ladder" s_l_law_ladder f fd) (hm : mg "_law_ladder" = some (.ref f)) (hb : Binds K fd ["_law_draws_here", "_law_name", "_law_titles"] []) (Z : Zb mg) :
    Df P w K mg base 1 "_law_ladder" ["_law_draws_here", "_law_name", "_law_titles"] (spA K Tb A_lad R_lad) := by
  refine df_A Fn sc_l_law_ladder hm hb (fun ds h => by obtain ⟨_, _, _, rfl, _⟩ := h; rfl) fun cdv A outer s H Ek hr => ⟨_, (pss_cons (ps_set (i := 3) sc_l_law_ladder.nd rfl (by first | exact .inl rfl | exact .inr rfl) (pe_lst pa_nil))
      (pss_cons (ps_for PassesOwn.never rfl (pi_range1 (by rfl) Z.range (pa_cons (pe_op (uAddK K) pe_int (pe_op op_mod (pe_callTy uInt (by rfl) Z.int (by decide +kernel) (pa_cons (pe_ix (ix_seqK K) (pv 0) pe_int (fun _ _ => rfl)) pa_nil)) pe_int)) pa_nil)) (pg_name (i := 4) sc_l_law_ladder.nd rfl (by first | exact .inl rfl | exact .inr rfl)) (pss_one (ps_expr (pe_bm PySem.F.plainAttrs_list PySem.F.slot_list_append PySem.F.type_list_append mt_append (pv 3) (pa_cons (pe_tup (pa_cons (pe_ix (ix_seqK K) (pv 2) (pe_op op_mod (pe_callTy uInt (by rfl) Z.int (by decide +kernel) (pa_cons (pe_ix (ix_seqK K) (pv 0) (pe_op (uAddK K) pe_int (pe_op uMul pe_int (pv 4))) (fun _ _ => rfl)) pa_nil)) (pe_callB (uLenK K) (by rfl) Z.len (by decide +kernel) (pa_cons (pv 2) pa_nil))) (fun _ _ => rfl)) (pa_cons (pe_op op_mod (pe_callTy uInt (by rfl) Z.int (by decide +kernel) (pa_cons (pe_ix (ix_seqK K) (pv 0) (pe_op (uAddK K) pe_int (pe_op uMul pe_int (pv 4))) (fun _ _ => rfl)) pa_nil)) pe_int) pa_nil))) pa_nil)))))
      (pss_one (ps_ret (pe_tup (pa_cons (pv 1) (pa_cons (pe_callTy (uTupK K) (by rfl) Z.tuple (by decide +kernel) (pa_cons (pv 3) pa_nil)) pa_nil))))))),  fun ds F0 H0 Q r rt => ?_⟩
  obtain ⟨D, nm, ti, rfl, dl, tn⟩ := r
  have tl : (((ti.map PyData.str).length : Nat) : Int) = ((ti.length : Nat) : Int) := by rw [List.length_map]
  have at_ : ∀ k : Int, 0 ≤ k → k < 8 → atI (D.map PyData.int) k = some (.int (itI D k)) := fun k h0 h1 => at_int h0 (by omega)
  have m0 := md (itI D 0) 3 (by decide)
  show S _ _ _ [.fz (iL D), .fz (.str nm), .fz (sL ti), .un, .un]
  refine q_asgL (ds := []) (el_lst a_nil (by decide)) ?_
  refine q_for (α := List (Str × Int)) (fun _ lv => [.fz (iL D), .fz (.str nm), .fz (sL ti), .ow (lv.map lvD), .un]) (fun i lv => lv.length = i ∧ ∀ l ∈ lv, l.1 ∈ ti ∧ 0 ≤ l.2 ∧ l.2 ≤ 8) (it_rng1 (n := 1 + itI D 0 % 3) (a_cons (e_op e_int (e_op (b_cb (ab_cons (E.b (e_op (e_var rfl) e_int (ix_l (at_ 0 (by decide) (by decide))))) ab_nil) int_i rfl) e_int (mod_i (by decide))) add_i) a_nil) (by omega) (by omega)) [] ⟨rfl, fun p hp => by cases hp⟩ (Wk.refl _) (fun F1 i lv d hdd hp => ?_) fun lv hp => ?_
  · obtain ⟨hi, rfl⟩ := rngD_get hdd
    have hi : i < 3 := by omega
    obtain ⟨hl, hp⟩ := hp
    refine ⟨_, _, g_name, ?_⟩
    have m9 := md (itI D (2 + 2 * (0 + (i : Nat)))) 9 (by decide)
    have mt := md (itI D (1 + 2 * (0 + (i : Nat)))) (((ti.map PyData.str).length : Nat) : Int) (by omega)
    have ix : ∀ {g' : Gd} {G : List Sl} (z : Int), 0 ≤ z → z ≤ 2 → G[0]? = some (.fz (iL D)) → G[4]? = some (.fz (.int (0 + (i : Nat)))) → E g' (tOp (rIx g'.K) (tVar 0) (tOp (rAddU g'.K) (tC (.int z)) (tOp rMulU (tC (.int 2)) (tVar 4)))) G (.int (itI D (z + 2 * (0 + (i : Nat))))) := fun z h0 h1 h2 h3 => e_op (e_var h2) (e_op e_int (e_op e_int (e_var h3) (mul_i (.inl ⟨by decide, by decide⟩))) add_i) (ix_l (at_ _ (by omega) (by omega)))
    have a7 : atI (ti.map PyData.str) (itI D (1 + 2 * (0 + (i : Nat))) % (((ti.map PyData.str).length : Nat) : Int)) = some (.str (itS ti (itI D (1 + 2 * (0 + (i : Nat))) % (((ti.map PyData.str).length : Nat) : Int)))) := at_str mt.1 (by rw [← tl]; exact mt.2)
    refine s_app (d := lvD (itS ti (itI D (1 + 2 * (0 + (i : Nat))) % (((ti.map PyData.str).length : Nat) : Int)), itI D (2 + 2 * (0 + (i : Nat))) % 9)) rfl (e_tup (a_cons (e_op (e_var rfl) (e_op (b_cb (ab_cons (E.b (ix 1 (by decide) (by decide) rfl rfl)) ab_nil) int_i rfl) (b_cb (ab_cons (E.b (e_var rfl)) ab_nil) len_l rfl) (mod_i (by omega))) (ix_l a7)) (a_cons (e_op (b_cb (ab_cons (E.b (ix 2 (by decide) (by decide) rfl rfl)) ab_nil) int_i rfl) e_int (mod_i (by decide))) a_nil)) (Nat.le_of_ble_eq_true rfl)) (by rw [List.length_map]; omega) (n_end (lv ++ [(itS ti (itI D (1 + 2 * (0 + (i : Nat))) % (((ti.map PyData.str).length : Nat) : Int)), itI D (2 + 2 * (0 + (i : Nat))) % 9)]) ⟨by rw [List.length_append, hl]; rfl, fun l h => ?_⟩ ?_)
    · rcases List.mem_append.mp h with h | h
      · exact hp l h
      · rw [List.mem_singleton.mp h]
        exact ⟨itS_inI mt.1 (by rw [← tl]; exact mt.2), m9.1, by show _ % 9 ≤ 8; omega⟩
    · refine .keep rfl (.keep rfl (.keep rfl (.keep ?_ (.drop .nil))))
      rw [List.map_append]; rfl
  rw [rngD_len] at hp
  obtain ⟨hl, hp⟩ := hp
  refine s_retP (E.p (d := enE (poE (nm, lv))) (e_tup (ds := [.str nm, .tuple (lv.map lvD)]) (a_cons (e_var rfl) (a_cons (e_tupO rfl) a_nil)) (Nat.le_of_ble_eq_true rfl)) fun c' nm' ti' e => ?_) rt
  injection e with e1 e
  injection e with e2 e
  injection e with e3 _
  have e3 : ti = ti' := mapI str_inj _ _ (PyData.list.inj e3)
  cases e2
  subst e3
  exact ⟨lv, rfl, by omega, by omega, hp⟩
def A_shu : List PyData → Prop := fun ds => ∃ (D : List Int) (nm : Str) (w : Int), ds = [iL D, .str nm, .int w] ∧ D.length = 6 ∧ 1 ≤ w
def R_shu : List PyData → PyData → Prop := fun ds d => ∀ (D : List Int) (nm : Str) (w : Int), ds = [iL D, .str nm, .int w] → ∃ sp, d = enE (wiE (nm, sp)) ∧ ShF w sp
theorem ok_shu (Fn : Fun K "_law_shutter" "_law_shutter" s_l_law_shutter f fd) (hm : mg "_law_shutter" = some (.ref f)) (hb : Binds K fd ["_law_draws_here", "_law_name", "_law_days"] []) (Z : Zb mg) :
    Df P w K mg base 1 "_law_shutter" ["_law_draws_here", "_law_name", "_law_days"] (spA K Tb A_shu R_shu) := by
  refine df_A Fn sc_l_law_shutter hm hb (fun ds h => by obtain ⟨_, _, _, rfl, _⟩ := h; rfl) fun cdv A outer s H Ek hr => ⟨_, (pss_cons (ps_set (i := 3) sc_l_law_shutter.nd rfl (by first | exact .inl rfl | exact .inr rfl) (pe_lst pa_nil))
      (pss_cons (ps_for PassesOwn.never rfl (pi_range1 (by rfl) Z.range (pa_cons (pe_op (uAddK K) pe_int (pe_op op_mod (pe_callTy uInt (by rfl) Z.int (by decide +kernel) (pa_cons (pe_ix (ix_seqK K) (pv 0) pe_int (fun _ _ => rfl)) pa_nil)) pe_int)) pa_nil)) (pg_name (i := 4) sc_l_law_shutter.nd rfl (by first | exact .inl rfl | exact .inr rfl)) (pss_cons (ps_set (i := 5) sc_l_law_shutter.nd rfl (by first | exact .inl rfl | exact .inr rfl) (pe_op op_mod (pe_callTy uInt (by rfl) Z.int (by decide +kernel) (pa_cons (pe_ix (ix_seqK K) (pv 0) (pe_op (uAddK K) pe_int (pe_op uMul pe_int (pv 4))) (fun _ _ => rfl)) pa_nil)) (pv 2)))
      (pss_one (ps_expr (pe_bm PySem.F.plainAttrs_list PySem.F.slot_list_append PySem.F.type_list_append mt_append (pv 3) (pa_cons (pe_tup (pa_cons (pv 5) (pa_cons (pe_op (uAddK K) (pe_op (uAddK K) (pv 5) pe_int) (pe_op op_mod (pe_callTy uInt (by rfl) Z.int (by decide +kernel) (pa_cons (pe_ix (ix_seqK K) (pv 0) (pe_op (uAddK K) pe_int (pe_op uMul pe_int (pv 4))) (fun _ _ => rfl)) pa_nil)) (pe_op op_sub (pv 2) (pv 5)))) pa_nil))) pa_nil))))))
      (pss_one (ps_ret (pe_tup (pa_cons (pv 1) (pa_cons (pe_callTy (uTupK K) (by rfl) Z.tuple (by decide +kernel) (pa_cons (pv 3) pa_nil)) pa_nil))))))),  fun ds F0 H0 Q r rt => ?_⟩
  obtain ⟨D, nm, w, rfl, dl, w1⟩ := r
  have at_ : ∀ k : Int, 0 ≤ k → k < 6 → atI (D.map PyData.int) k = some (.int (itI D k)) := fun k h0 h1 => at_int h0 (by omega)
  have m0 := md (itI D 0) 2 (by decide)
  show S _ _ _ [.fz (iL D), .fz (.str nm), .fz (.int w), .un, .un, .un]
  refine q_asgL (ds := []) (el_lst a_nil (by decide)) ?_
  refine q_for (α := List (Int × Int)) (fun _ sp => [.fz (iL D), .fz (.str nm), .fz (.int w), .ow (sp.map spD2), .un, .un]) (fun i sp => sp.length = i ∧ ∀ p ∈ sp, 0 ≤ p.1 ∧ p.1 < p.2 ∧ p.2 ≤ w) (it_rng1 (n := 1 + itI D 0 % 2) (a_cons (e_op e_int (e_op (b_cb (ab_cons (E.b (e_op (e_var rfl) e_int (ix_l (at_ 0 (by decide) (by decide))))) ab_nil) int_i rfl) e_int (mod_i (by decide))) add_i) a_nil) (by omega) (by omega)) [] ⟨rfl, fun p hp => by cases hp⟩ (Wk.refl _) (fun F1 i sp d hdd hp => ?_) fun sp hp => ?_
  · obtain ⟨hi, rfl⟩ := rngD_get hdd
    obtain ⟨hl, hp⟩ := hp
    have hi : i < 2 := by omega
    refine ⟨_, _, g_name, ?_⟩
    have m1 := md (itI D (1 + 2 * (0 + (i : Nat)))) w (by omega)
    refine q_asg (d := .int (itI D (1 + 2 * (0 + (i : Nat))) % w)) (e_op (b_cb (ab_cons (E.b (e_op (e_var rfl) (e_op e_int (e_op e_int (e_var rfl) (mul_i (.inl ⟨by decide, by decide⟩))) add_i) (ix_l (at_ _ (by omega) (by omega))))) ab_nil) int_i rfl) (e_var rfl) (mod_i (by omega))) ?_
    generalize itI D (1 + 2 * (0 + ((i : Nat) : Int))) % w = fi at m1 ⊢
    have m2 := md (itI D (2 + 2 * (0 + (i : Nat)))) (w - fi) (by omega)
    refine s_app (d := spD2 (fi, fi + 1 + itI D (2 + 2 * (0 + (i : Nat))) % (w - fi))) rfl (e_tup (a_cons (e_var rfl) (a_cons (e_op (e_op (e_var rfl) e_int add_i) (e_op (b_cb (ab_cons (E.b (e_op (e_var rfl) (e_op e_int (e_op e_int (e_var rfl) (mul_i (.inl ⟨by decide, by decide⟩))) add_i) (ix_l (at_ _ (by omega) (by omega))))) ab_nil) int_i rfl) (e_op (e_var rfl) (e_var rfl) sub_i) (mod_i (by omega))) add_i) a_nil)) (Nat.le_of_ble_eq_true rfl)) (by rw [List.length_map]; omega) (n_end (sp ++ [(fi, fi + 1 + itI D (2 + 2 * (0 + (i : Nat))) % (w - fi))]) ⟨by rw [List.length_append, hl]; rfl, fun p h => ?_⟩ ?_)
    · rcases List.mem_append.mp h with h | h
      · exact hp p h
      · rw [List.mem_singleton.mp h]
        refine ⟨m1.1, ?_, ?_⟩
        · show fi < fi + 1 + _; omega
        · show fi + 1 + _ ≤ w; omega
    · refine .keep rfl (.keep rfl (.keep rfl (.keep ?_ (.drop (.drop .nil)))))
      rw [List.map_append]; rfl
  rw [rngD_len] at hp
  obtain ⟨hl, hp⟩ := hp
  refine s_retP (E.p (d := enE (wiE (nm, sp))) (e_tup (ds := [.str nm, .tuple (sp.map spD2)]) (a_cons (e_var rfl) (a_cons (e_tupO rfl) a_nil)) (Nat.le_of_ble_eq_true rfl)) fun c' nm' w' e => ?_) rt
  injection e with e1 e
  injection e with e2 e
  injection e with e3 _
  cases e2; cases e3
  exact ⟨sp, rfl, by omega, by omega, hp⟩
end
/-! ### matchers, routes, holdbacks of the drawn setup -/
def toMt (m : WL.Mt) : Mt := ⟨m.1, m.2.1, m.2.2⟩
def toRo (r : WL.Rou) : Rou := ⟨r.1, r.2.1.map toMt, ⟨r.2.2.1, r.2.2.2.1, r.2.2.2.2.1, r.2.2.2.2.2.1, r.2.2.2.2.2.2.1, r.2.2.2.2.2.2.2⟩⟩
theorem toRo_D (r : WL.Rou) : rouD (toRo r) = WL.rtD r := by
  unfold rouD toRo
  rw [List.map_map]; rfl
structure MtF (ns ws : List Str) (m : Mt) : Prop where
  nm : m.nm ∈ ns
  l1 : 1 ≤ m.vs.length
  l2 : m.vs.length ≤ 2
  vs : ∀ v ∈ m.vs, v ∈ ws ∨ v = ""
theorem mkMt_F (a b : Int) {ns ws : List Str} (hn : 0 < ns.length) : MtF ns ws (toMt (mkMt a b ns ws)) := by
  have hp : 0 < (ws ++ [("" : Str)]).length := by rw [List.length_append]; show 0 < _ + 1; omega
  have key : ∀ z : Int, itS (ws ++ [("" : Str)]) (z % ((ws ++ [("" : Str)]).length : Nat)) ∈ ws ++ [("" : Str)] := fun z => by
    have m := md z ((ws ++ [("" : Str)]).length : Nat) (by omega)
    exact itS_inI m.1 m.2
  have key2 : ∀ z : Int, itS (ws ++ [("" : Str)]) (z % ((ws ++ [("" : Str)]).length : Nat)) ∈ ws ∨ itS (ws ++ [("" : Str)]) (z % ((ws ++ [("" : Str)]).length : Nat)) = "" := fun z => by
    rcases List.mem_append.mp (key z) with h | h
    · exact .inl h
    · exact .inr (List.mem_singleton.mp h)
  refine ⟨?_, ?_, ?_, fun v hv => ?_⟩
  · have m := md a (ns.length : Nat) (by omega)
    exact itS_inI m.1 m.2
  · show 1 ≤ (mkV a b _).length
    unfold mkV; rw [List.length_append]; show 1 ≤ 1 + _; omega
  · show (mkV a b _).length ≤ 2
    unfold mkV; rw [List.length_append]; split
    · exact Nat.le_refl _
    · show 1 ≤ 2; omega
  · have hv : v ∈ mkV a b (ws ++ [("" : Str)]) := hv
    unfold mkV at hv
    rcases List.mem_append.mp hv with hv | hv
    · rw [List.mem_singleton.mp hv]; exact key2 _
    · split at hv
      · rw [List.mem_singleton.mp hv]; exact key2 _
      · cases hv
structure RouF (ns ws la sh : List Str) (j : Nat) (r : Rou) : Prop where
  p0 : j = 0 → r.pa = none ∧ r.ms = []
  p1 : 0 < j → ∃ p : Int, r.pa = some p ∧ 0 ≤ p ∧ p < (j : Int)
  ml : r.ms.length ≤ 2
  ms : ∀ m ∈ r.ms, MtF ns ws m
  gl : r.st.gr.length ≤ 2
  gr : ∀ n ∈ r.st.gr, n ∈ ns
  wt : 0 ≤ r.st.wt ∧ r.st.wt ≤ 4
  iv : 1 ≤ r.st.iv ∧ r.st.iv ≤ 6
  ag : r.st.iv ≤ r.st.ag ∧ r.st.ag ≤ 14
  mu : ∀ m ∈ r.st.mu, m ∈ sh
  ul : r.st.mu.length ≤ sh.length
  po : r.st.po ∈ la
theorem mkRo_F (D : List Int) (j : Nat) {ns ws la sh : List Str} (hn : 0 < ns.length) (hl : 0 < la.length) : RouF ns ws la sh j (toRo (mkRo D (j : Nat) ns ws la sh)) := by
  have m1 := md (itI D 1) 3 (by decide)
  have m6 := md (itI D 6) 3 (by decide)
  have m8 := md (itI D 8) 5 (by decide)
  have m9 := md (itI D 9) 6 (by decide)
  have m10 := md (itI D 10) 9 (by decide)
  have m12 := md (itI D 12) (la.length : Nat) (by omega)
  refine ⟨fun h => ?_, fun h => ?_, ?_, fun m hm => ?_, ?_, fun n hn2 => ?_, ⟨m8.1, by show itI D 8 % 5 ≤ 4; omega⟩, ⟨?_, ?_⟩, ⟨?_, ?_⟩, fun m hm => ?_, ?_, itS_inI m12.1 m12.2⟩
  · subst h; exact ⟨rfl, rfl⟩
  · have mj := md (itI D 0) (j : Nat) (by omega)
    refine ⟨itI D 0 % (j : Nat), ?_, mj.1, mj.2⟩
    show (if (0 : Int) < (j : Nat) then some (itI D 0 % (j : Nat)) else none) = _
    rw [if_pos (by omega)]
  · show (List.map toMt (if (0 : Int) < (j : Nat) then _ else [])).length ≤ 2
    rw [List.length_map]
    split
    · rw [List.length_map, List.length_range]; omega
    · exact Nat.zero_le _
  · have hm : m ∈ List.map toMt (if (0 : Int) < (j : Nat) then (List.range (itI D 1 % 3).toNat).map fun k => mkMt (itI D (2 + 2 * (0 + (k : Nat)))) (itI D (3 + 2 * (0 + (k : Nat)))) ns ws else []) := hm
    obtain ⟨x, hx, rfl⟩ := List.mem_map.mp hm
    split at hx
    · obtain ⟨k, _, rfl⟩ := List.mem_map.mp hx
      exact mkMt_F _ _ hn
    · cases hx
  · show (List.map _ (List.range _)).length ≤ 2
    rw [List.length_map, List.length_range]; omega
  · have hn2 : n ∈ (List.range (itI D 6 % 3).toNat).map fun k => itS ns ((itI D 7 + (0 + (k : Nat))) % ns.length) := hn2
    obtain ⟨k, _, rfl⟩ := List.mem_map.mp hn2
    have m := md (itI D 7 + (0 + (k : Nat))) (ns.length : Nat) (by omega)
    exact itS_inI m.1 m.2
  · show 1 ≤ 1 + itI D 9 % 6; omega
  · show 1 + itI D 9 % 6 ≤ 6; omega
  · show 1 + itI D 9 % 6 ≤ 1 + itI D 9 % 6 + itI D 10 % 9; omega
  · show 1 + itI D 9 % 6 + itI D 10 % 9 ≤ 14; omega
  · exact cut_mem (show m ∈ cutA sh none (some (itI D 11 % (sh.length + 1))) from hm)
  · exact cut_len sh none (some (itI D 11 % (sh.length + 1)))
structure HobF (ns ws : List Str) (h : Hob) : Prop where
  sl : h.sr.length ≤ 1
  sr : ∀ m ∈ h.sr, MtF ns ws m
  tl : h.tg.length ≤ 1
  tg : ∀ m ∈ h.tg, MtF ns ws m
  el : h.eq.length ≤ 2
  eq : ∀ n ∈ h.eq, n ∈ ns
/-- names and values that a setup takes -/
def NsG (ns : List Str) : Prop := ∀ n ∈ ns, namB n = true ∧ n ≠ RSV ∧ n.length ≤ 100000
def WsG (ws : List Str) : Prop := ∀ v ∈ ws, valB v = true ∧ v.length ≤ 100000
theorem MtF.ok {ns ws : List Str} {m : Mt} (h : MtF ns ws m) (hn : NsG ns) (hw : WsG ws) : matB m = true ∧ decide (m.nm = RSV) = false ∧ MtS m := by
  obtain ⟨a, b, c⟩ := hn _ h.nm
  have l1 := h.l1
  have l2 := h.l2
  refine ⟨?_, decide_eq_false b, c, by omega, fun v hv => ?_⟩
  · unfold matB
    rw [a, decide_eq_true (show (1 : Int) ≤ (m.vs.length : Nat) by omega), decide_eq_true (show ((m.vs.length : Nat) : Int) ≤ 6 by omega), List.all_eq_true.mpr fun v hv => ?_]; rfl
    rcases h.vs v hv with e | e
    · rw [(hw v e).1, Bool.or_true]
    · rw [decide_eq_true e]; rfl
  · rcases h.vs v hv with e | e
    · exact (hw v e).2
    · rw [e]; decide +kernel
theorem mats_ok {ns ws : List Str} {ms : List Mt} (h : ∀ m ∈ ms, MtF ns ws m) (hl : ms.length ≤ 6) (hn : NsG ns) (hw : WsG ws) : matsB ms = true := by
  unfold matsB
  rw [decide_eq_false (show ¬ ((ms.length : Nat) : Int) > 6 by omega), List.all_eq_true.mpr fun m hm => ?_]; rfl
  obtain ⟨a, b, _⟩ := (h m hm).ok hn hw
  rw [a, b]; rfl
theorem nams_ok {ns : List Str} {xs : List Str} (h : ∀ n ∈ xs, n ∈ ns) (hl : xs.length ≤ 6) (hn : NsG ns) : namsB xs = true := by
  unfold namsB
  rw [decide_eq_true (show ((xs.length : Nat) : Int) ≤ 6 by omega), List.all_eq_true.mpr fun n hm => ?_]; rfl
  obtain ⟨a, b, _⟩ := hn n (h n hm)
  rw [a, decide_eq_false b]; rfl
theorem HobF.ok {ns ws : List Str} {x : Hob} (h : HobF ns ws x) (hn : NsG ns) (hw : WsG ws) : hobB x = true ∧ HobS x := by
  have a := h.sl
  have b := h.tl
  have c := h.el
  refine ⟨?_, ⟨by omega, fun m hm => ((h.sr m hm).ok hn hw).2.2⟩, ⟨by omega, fun m hm => ((h.tg m hm).ok hn hw).2.2⟩, by omega, fun n hm => (hn n (h.eq n hm)).2.2⟩
  unfold hobB
  rw [mats_ok h.sr (by omega) hn hw, mats_ok h.tg (by omega) hn hw, nams_ok h.eq (by omega) hn]; rfl
theorem RouF.ok {ns ws la sh : List Str} {j : Nat} {r : Rou} (h : RouF ns ws la sh j r) (hn : NsG ns) (hw : WsG ws) (hsh : sh.length ≤ 6) : rouB j sh la r = true ∧ RouS r := by
  have a := h.ml
  have b := h.gl
  have c := h.ul
  have d := h.iv
  have e := h.ag
  have wt := h.wt
  have st : sttB sh la r.st = true := by
    unfold sttB durB
    rw [nams_ok h.gr (by omega) hn, decide_eq_true (show (0 : Int) ≤ r.st.wt by omega), decide_eq_true (show r.st.wt ≤ 1000 by omega), decide_eq_true (show (1 : Int) ≤ r.st.iv by omega), decide_eq_true (show r.st.iv ≤ 1000 by omega), decide_eq_true e.1, decide_eq_true (show r.st.ag ≤ 1000 by omega), decide_eq_false (show ¬ ((r.st.mu.length : Nat) : Int) > 6 by omega), List.all_eq_true.mpr fun m hm => decide_eq_true (h.mu m hm), decide_eq_true h.po]; rfl
  refine ⟨?_, by omega, fun m hm => ((h.ms m hm).ok hn hw).2.2, by omega, fun v hv => (hn v (h.gr v hv)).2.2, by omega⟩
  unfold rouB
  by_cases z : j = 0
  · obtain ⟨p, q⟩ := h.p0 z
    rw [if_pos z, p, q, st]; rfl
  · obtain ⟨p, e1, p0, p1⟩ := h.p1 (by omega)
    rw [if_neg z, e1, mats_ok h.ms (by omega) hn hw, st]
    show (decide ((0 : Int) ≤ p) && decide (p < (j : Nat)) && (true && true)) = true
    rw [decide_eq_true p0, decide_eq_true p1]; rfl
section
variable {P : Program} {w : World} {K : PySem.W.Frag} {mg : Str → Option Value} {base : Heap} {f : Addr} {fd : FuncData} {Tb : List Addr} {k : Nat}
def A_hol : List PyData → Prop := fun ds => ∃ (c : Int) (ns ws : List Str), ds = [.int c, sL ns, sL ws] ∧ 0 < ns.length ∧ ws.length ≤ 1000
def R_hol : List PyData → PyData → Prop := fun ds d => ∀ (c : Int) (ns ws : List Str), ds = [.int c, sL ns, sL ws] → ∃ hs : List Hob, d = .list (hs.map hobD) ∧ hs.length ≤ 2 ∧ ∀ h ∈ hs, HobF ns ws h
theorem ok_hol (Fn : Fun K "_law_holds" "_law_holds" s_l_law_holds f fd) (hm : mg "_law_holds" = some (.ref f)) (hb : Binds K fd ["_law_cell_here", "_law_names", "_law_worths_here"] []) (Z : Zb mg)
    (D_l_law_draws : Df P w K mg base 1 "_law_draws" ["_law_cell_here", "_law_many"] (spD K Tb R_draws))
    (D_l_law_matcher : Df P w K mg base 1 "_law_matcher" ["_law_first", "_law_second", "_law_names", "_law_worths_here"] (spD K Tb WL.R_matcher)) :
    Df P w K mg base 2 "_law_holds" ["_law_cell_here", "_law_names", "_law_worths_here"] (spA K Tb A_hol R_hol) := by
  refine df_A Fn sc_l_law_holds hm hb (fun ds h => by obtain ⟨_, _, _, rfl, _⟩ := h; rfl) fun cdv A outer s H Ek hr => ⟨_, (pss_cons (ps_set (i := 3) sc_l_law_holds.nd rfl (by first | exact .inl rfl | exact .inr rfl) (pe_df D_l_law_draws hr (by first | decide | exact Nat.le_refl _ | omega) (by rfl) (pa_cons (pv 0) (pa_cons pe_int pa_nil))))
      (pss_cons (ps_set (i := 4) sc_l_law_holds.nd rfl (by first | exact .inl rfl | exact .inr rfl) (pe_lst pa_nil))
      (pss_cons (ps_for PassesOwn.never rfl (pi_range1 (by rfl) Z.range (pa_cons (pe_op op_mod (pe_callTy uInt (by rfl) Z.int (by decide +kernel) (pa_cons (pe_ix (ix_seqK K) (pv 3) pe_int (fun _ _ => rfl)) pa_nil)) pe_int) pa_nil)) (pg_name (i := 5) sc_l_law_holds.nd rfl (by first | exact .inl rfl | exact .inr rfl)) (pss_cons (ps_set (i := 6) sc_l_law_holds.nd rfl (by first | exact .inl rfl | exact .inr rfl) (pe_slice (uSlK K) (pv 3) (po_some (pe_op (uAddK K) pe_int (pe_op uMul pe_int (pv 5)))) (po_some (pe_op (uAddK K) pe_int (pe_op uMul pe_int (pv 5))))))
      (pss_cons (ps_set (i := 7) sc_l_law_holds.nd rfl (by first | exact .inl rfl | exact .inr rfl) (pe_lst (pa_cons (pe_df D_l_law_matcher hr (by first | decide | exact Nat.le_refl _ | omega) (by rfl) (pa_cons (pe_ix (ix_seqK K) (pv 6) pe_int (fun _ _ => rfl)) (pa_cons (pe_ix (ix_seqK K) (pv 6) pe_int (fun _ _ => rfl)) (pa_cons (pv 1) (pa_cons (pv 2) pa_nil))))) pa_nil)))
      (pss_cons (ps_setLc (i := 8) (own := [("_law_j", 10)]) (by rfl) sc_l_law_holds.nd rfl rfl (sw_true rfl rfl rfl (by decide +kernel)) (pi_range1 (by rfl) Z.range (pa_cons (pe_op op_mod (pe_callTy uInt (by rfl) Z.int (by decide +kernel) (pa_cons (pe_ix (ix_seqK K) (pv 6) pe_int (fun _ _ => rfl)) pa_nil)) pe_int) pa_nil)) (blkOk_by (own := [("_law_j", 10)]) (N := N_l_law_holds) (sc := defScope s_l_law_holds) (by decide +kernel)) (fun _ _ _ _ _ => (pg_name (i := 10) sc_l_law_holds.nd rfl (by first | exact .inl rfl | exact .inr rfl))) (fun _ _ _ _ _ => pts_nil) (fun _ _ _ _ _ => (pe_df D_l_law_matcher hr (by first | decide | exact Nat.le_refl _ | omega) (by rfl) (pa_cons (pe_ix (ix_seqK K) (pv 6) pe_int (fun _ _ => rfl)) (pa_cons (pe_ix (ix_seqK K) (pv 6) pe_int (fun _ _ => rfl)) (pa_cons (pv 1) (pa_cons (pv 2) pa_nil)))))))
      (pss_cons (ps_setLc (i := 9) (own := [("_law_j", 10)]) (by rfl) sc_l_law_holds.nd rfl rfl (sw_true rfl rfl rfl (by decide +kernel)) (pi_range1 (by rfl) Z.range (pa_cons (pe_op op_mod (pe_callTy uInt (by rfl) Z.int (by decide +kernel) (pa_cons (pe_ix (ix_seqK K) (pv 6) pe_int (fun _ _ => rfl)) pa_nil)) pe_int) pa_nil)) (blkOk_by (own := [("_law_j", 10)]) (N := N_l_law_holds) (sc := defScope s_l_law_holds) (by decide +kernel)) (fun _ _ _ _ _ => (pg_name (i := 10) sc_l_law_holds.nd rfl (by first | exact .inl rfl | exact .inr rfl))) (fun _ _ _ _ _ => pts_nil) (fun _ _ _ _ _ => (pe_ix (ix_seqK K) (pv 1) (pe_op op_mod (pe_callTy uInt (by rfl) Z.int (by decide +kernel) (pa_cons (pe_op (uAddK K) (pe_ix (ix_seqK K) (pv 6) pe_int (fun _ _ => rfl)) (pv 10)) pa_nil)) (pe_callB (uLenK K) (by rfl) Z.len (by decide +kernel) (pa_cons (pv 1) pa_nil))) (fun _ _ => rfl))))
      (pss_one (ps_expr (pe_bm PySem.F.plainAttrs_list PySem.F.slot_list_append PySem.F.type_list_append mt_append (pv 4) (pa_cons (pe_tup (pa_cons (pe_callTy (uTupK K) (by rfl) Z.tuple (by decide +kernel) (pa_cons (pv 7) pa_nil)) (pa_cons (pe_callTy (uTupK K) (by rfl) Z.tuple (by decide +kernel) (pa_cons (pv 8) pa_nil)) (pa_cons (pe_callTy (uTupK K) (by rfl) Z.tuple (by decide +kernel) (pa_cons (pv 9) pa_nil)) pa_nil)))) pa_nil)))))))))
      (pss_one (ps_ret (pv 4)))))),  fun ds F0 H0 Q r rt => ?_⟩
  obtain ⟨c, ns, ws, rfl, hn, hw⟩ := r
  have dl := draws_len c 20
  have l2 : ((ns.map PyData.str).length : Int) = ns.length := by rw [List.length_map]
  have p2 : (0 : Int) < ((ns.map PyData.str).length : Int) := by omega
  show S _ _ _ [.fz (.int c), .fz (sL ns), .fz (sL ws), .un, .un, .un, .un, .un, .un, .un, .un]
  refine q_asg (d := iL (draws c 20)) (e_call (ds := [.int c, .int 20]) (a_cons (e_var rfl) (a_cons e_int a_nil)) ⟨_, 20, rfl, by decide, rfl⟩) ?_
  generalize draws c 20 = D at dl ⊢
  have at_ : ∀ k : Int, 0 ≤ k → k < 20 → atI (D.map PyData.int) k = some (.int (itI D k)) := fun k h0 h1 => at_int h0 (by omega)
  have m0 := md (itI D 0) 3 (by decide)
  refine q_asgL (ds := []) (el_lst a_nil (by decide)) ?_
  refine q_for (α := List Hob) (fun _ hs => [.fz (.int c), .fz (sL ns), .fz (sL ws), .fz (iL D), .ow (hs.map hobD), .un, .un, .un, .un, .un, .un]) (fun i hs => hs.length = i ∧ ∀ h ∈ hs, HobF ns ws h) (it_rng1 (n := itI D 0 % 3) (a_cons (e_op (b_cb (ab_cons (E.b (e_op (e_var rfl) e_int (ix_l (at_ 0 (by decide) (by decide))))) ab_nil) int_i rfl) e_int (mod_i (by decide))) a_nil) (by omega) (by omega)) [] ⟨rfl, fun p hp => by cases hp⟩ (Wk.refl _) (fun F1 i hs d hdd hp => ?_) fun hs hp => ?_
  · obtain ⟨hi, rfl⟩ := rngD_get hdd
    have hi : i < 2 := by omega
    obtain ⟨hl, hp⟩ := hp
    refine ⟨_, _, g_name, ?_⟩
    have e1 : (2 + 9 * (0 + (i : Nat)) : Int) = ((2 + 9 * i : Nat) : Int) := by omega
    have e2 : (11 + 9 * (0 + (i : Nat)) : Int) = ((11 + 9 * i : Nat) : Int) := by omega
    have lc : (cutA D (some (2 + 9 * (0 + (i : Nat)))) (some (11 + 9 * (0 + (i : Nat))))).length = 9 := by rw [e1, e2, cutA_len _ _ _ (by omega)]; omega
    refine q_asg (d := iL (cutA D (some (2 + 9 * (0 + (i : Nat)))) (some (11 + 9 * (0 + (i : Nat)))))) (by
      show E _ _ _ (.list ((cutA D (some (2 + 9 * (0 + (i : Nat)))) (some (11 + 9 * (0 + (i : Nat))))).map .int))
      rw [← cut_map]
      exact EL.e (el_sl (e_var rfl) (o_some (e_op e_int (e_op e_int (e_var rfl) (mul_i (.inl ⟨by decide, by decide⟩))) add_i)) (o_some (e_op e_int (e_op e_int (e_var rfl) (mul_i (.inl ⟨by decide, by decide⟩))) add_i)))) ?_
    generalize cutA D (some (2 + 9 * (0 + ((i : Nat) : Int)))) (some (11 + 9 * (0 + ((i : Nat) : Int)))) = Dp at lc ⊢
    have ap : ∀ k : Int, 0 ≤ k → k < 9 → atI (Dp.map PyData.int) k = some (.int (itI Dp k)) := fun k h0 h1 => at_int h0 (by omega)
    have m4 := md (itI Dp 4) 2 (by decide)
    have m5 := md (itI Dp 5) 3 (by decide)
    show S _ _ _ [.fz (.int c), .fz (sL ns), .fz (sL ws), .fz (iL D), .ow (hs.map hobD), .fz (.int (0 + (i : Nat))), .fz (iL Dp), .un, .un, .un, .un]
    refine q_asgL (ds := [mtD (toMt (mkMt (itI Dp 0) (itI Dp 1) ns ws))]) (el_lst (a_cons (e_call (ds := [.int (itI Dp 0), .int (itI Dp 1), sL ns, sL ws]) (a_cons (e_op (e_var rfl) e_int (ix_l (ap 0 (by decide) (by decide)))) (a_cons (e_op (e_var rfl) e_int (ix_l (ap 1 (by decide) (by decide)))) (a_cons (e_var rfl) (a_cons (e_var rfl) a_nil)))) ⟨_, _, ns, ws, rfl, hn, hw, rfl⟩) a_nil) (Nat.le_of_ble_eq_true rfl)) ?_
    show S _ _ _ [.fz (.int c), .fz (sL ns), .fz (sL ws), .fz (iL D), .ow (hs.map hobD), .fz (.int (0 + (i : Nat))), .fz (iL Dp), .ow ([toMt (mkMt (itI Dp 0) (itI Dp 1) ns ws)].map mtD), .un, .un, .un]
    refine q_asgL (ds := ((List.range (itI Dp 4 % 2).toNat).map fun _ => toMt (mkMt (itI Dp 2) (itI Dp 3) ns ws)).map mtD) ?_ ?_
    · have er : ((List.range (itI Dp 4 % 2).toNat).map fun _ => toMt (mkMt (itI Dp 2) (itI Dp 3) ns ws)).map mtD = (rngD 0 (itI Dp 4 % 2).toNat).filterMap (fI fun _ => mtD (toMt (mkMt (itI Dp 2) (itI Dp 3) ns ws))) := by rw [fI_rng, List.map_map]; rfl
      rw [er]
      refine el_lc (ix := [10]) _ (fun y => [.fz (.int c), .fz (sL ns), .fz (sL ws), .fz (iL D), .ow (hs.map hobD), .fz (.int (0 + (i : Nat))), .fz (iL Dp), .ow ([toMt (mkMt (itI Dp 0) (itI Dp 1) ns ws)].map mtD), .un, .un, .fz y]) (it_rng1 (n := itI Dp 4 % 2) (a_cons (e_op (b_cb (ab_cons (E.b (e_op (e_var rfl) e_int (ix_l (ap 4 (by decide) (by decide))))) ab_nil) int_i rfl) e_int (mod_i (by decide))) a_nil) (by omega) (by omega)) (by rw [rngD_len]; omega) (fun F1 d hd => g_name) (by decide) (fun F1 d hd => ?_) fun F1 d hd y hy => ?_
      · obtain ⟨i, hi⟩ := List.getElem?_of_mem hd
        obtain ⟨_, rfl⟩ := rngD_get hi
        exact t_yes
      · obtain ⟨i, hi⟩ := List.getElem?_of_mem hd
        obtain ⟨h1, rfl⟩ := rngD_get hi
        cases hy
        exact e_call (ds := [.int (itI Dp 2), .int (itI Dp 3), sL ns, sL ws]) (a_cons (e_op (e_var rfl) e_int (ix_l (ap 2 (by decide) (by decide)))) (a_cons (e_op (e_var rfl) e_int (ix_l (ap 3 (by decide) (by decide)))) (a_cons (e_var rfl) (a_cons (e_var rfl) a_nil)))) ⟨_, _, ns, ws, rfl, hn, hw, rfl⟩
    generalize ht : ((List.range (itI Dp 4 % 2).toNat).map fun _ => toMt (mkMt (itI Dp 2) (itI Dp 3) ns ws)) = tg
    have t1 : tg.length ≤ 1 := by rw [← ht, List.length_map, List.length_range]; omega
    have t2 : ∀ m ∈ tg, MtF ns ws m := fun m hm => by
      rw [← ht] at hm
      obtain ⟨_, _, rfl⟩ := List.mem_map.mp hm
      exact mkMt_F _ _ hn
    clear ht
    show S _ _ _ [.fz (.int c), .fz (sL ns), .fz (sL ws), .fz (iL D), .ow (hs.map hobD), .fz (.int (0 + (i : Nat))), .fz (iL Dp), .ow ([toMt (mkMt (itI Dp 0) (itI Dp 1) ns ws)].map mtD), .ow (tg.map mtD), .un, .un]
    refine q_asgL (ds := ((List.range (itI Dp 5 % 3).toNat).map fun k => itS ns ((itI Dp 6 + (0 + (k : Nat))) % ns.length)).map .str) ?_ ?_
    · have er : ((List.range (itI Dp 5 % 3).toNat).map fun k => itS ns ((itI Dp 6 + (0 + (k : Nat))) % ns.length)).map PyData.str = (rngD 0 (itI Dp 5 % 3).toNat).filterMap (fI fun i => .str (itS ns ((itI Dp 6 + i) % ns.length))) := by rw [fI_rng, List.map_map]; rfl
      rw [er]
      refine el_lc (ix := [10]) _ (fun y => [.fz (.int c), .fz (sL ns), .fz (sL ws), .fz (iL D), .ow (hs.map hobD), .fz (.int (0 + (i : Nat))), .fz (iL Dp), .ow ([toMt (mkMt (itI Dp 0) (itI Dp 1) ns ws)].map mtD), .ow (tg.map mtD), .un, .fz y]) (it_rng1 (n := itI Dp 5 % 3) (a_cons (e_op (b_cb (ab_cons (E.b (e_op (e_var rfl) e_int (ix_l (ap 5 (by decide) (by decide))))) ab_nil) int_i rfl) e_int (mod_i (by decide))) a_nil) (by omega) (by omega)) (by rw [rngD_len]; omega) (fun F1 d hd => g_name) (by decide) (fun F1 d hd => ?_) fun F1 d hd y hy => ?_
      · obtain ⟨i, hi⟩ := List.getElem?_of_mem hd
        obtain ⟨_, rfl⟩ := rngD_get hi
        exact t_yes
      · obtain ⟨i, hi⟩ := List.getElem?_of_mem hd
        obtain ⟨h1, rfl⟩ := rngD_get hi
        cases hy
        have m := md (itI Dp 6 + (0 + (i : Nat))) ns.length (by omega)
        have a7 : atI (ns.map PyData.str) ((itI Dp 6 + (0 + (i : Nat))) % ((ns.map PyData.str).length : Int)) = some (.str (itS ns ((itI Dp 6 + (0 + (i : Nat))) % ns.length))) := by rw [l2]; exact at_str m.1 m.2
        exact e_op (e_var rfl) (e_op (b_cb (ab_cons (E.b (e_op (e_op (e_var rfl) e_int (ix_l (ap 6 (by decide) (by decide)))) (e_var rfl) add_i)) ab_nil) int_i rfl) (b_cb (ab_cons (E.b (e_var rfl)) ab_nil) len_l rfl) (mod_i (by omega))) (ix_l a7)
    generalize ht : ((List.range (itI Dp 5 % 3).toNat).map fun k => itS ns ((itI Dp 6 + (0 + (k : Nat))) % ns.length)) = eq
    have q1 : eq.length ≤ 2 := by rw [← ht, List.length_map, List.length_range]; omega
    have q2 : ∀ m ∈ eq, m ∈ ns := fun m hm => by
      rw [← ht] at hm
      obtain ⟨k, _, rfl⟩ := List.mem_map.mp hm
      have m := md (itI Dp 6 + (0 + (k : Nat))) ns.length (by omega)
      exact itS_inI m.1 m.2
    clear ht
    show S _ _ _ [.fz (.int c), .fz (sL ns), .fz (sL ws), .fz (iL D), .ow (hs.map hobD), .fz (.int (0 + (i : Nat))), .fz (iL Dp), .ow ([toMt (mkMt (itI Dp 0) (itI Dp 1) ns ws)].map mtD), .ow (tg.map mtD), .ow (eq.map .str), .un]
    refine s_app (d := hobD ⟨[toMt (mkMt (itI Dp 0) (itI Dp 1) ns ws)], tg, eq⟩) rfl (e_tup (ds := [.tuple ([toMt (mkMt (itI Dp 0) (itI Dp 1) ns ws)].map mtD), .tuple (tg.map mtD), .tuple (eq.map .str)]) (a_cons (e_tupO rfl) (a_cons (e_tupO rfl) (a_cons (e_tupO rfl) a_nil))) (Nat.le_of_ble_eq_true rfl)) (by rw [List.length_map]; omega) (n_end (hs ++ [⟨[toMt (mkMt (itI Dp 0) (itI Dp 1) ns ws)], tg, eq⟩]) ⟨by rw [List.length_append, hl]; rfl, fun y h => ?_⟩ ?_)
    · rcases List.mem_append.mp h with h | h
      · exact hp y h
      · rw [List.mem_singleton.mp h]
        exact ⟨Nat.le_refl 1, fun m hm => by rw [List.mem_singleton.mp hm]; exact mkMt_F _ _ hn, t1, t2, q1, q2⟩
    · refine .keep rfl (.keep rfl (.keep rfl (.keep rfl (.keep ?_ (.drop (.drop (.drop (.drop (.drop (.drop .nil))))))))))
      rw [List.map_append]; rfl
  rw [rngD_len] at hp
  obtain ⟨hl, hp⟩ := hp
  refine s_frz (i := 4) rfl ?_
  refine s_retP (E.p (d := .list (hs.map hobD)) (e_var rfl) fun c' ns' ws' e => ?_) rt
  injection e with e0 e
  injection e with e1 e
  injection e with e2 _
  have e1 : ns = ns' := mapI str_inj _ _ (PyData.list.inj e1)
  have e2 : ws = ws' := mapI str_inj _ _ (PyData.list.inj e2)
  subst e1 e2
  exact ⟨hs, rfl, by omega, hp⟩
end
section
variable {P : Program} {w : World} {K : PySem.W.Frag} {mg : Str → Option Value} {base : Heap} {f : Addr} {fd : FuncData} {Tb : List Addr} {k : Nat}
/-! ### setup's defaults, its checks by defs of the module -/
def kwsK (E1 E2 E3 S : Addr) : List (Str × V) := [("windows", .ref E1), ("holdbacks", .ref E2), ("groups", .ref E3), ("replicas", .int 1), ("pause", .int 0), ("down", .int 0), ("store", .ref S), ("lookback", .int 5)]
structure DfOk (K : PySem.W.Frag) (E1 E2 E3 S : Addr) : Prop where
  e1 : TupK K E1 []
  e2 : TupK K E2 []
  e3 : TupK K E3 []
  s : TupK K S [.int 0, .int 10, .int 2, .int 0]
theorem r1_of {C fp : Addr} {x : SuP} (h : SuS x) (hp : mg "is_person" = some (.ref fp)) (F1 : Hp) : R_cnf mg C "is_person" R_psn F1 [.fz (.str "people"), .fz (.list ((ppL x).map enE)), .raw (.ref fp)] (cnO C "people" (cnF pPf [] 0 (ppL x))) := by
  refine ⟨"people", ppL x, fp, pPf, rfl, fun _ => hp, by unfold ppL; rw [List.length_map]; exact h.z1, fun e he => ?_, rfl⟩
  unfold ppL at he
  obtain ⟨y, hy, rfl⟩ := List.mem_map.mp he
  refine ⟨h.n1 y hy, .str y.1, y.2, rfl, ?_⟩
  unfold pPf
  rw [liftB_enc (enc := fun y : Pp => enE (ppE y)) ppI]; rfl
theorem rg_nil {C fg : Addr} {pG : PyData → Bool} (F1 : Hp) : R_cnf mg C "is_person" R_psn F1 [.fz (.str "groups"), .fz (.list ([].map enE)), .raw (.ref fg)] (cnO C "groups" (cnF pG [] 0 [])) :=
  ⟨"groups", [], fg, pG, rfl, fun h => absurd rfl h, Nat.zero_le _, fun e he => (by cases he), rfl⟩
end
section
variable {P : Program} {w : World} {K : PySem.W.Frag} {mg : Str → Option Value} {base : Heap} {f : Addr} {fd : FuncData} {Tb : List Addr} {k : Nat}
abbrev KN : List Str := ["week", "people", "schedules", "policies", "windows", "routes", "holdbacks", "groups", "replicas", "pause", "down", "lookback"]
/-- a setup that lets itself be made, without groups, with the store as it comes -/
structure LseOk (x : SuP) : Prop where
  g : x.gr = []
  st : x.s1 = 0 ∧ x.s2 = 10 ∧ x.s3 = 2 ∧ x.s4 = 0
  s : SuS x
  ok : SuG x fun _ => true
def R_lse : Hp → List Sl → List (Str × PyData) → Prop := fun F Gs fs => ∃ x : SuP, Gs = [.fz (.int x.wk), .fz (.list ((ppL x).map enE)), .fz (.list ((scL x).map enE)), .fz (.list ((poL x).map enE)), .fz (.list ((wiL x).map enE)), .fz (.list (x.ro.map rouD)), .fz (.list (x.ho.map hobD)), .fz (.list []), .fz (iL [x.rp, x.pa, x.dn, x.lb])] ∧ LseOk x ∧ fs = suF x
theorem ok_lse {C Ca fp fg E1 E2 E3 Es : Addr} (Fn : Fun K "_law_setup" "_law_setup" s_l_law_setup f fd) (hm : mg "_law_setup" = some (.ref f)) (hb : Binds K fd ["_law_days", "_law_staff", "_law_rotas", "_law_ladders", "_law_shutters", "_law_tree", "_law_holds_here", "_law_books", "_law_numbers"] []) (Z : Zb mg) (hp : mg "is_person" = some (.ref fp)) (hD : DfOk K E1 E2 E3 Es)
    (D_setup : DfKX P w K mg base 13 "setup" KN (fun _ zs => kwV (kwsK E1 E2 E3 Es) SN KN zs) (spOX K Tb Ca (R_set K C fp fg (R_cnf mg C "is_person" R_psn) (R_cnf mg C "is_person" R_psn)))) :
    Df P w K mg base 14 "_law_setup" ["_law_days", "_law_staff", "_law_rotas", "_law_ladders", "_law_shutters", "_law_tree", "_law_holds_here", "_law_books", "_law_numbers"] (spSO K Tb Ca R_lse) := by
  refine df_SO Fn sc_l_law_setup hm hb (fun F Gs d h => by obtain ⟨_, rfl, _⟩ := h; rfl) fun cdv A outer s H Ek hr => ⟨_, (pss_one (ps_ret (pe_dfKX (E := fun _ _ _ => False) D_setup hr (by first | decide | exact Nat.le_refl _ | omega) (by rfl) (passes_call (W := fun _ _ _ _ => False) takes0 (fun _ _ _ _ z => z)) (pk_cons (pv 0) (pk_cons (pv 1) (pk_cons (pv 2) (pk_cons (pv 3) (pk_cons (pv 4) (pk_cons (pv 5) (pk_cons (pv 6) (pk_cons (pv 7) (pk_cons (pe_ix (ix_seqK K) (pv 8) pe_int (fun _ _ => rfl)) (pk_cons (pe_ix (ix_seqK K) (pv 8) pe_int (fun _ _ => rfl)) (pk_cons (pe_ix (ix_seqK K) (pv 8) pe_int (fun _ _ => rfl)) (pk_cons (pe_ix (ix_seqK K) (pv 8) pe_int (fun _ _ => rfl)) pk_nil))))))))))))))),  fun Gs fs F0 H0 Q r rt => ?_⟩
  obtain ⟨x, rfl, ok, rfl⟩ := r
  show S _ _ _ [.fz (.int x.wk), .fz (.list ((ppL x).map enE)), .fz (.list ((scL x).map enE)), .fz (.list ((poL x).map enE)), .fz (.list ((wiL x).map enE)), .fz (.list (x.ro.map rouD)), .fz (.list (x.ho.map hobD)), .fz (.list []), .fz (iL [x.rp, x.pa, x.dn, x.lb])]
  refine s_retKX (m := 12) (d := .none) (fs := suF x) (Gs := (setA (.int x.wk) (.list ((ppL x).map enE)) (.list ((scL x).map enE)) (.list ((poL x).map enE)) (.list ((wiL x).map enE)) (.list (x.ro.map rouD)) (.list (x.ho.map hobD)) (.list []) (.int x.rp) (.int x.pa) (.int x.dn) (stoD x) (.int x.lb)).map .fz)
    (ds := [.int x.wk, .list ((ppL x).map enE), .list ((scL x).map enE), .list ((poL x).map enE), .list ((wiL x).map enE), .list (x.ro.map rouD), .list (x.ho.map hobD), .list [], .int x.rp, .int x.pa, .int x.dn, .int x.lb])
    (a_cons (e_var rfl) (a_cons (e_var rfl) (a_cons (e_var rfl) (a_cons (e_var rfl) (a_cons (e_var rfl) (a_cons (e_var rfl) (a_cons (e_var rfl) (a_cons (e_var rfl) (a_cons (e_op (e_var rfl) e_int (ix_l rfl)) (a_cons (e_op (e_var rfl) e_int (ix_l rfl)) (a_cons (e_op (e_var rfl) e_int (ix_l rfl)) (a_cons (e_op (e_var rfl) e_int (ix_l rfl)) a_nil))))))))))))
    rfl (fun F zs _ hz => ?_) (fun F e => ?_) rt
  · cases hz with | cons d1 hz =>
    cases hz with | cons d2 hz =>
    cases hz with | cons d3 hz =>
    cases hz with | cons d4 hz =>
    cases hz with | cons d5 hz =>
    cases hz with | cons d6 hz =>
    cases hz with | cons d7 hz =>
    cases hz with | cons d8 hz =>
    cases hz with | cons d9 hz =>
    cases hz with | cons d10 hz =>
    cases hz with | cons d11 hz =>
    cases hz with | cons d12 hz =>
    cases hz
    rename_i z1 z2 z3 z4 z5 z6 z7 z8 z9 z10 z11 z12
    have e : kwV (kwsK E1 E2 E3 Es) SN KN [z1, z2, z3, z4, z5, z6, z7, z8, z9, z10, z11, z12] = [z1, z2, z3, z4, z5, z6, z7, z8, z9, z10, z11, .ref Es, z12] := by kernel_rfl
    rw [e]
    obtain ⟨e1, e2, e3, e4⟩ := ok.st
    have es : stoD x = .tuple [.int 0, .int 10, .int 2, .int 0] := by unfold stoD; rw [e1, e2, e3, e4]
    refine .fz d1 (.fz d2 (.fz d3 (.fz d4 (.fz d5 (.fz d6 (.fz d7 (.fz d8 (.fz d9 (.fz d10 (.fz d11 (.fz ?_ (.fz d12 .nil))))))))))))
    rw [es]
    exact hD.s.dp (.cons (.int 0) (.cons (.int 10) (.cons (.int 2) (.cons (.int 0) .nil))))
  · refine ⟨x, _, _, _, _, _, _, _, fun _ => true, rfl, ⟨.inl rfl, .inl rfl, .inl rfl, .inl rfl, .inl rfl, .inl rfl, .inl (by rw [ok.g]; rfl)⟩, ok.s, r1_of ok.s hp, fun F1 => ?_, rfl, ok.ok.ok.symm⟩
    rw [ok.g]
    exact rg_nil F1
end
theorem wdr_nd (c : Int) (ix : Nat → Int) (n a : Nat) (hi : ∀ k : Nat, ix k = (a : Int) + (k : Nat)) (h : a + n ≤ 8) : ((List.range n).map fun k => wdF c (ix k)).Nodup := by
  refine List.pairwise_map.mpr (List.Pairwise.imp_of_mem (fun {x y} hx hy ne e => ?_) List.nodup_range)
  have hx := List.mem_range.mp hx
  have hy := List.mem_range.mp hy
  have := wd_inj e
  rw [hi, hi] at this
  have ne : x ≠ y := ne
  omega
theorem wds_nd8 (c : Int) : (wdsF c 8).Nodup := wdr_nd c (fun k => 0 + (k : Nat)) 8 0 (fun k => by show (0 : Int) + _ = ((0 : Nat) : Int) + _; omega) (by decide)
theorem names_by {α : Type} {nm : α → Str} {xs : List α} {ti : List Str} (hl : xs.length = ti.length) (h : ∀ (i : Nat) x, xs[i]? = some x → ti[i]? = some (nm x)) : xs.map nm = ti := by
  refine List.ext_getElem? fun i => ?_
  rw [List.getElem?_map]
  cases e : xs[i]? with
  | none =>
    have : xs.length ≤ i := List.getElem?_eq_none_iff.mp e
    rw [List.getElem?_eq_none (by omega)]; rfl
  | some x => rw [h i x e]; rfl
theorem a2_list {α : Type} {enc : α → PyData} {Pa : Nat → α → Prop} {n : Nat} {es : List PyData} (h : All2 (fun d e => ∀ i : Nat, d = .int (0 + (i : Nat)) → ∃ x, e = enc x ∧ Pa i x) (rngD 0 n) es) : ∃ xs : List α, es = xs.map enc ∧ xs.length = n ∧ ∀ (i : Nat) x, xs[i]? = some x → Pa i x := by
  have key : ∀ (l : List PyData) (m : Nat), (∀ (i : Nat) e, l[i]? = some e → ∃ x, e = enc x ∧ Pa (m + i) x) → ∃ xs : List α, l = xs.map enc ∧ ∀ (i : Nat) x, xs[i]? = some x → Pa (m + i) x := by
    intro l
    induction l with
    | nil => exact fun m _ => ⟨[], rfl, fun i x h => by simp at h⟩
    | cons e l ih =>
      intro m hh
      obtain ⟨x, rfl, hx⟩ := hh 0 _ rfl
      obtain ⟨xs, rfl, hxs⟩ := ih (m + 1) fun i e he => by
        obtain ⟨y, h1, h2⟩ := hh (i + 1) e (by simpa using he)
        exact ⟨y, h1, by rwa [show m + 1 + i = m + (i + 1) by omega]⟩
      refine ⟨x :: xs, rfl, fun i y hy => ?_⟩
      cases i with
      | zero => simp at hy; subst hy; exact hx
      | succ i => have := hxs i y (by simpa using hy); rwa [show m + 1 + i = m + (i + 1) by omega] at this
  have hl : es.length = n := by rw [h.1, rngD_len]
  obtain ⟨xs, rfl, hxs⟩ := key es 0 fun i e he => by
    have hi : i < n := by have := (List.getElem?_eq_some_iff.mp he).1; omega
    have hg : (rngD 0 n)[i]? = some (.int (0 + (i : Nat))) := by unfold rngD; rw [List.getElem?_map, List.getElem?_range hi]; rfl
    rw [Nat.zero_add]
    exact h.2 i _ e hg he i rfl
  refine ⟨xs, rfl, by rw [List.length_map] at hl; exact hl, fun i x hx => ?_⟩
  have := hxs i x hx
  rwa [Nat.zero_add] at this
theorem int0_inj {i j : Nat} (h : PyData.int (0 + (i : Nat)) = .int (0 + (j : Nat))) : i = j := by
  have := PyData.int.inj h
  omega
/-! names and values that fit -/
def wo2 (p r : Int) : Str := cutS "v7_" none (some p) ++ sg LT2 r ++ cutS "0_" (some p) none
theorem wo2_val : ∀ p : Fin 3, ∀ r : Fin 37, valB (wo2 (p.val : Int) (r.val : Int)) = true := by decide +kernel
theorem wd2_rsv : ∀ p : Fin 4, ∀ r : Fin 26, wd2 (p.val : Int) (r.val : Int) ≠ RSV := by decide +kernel
theorem wo_val (c k : Int) : valB (woF c k) = true := by
  have h1 := md (c / 37) 3 (by decide)
  have h2 := md (c + 5 * k) 37 (by decide)
  have := wo2_val ⟨(c / 37 % 3).toNat, by omega⟩ ⟨((c + 5 * k) % 37).toNat, by omega⟩
  rwa [show (((⟨(c / 37 % 3).toNat, by omega⟩ : Fin 3).val : Nat) : Int) = c / 37 % 3 by show ((c / 37 % 3).toNat : Int) = _; omega, show (((⟨((c + 5 * k) % 37).toNat, by omega⟩ : Fin 37).val : Nat) : Int) = (c + 5 * k) % 37 by show (((c + 5 * k) % 37).toNat : Int) = _; omega] at this
theorem wd_rsv (c k : Int) : wdF c k ≠ RSV := by
  rw [wdF_eq]
  have h1 := md (c / 26) 4 (by decide)
  have h2 := md (c + 3 * k) 26 (by decide)
  have := wd2_rsv ⟨(c / 26 % 4).toNat, by omega⟩ ⟨((c + 3 * k) % 26).toNat, by omega⟩
  rwa [show (((⟨(c / 26 % 4).toNat, by omega⟩ : Fin 4).val : Nat) : Int) = c / 26 % 4 by show ((c / 26 % 4).toNat : Int) = _; omega, show (((⟨((c + 3 * k) % 26).toNat, by omega⟩ : Fin 26).val : Nat) : Int) = (c + 3 * k) % 26 by show (((c + 3 * k) % 26).toNat : Int) = _; omega] at this
theorem val_len {t : Str} (h : valB t = true) : t.length ≤ 20 := by
  unfold valB at h
  rw [Bool.and_eq_true] at h
  exact (len_pos h.1).2
theorem wds_G (c : Int) (n : Nat) : NsG (wdsF c n) := fun x hx => by
  obtain ⟨k, _, rfl⟩ := List.mem_map.mp hx
  exact ⟨wd_nam _ _, wd_rsv _ _, Nat.le_trans (nam_len (wd_nam _ _)) (by decide)⟩
theorem wos_G (c : Int) (n : Nat) : WsG (wosF c n) := fun x hx => by
  obtain ⟨k, _, rfl⟩ := List.mem_map.mp hx
  exact ⟨wo_val _ _, Nat.le_trans (val_len (wo_val _ _)) (by decide)⟩
theorem at_wd0 {c : Int} {m k : Nat} (h : k < m) : ((wdsF c m).map PyData.str)[k]? = some (.str (wdF c (0 + (k : Nat)))) := by
  unfold wdsF
  rw [List.map_map, List.getElem?_map, List.getElem?_range h]; rfl
/-- what a drawn world keeps -/
structure WoF (x : SuP) (ns ws : List Str) : Prop where
  wk : 2 ≤ x.wk ∧ x.wk ≤ 24
  l : LseOk x
  pp : (1 ≤ x.pp.length ∧ x.pp.length ≤ 4) ∧ ∀ y ∈ x.pp, 0 ≤ y.2 ∧ y.2 ≤ 3
  sc : (1 ≤ x.sc.length ∧ x.sc.length ≤ 2) ∧ ∀ y ∈ x.sc, ScF x.wk (x.pp.map (·.1)) y
  po : (1 ≤ x.po.length ∧ x.po.length ≤ 2) ∧ ∀ y ∈ x.po, LvF (x.sc.map (·.1)) y.2
  wi : x.wi.length ≤ 2 ∧ ∀ y ∈ x.wi, ShF x.wk y.2
  ro : (1 ≤ x.ro.length ∧ x.ro.length ≤ 4) ∧ ∀ (j : Nat) y, x.ro[j]? = some y → RouF ns ws (x.po.map (·.1)) (x.wi.map (·.1)) j y
  tr : ∃ ts : List WL.Rou, x.ro = ts.map toRo ∧ treeOk ts
  ho : x.ho.length ≤ 2 ∧ ∀ h ∈ x.ho, HobF ns ws h
  rp : 1 ≤ x.rp ∧ x.rp ≤ 3
  pa : 0 ≤ x.pa ∧ x.pa ≤ 3
  dn : 0 ≤ x.dn ∧ x.dn ≤ 2
  lb : x.lb = 5
  nl : ns.length = 3 ∧ NsG ns
  wl : ws.length = 3 ∧ WsG ws
section
variable {P : Program} {w : World} {K : PySem.W.Frag} {mg : Str → Option Value} {base : Heap} {f : Addr} {fd : FuncData} {Tb : List Addr} {k : Nat}
def A_wld : List PyData → Prop := fun ds => ∃ s : List Int, ds = [iL s]
def R_wld (K : PySem.W.Frag) (Ca : Addr) : List PyData → Hp → List Sl → Prop := fun ds F Gs => ∃ (x : SuP) (a : Addr) (ns ws : List Str), Gs = [.raw (.ref a), .fz (sL ns), .fz (sL ws)] ∧ ObF K F a Ca (suF x) ∧ WoF x ns ws
set_option maxHeartbeats 20000000 in
theorem ok_wld {Ca : Addr} (Fn : Fun K "_law_world" "_law_world" s_l_law_world f fd) (hm : mg "_law_world" = some (.ref f)) (hb : Binds K fd ["_law_script_here"] []) (Z : Zb mg)
    (D_l_law_cell : Df P w K mg base 1 "_law_cell" ["_law_script_here", "_law_k"] (spD K Tb R_cell))
    (D_l_law_draws : Df P w K mg base 1 "_law_draws" ["_law_cell_here", "_law_many"] (spD K Tb R_draws))
    (D_l_law_words : Df P w K mg base 1 "_law_words" ["_law_cell_here", "_law_many"] (spD K Tb WL.R_words))
    (D_l_law_worths : Df P w K mg base 1 "_law_worths" ["_law_cell_here", "_law_many"] (spD K Tb WL.R_worths))
    (D_l_law_rota : Df P w K mg base 2 "_law_rota" ["_law_cell_here", "_law_name", "_law_crew", "_law_days"] (spA K Tb A_rota R_rota))
    (D_l_law_ladder : Df P w K mg base 1 "_law_ladder" ["_law_draws_here", "_law_name", "_law_titles"] (spA K Tb A_lad R_lad))
    (D_l_law_shutter : Df P w K mg base 1 "_law_shutter" ["_law_draws_here", "_law_name", "_law_days"] (spA K Tb A_shu R_shu))
    (D_l_law_route : Df P w K mg base 2 "_law_route" ["_law_cell_here", "_law_place", "_law_names", "_law_worths_here", "_law_ladders", "_law_shutters"] (spD K Tb WL.R_route))
    (D_l_law_holds : Df P w K mg base 2 "_law_holds" ["_law_cell_here", "_law_names", "_law_worths_here"] (spA K Tb A_hol R_hol))
    (D_l_law_setup : Df P w K mg base 14 "_law_setup" ["_law_days", "_law_staff", "_law_rotas", "_law_ladders", "_law_shutters", "_law_tree", "_law_holds_here", "_law_books", "_law_numbers"] (spSO K Tb Ca R_lse)) :
    Df P w K mg base 15 "_law_world" ["_law_script_here"] (spML K Tb A_wld (R_wld K Ca)) := by
  refine df_ML Fn sc_l_law_world hm hb (fun ds h => by obtain ⟨_, rfl⟩ := h; rfl) fun cdv A outer s H Ek hr => ⟨_, (pss_cons (ps_set (i := 1) sc_l_law_world.nd rfl (by first | exact .inl rfl | exact .inr rfl) (pe_df D_l_law_words hr (by first | decide | exact Nat.le_refl _ | omega) (by rfl) (pa_cons (pe_df D_l_law_cell hr (by first | decide | exact Nat.le_refl _ | omega) (by rfl) (pa_cons (pv 0) (pa_cons pe_int pa_nil))) (pa_cons pe_int pa_nil))))
      (pss_cons (ps_set (i := 2) sc_l_law_world.nd rfl (by first | exact .inl rfl | exact .inr rfl) (pe_df D_l_law_words hr (by first | decide | exact Nat.le_refl _ | omega) (by rfl) (pa_cons (pe_df D_l_law_cell hr (by first | decide | exact Nat.le_refl _ | omega) (by rfl) (pa_cons (pv 0) (pa_cons pe_int pa_nil))) (pa_cons pe_int pa_nil))))
      (pss_cons (ps_set (i := 3) sc_l_law_world.nd rfl (by first | exact .inl rfl | exact .inr rfl) (pe_df D_l_law_worths hr (by first | decide | exact Nat.le_refl _ | omega) (by rfl) (pa_cons (pe_df D_l_law_cell hr (by first | decide | exact Nat.le_refl _ | omega) (by rfl) (pa_cons (pv 0) (pa_cons pe_int pa_nil))) (pa_cons pe_int pa_nil))))
      (pss_cons (ps_set (i := 4) sc_l_law_world.nd rfl (by first | exact .inl rfl | exact .inr rfl) (pe_df D_l_law_draws hr (by first | decide | exact Nat.le_refl _ | omega) (by rfl) (pa_cons (pe_df D_l_law_cell hr (by first | decide | exact Nat.le_refl _ | omega) (by rfl) (pa_cons (pv 0) (pa_cons pe_int pa_nil))) (pa_cons pe_int pa_nil))))
      (pss_cons (ps_set (i := 5) sc_l_law_world.nd rfl (by first | exact .inl rfl | exact .inr rfl) (pe_op (uAddK K) pe_int (pe_op op_mod (pe_callTy uInt (by rfl) Z.int (by decide +kernel) (pa_cons (pe_ix (ix_seqK K) (pv 4) pe_int (fun _ _ => rfl)) pa_nil)) pe_int)))
      (pss_cons (ps_setLc (i := 6) (own := [("_law_k", 15)]) (by rfl) sc_l_law_world.nd rfl rfl (sw_true rfl rfl rfl (by decide +kernel)) (pi_range1 (by rfl) Z.range (pa_cons (pe_op (uAddK K) pe_int (pe_op op_mod (pe_callTy uInt (by rfl) Z.int (by decide +kernel) (pa_cons (pe_ix (ix_seqK K) (pv 4) pe_int (fun _ _ => rfl)) pa_nil)) pe_int)) pa_nil)) (blkOk_by (own := [("_law_k", 15)]) (N := N_l_law_world) (sc := defScope s_l_law_world) (by decide +kernel)) (fun _ _ _ _ _ => (pg_name (i := 15) sc_l_law_world.nd rfl (by first | exact .inl rfl | exact .inr rfl))) (fun _ _ _ _ _ => pts_nil) (fun _ _ _ _ _ => (pe_tup (pa_cons (pe_ix (ix_seqK K) (pv 1) (pv 15) (fun _ _ => rfl)) (pa_cons (pe_op op_mod (pe_callTy uInt (by rfl) Z.int (by decide +kernel) (pa_cons (pe_ix (ix_seqK K) (pv 4) (pe_op (uAddK K) pe_int (pv 15)) (fun _ _ => rfl)) pa_nil)) pe_int) pa_nil)))))
      (pss_cons (ps_set (i := 7) sc_l_law_world.nd rfl (by first | exact .inl rfl | exact .inr rfl) (pe_lc (own := [("_law_person", 19)]) (by rfl) sc_l_law_world.nd (pi_any (pv 6)) (blkOk_by (own := [("_law_person", 19)]) (N := N_l_law_world) (sc := defScope s_l_law_world) (by decide +kernel)) (fun _ _ _ _ _ => (pg_name (i := 19) sc_l_law_world.nd rfl (by first | exact .inl rfl | exact .inr rfl))) (fun _ _ _ _ _ => pts_nil) (fun _ _ _ _ _ => (pe_ix (ix_seqK K) (pv 19) pe_int (fun _ _ => rfl)))))
      (pss_cons (ps_set (i := 8) sc_l_law_world.nd rfl (by first | exact .inl rfl | exact .inr rfl) (pe_slice (uSlK K) (pv 1) (po_some pe_int) (po_some (pe_op (uAddK K) pe_int (pe_op op_mod (pe_callTy uInt (by rfl) Z.int (by decide +kernel) (pa_cons (pe_ix (ix_seqK K) (pv 4) pe_int (fun _ _ => rfl)) pa_nil)) pe_int)))))
      (pss_cons (ps_setLc (i := 9) (own := [("_law_k", 15)]) (by rfl) sc_l_law_world.nd rfl rfl (sw_true rfl rfl rfl (by decide +kernel)) (pi_range1 (by rfl) Z.range (pa_cons (pe_callB (uLenK K) (by rfl) Z.len (by decide +kernel) (pa_cons (pv 8) pa_nil)) pa_nil)) (blkOk_by (own := [("_law_k", 15)]) (N := N_l_law_world) (sc := defScope s_l_law_world) (by decide +kernel)) (fun _ _ _ _ _ => (pg_name (i := 15) sc_l_law_world.nd rfl (by first | exact .inl rfl | exact .inr rfl))) (fun _ _ _ _ _ => pts_nil) (fun _ _ _ _ _ => (pe_df D_l_law_rota hr (by first | decide | exact Nat.le_refl _ | omega) (by rfl) (pa_cons (pe_df D_l_law_cell hr (by first | decide | exact Nat.le_refl _ | omega) (by rfl) (pa_cons (pv 0) (pa_cons (pe_op (uAddK K) pe_int (pv 15)) pa_nil))) (pa_cons (pe_ix (ix_seqK K) (pv 8) (pv 15) (fun _ _ => rfl)) (pa_cons (pv 7) (pa_cons (pv 5) pa_nil)))))))
      (pss_cons (ps_set (i := 10) sc_l_law_world.nd rfl (by first | exact .inl rfl | exact .inr rfl) (pe_df D_l_law_draws hr (by first | decide | exact Nat.le_refl _ | omega) (by rfl) (pa_cons (pe_df D_l_law_cell hr (by first | decide | exact Nat.le_refl _ | omega) (by rfl) (pa_cons (pv 0) (pa_cons pe_int pa_nil))) (pa_cons pe_int pa_nil))))
      (pss_cons (ps_setLc (i := 11) (own := [("_law_k", 15)]) (by rfl) sc_l_law_world.nd rfl rfl (sw_true rfl rfl rfl (by decide +kernel)) (pi_range1 (by rfl) Z.range (pa_cons (pe_op (uAddK K) pe_int (pe_op op_mod (pe_callTy uInt (by rfl) Z.int (by decide +kernel) (pa_cons (pe_ix (ix_seqK K) (pv 4) pe_int (fun _ _ => rfl)) pa_nil)) pe_int)) pa_nil)) (blkOk_by (own := [("_law_k", 15)]) (N := N_l_law_world) (sc := defScope s_l_law_world) (by decide +kernel)) (fun _ _ _ _ _ => (pg_name (i := 15) sc_l_law_world.nd rfl (by first | exact .inl rfl | exact .inr rfl))) (fun _ _ _ _ _ => pts_nil) (fun _ _ _ _ _ => (pe_df D_l_law_ladder hr (by first | decide | exact Nat.le_refl _ | omega) (by rfl) (pa_cons (pe_slice (uSlK K) (pv 10) (po_some (pe_op uMul pe_int (pv 15))) (po_some (pe_op (uAddK K) (pe_op uMul pe_int (pv 15)) pe_int))) (pa_cons (pe_ix (ix_seqK K) (pv 1) (pe_op (uAddK K) pe_int (pv 15)) (fun _ _ => rfl)) (pa_cons (pv 8) pa_nil))))))
      (pss_cons (ps_set (i := 12) sc_l_law_world.nd rfl (by first | exact .inl rfl | exact .inr rfl) (pe_df D_l_law_draws hr (by first | decide | exact Nat.le_refl _ | omega) (by rfl) (pa_cons (pe_df D_l_law_cell hr (by first | decide | exact Nat.le_refl _ | omega) (by rfl) (pa_cons (pv 0) (pa_cons pe_int pa_nil))) (pa_cons pe_int pa_nil))))
      (pss_cons (ps_setLc (i := 13) (own := [("_law_k", 15)]) (by rfl) sc_l_law_world.nd rfl rfl (sw_true rfl rfl rfl (by decide +kernel)) (pi_range1 (by rfl) Z.range (pa_cons (pe_op op_mod (pe_callTy uInt (by rfl) Z.int (by decide +kernel) (pa_cons (pe_ix (ix_seqK K) (pv 4) pe_int (fun _ _ => rfl)) pa_nil)) pe_int) pa_nil)) (blkOk_by (own := [("_law_k", 15)]) (N := N_l_law_world) (sc := defScope s_l_law_world) (by decide +kernel)) (fun _ _ _ _ _ => (pg_name (i := 15) sc_l_law_world.nd rfl (by first | exact .inl rfl | exact .inr rfl))) (fun _ _ _ _ _ => pts_nil) (fun _ _ _ _ _ => (pe_df D_l_law_shutter hr (by first | decide | exact Nat.le_refl _ | omega) (by rfl) (pa_cons (pe_slice (uSlK K) (pv 12) (po_some (pe_op uMul pe_int (pv 15))) (po_some (pe_op (uAddK K) (pe_op uMul pe_int (pv 15)) pe_int))) (pa_cons (pe_ix (ix_seqK K) (pv 1) (pv 15) (fun _ _ => rfl)) (pa_cons (pv 5) pa_nil))))))
      (pss_cons (ps_set (i := 14) sc_l_law_world.nd rfl (by first | exact .inl rfl | exact .inr rfl) (pe_lst pa_nil))
      (pss_cons (ps_for PassesOwn.never rfl (pi_range1 (by rfl) Z.range (pa_cons (pe_op (uAddK K) pe_int (pe_op op_mod (pe_callTy uInt (by rfl) Z.int (by decide +kernel) (pa_cons (pe_ix (ix_seqK K) (pv 4) pe_int (fun _ _ => rfl)) pa_nil)) pe_int)) pa_nil)) (pg_name (i := 15) sc_l_law_world.nd rfl (by first | exact .inl rfl | exact .inr rfl)) (pss_cons (ps_set (i := 8) sc_l_law_world.nd rfl (by first | exact .inl rfl | exact .inr rfl) (pe_lc (own := [("_law_shutter_here", 20)]) (by rfl) sc_l_law_world.nd (pi_any (pv 13)) (blkOk_by (own := [("_law_shutter_here", 20)]) (N := N_l_law_world) (sc := defScope s_l_law_world) (by decide +kernel)) (fun _ _ _ _ _ => (pg_name (i := 20) sc_l_law_world.nd rfl (by first | exact .inl rfl | exact .inr rfl))) (fun _ _ _ _ _ => pts_nil) (fun _ _ _ _ _ => (pe_ix (ix_seqK K) (pv 20) pe_int (fun _ _ => rfl)))))
      (pss_one (ps_expr (pe_bm PySem.F.plainAttrs_list PySem.F.slot_list_append PySem.F.type_list_append mt_append (pv 14) (pa_cons (pe_df D_l_law_route hr (by first | decide | exact Nat.le_refl _ | omega) (by rfl) (pa_cons (pe_df D_l_law_cell hr (by first | decide | exact Nat.le_refl _ | omega) (by rfl) (pa_cons (pv 0) (pa_cons (pe_op (uAddK K) pe_int (pv 15)) pa_nil))) (pa_cons (pv 15) (pa_cons (pv 2) (pa_cons (pv 3) (pa_cons (pe_lc (own := [("_law_ladder_here", 21)]) (by rfl) sc_l_law_world.nd (pi_any (pv 11)) (blkOk_by (own := [("_law_ladder_here", 21)]) (N := N_l_law_world) (sc := defScope s_l_law_world) (by decide +kernel)) (fun _ _ _ _ _ => (pg_name (i := 21) sc_l_law_world.nd rfl (by first | exact .inl rfl | exact .inr rfl))) (fun _ _ _ _ _ => pts_nil) (fun _ _ _ _ _ => (pe_ix (ix_seqK K) (pv 21) pe_int (fun _ _ => rfl)))) (pa_cons (pv 8) pa_nil))))))) pa_nil))))))
      (pss_cons (ps_set (i := 16) sc_l_law_world.nd rfl (by first | exact .inl rfl | exact .inr rfl) (pe_df D_l_law_holds hr (by first | decide | exact Nat.le_refl _ | omega) (by rfl) (pa_cons (pe_df D_l_law_cell hr (by first | decide | exact Nat.le_refl _ | omega) (by rfl) (pa_cons (pv 0) (pa_cons pe_int pa_nil))) (pa_cons (pv 2) (pa_cons (pv 3) pa_nil)))))
      (pss_cons (ps_set (i := 17) sc_l_law_world.nd rfl (by first | exact .inl rfl | exact .inr rfl) (pe_lst (pa_cons (pe_op (uAddK K) pe_int (pe_op op_mod (pe_callTy uInt (by rfl) Z.int (by decide +kernel) (pa_cons (pe_ix (ix_seqK K) (pv 4) pe_int (fun _ _ => rfl)) pa_nil)) pe_int)) (pa_cons (pe_op op_mod (pe_callTy uInt (by rfl) Z.int (by decide +kernel) (pa_cons (pe_ix (ix_seqK K) (pv 4) pe_int (fun _ _ => rfl)) pa_nil)) pe_int) (pa_cons (pe_op op_mod (pe_callTy uInt (by rfl) Z.int (by decide +kernel) (pa_cons (pe_ix (ix_seqK K) (pv 4) pe_int (fun _ _ => rfl)) pa_nil)) pe_int) (pa_cons pe_int pa_nil))))))
      (pss_cons (ps_set (i := 18) sc_l_law_world.nd rfl (by first | exact .inl rfl | exact .inr rfl) (pe_df D_l_law_setup hr (by first | decide | exact Nat.le_refl _ | omega) (by rfl) (pa_cons (pv 5) (pa_cons (pv 6) (pa_cons (pv 9) (pa_cons (pv 11) (pa_cons (pv 13) (pa_cons (pv 14) (pa_cons (pv 16) (pa_cons (pe_lst pa_nil) (pa_cons (pv 17) pa_nil)))))))))))
      (pss_one (ps_ret (pe_lst (pa_cons (pv 18) (pa_cons (pv 2) (pa_cons (pv 3) pa_nil)))))))))))))))))))))))),  fun ds F0 H0 Q r rt => ?_⟩
  obtain ⟨s, rfl⟩ := r
  show S _ _ _ [.fz (iL s), .un, .un, .un, .un, .un, .un, .un, .un, .un, .un, .un, .un, .un, .un, .un, .un, .un, .un, .un, .un, .un]
  refine q_asg (d := sL (wdsF (cellF s 0) 8)) (e_call (ds := [.int (cellF s 0), .int 8]) (a_cons (e_call (ds := [iL s, .int 0]) (a_cons (e_var rfl) (a_cons e_int a_nil)) ⟨s, 0, rfl, by decide, rfl⟩) (a_cons e_int a_nil)) ⟨_, 8, rfl, by decide, rfl⟩) ?_
  generalize cellF s 0 = c0
  refine q_asg (d := sL (wdsF (cellF s 1) 3)) (e_call (ds := [.int (cellF s 1), .int 3]) (a_cons (e_call (ds := [iL s, .int 1]) (a_cons (e_var rfl) (a_cons e_int a_nil)) ⟨s, 1, rfl, by decide, rfl⟩) (a_cons e_int a_nil)) ⟨_, 3, rfl, by decide, rfl⟩) ?_
  refine q_asg (d := sL (wosF (cellF s 1) 3)) (e_call (ds := [.int (cellF s 1), .int 3]) (a_cons (e_call (ds := [iL s, .int 1]) (a_cons (e_var rfl) (a_cons e_int a_nil)) ⟨s, 1, rfl, by decide, rfl⟩) (a_cons e_int a_nil)) ⟨_, 3, rfl, by decide, rfl⟩) ?_
  have nl := wds_len (cellF s 1) 3
  have nG := wds_G (cellF s 1) 3
  have wl := wos_len (cellF s 1) 3
  have wG := wos_G (cellF s 1) 3
  generalize wdsF (cellF s 1) 3 = ns at nl nG ⊢
  generalize wosF (cellF s 1) 3 = ws at wl wG ⊢
  have dl := draws_len (cellF s 2) 16
  refine q_asg (d := iL (draws (cellF s 2) 16)) (e_call (ds := [.int (cellF s 2), .int 16]) (a_cons (e_call (ds := [iL s, .int 2]) (a_cons (e_var rfl) (a_cons e_int a_nil)) ⟨s, 2, rfl, by decide, rfl⟩) (a_cons e_int a_nil)) ⟨_, 16, rfl, by decide, rfl⟩) ?_
  generalize draws (cellF s 2) 16 = D at dl ⊢
  have at_ : ∀ k : Int, 0 ≤ k → k < 16 → atI (D.map PyData.int) k = some (.int (itI D k)) := fun k h0 h1 => at_int h0 (by omega)
  have rd : ∀ {g' : Gd} {G : List Sl} (z : Int), 0 ≤ z → z < 16 → G[4]? = some (.fz (iL D)) → E g' (tCB rIntU (tCons (tOp (rIx g'.K) (tVar 4) (tC (.int z))) tNil)) G (.int (itI D z)) := fun z h0 h1 h => b_cb (ab_cons (E.b (e_op (e_var h) e_int (ix_l (at_ z h0 h1)))) ab_nil) int_i rfl
  show S _ _ _ [.fz (iL s), .fz (sL (wdsF c0 8)), .fz (sL ns), .fz (sL ws), .fz (iL D), .un, .un, .un, .un, .un, .un, .un, .un, .un, .un, .un, .un, .un, .un, .un, .un, .un]
  have m0 := md (itI D 0) 23 (by decide)
  have m5 := md (itI D 5) 4 (by decide)
  have m6 := md (itI D 6) 2 (by decide)
  have m7 := md (itI D 7) 2 (by decide)
  have m8 := md (itI D 8) 3 (by decide)
  have m9 := md (itI D 9) 4 (by decide)
  refine q_asg (d := .int (2 + itI D 0 % 23)) (e_op e_int (e_op (rd 0 (by decide) (by decide) rfl) e_int (mod_i (by decide))) add_i) ?_
  have w1 : 2 ≤ 2 + itI D 0 % 23 ∧ 2 + itI D 0 % 23 ≤ 24 := by omega
  generalize 2 + itI D 0 % 23 = w at w1 ⊢
  show S _ _ _ [.fz (iL s), .fz (sL (wdsF c0 8)), .fz (sL ns), .fz (sL ws), .fz (iL D), .fz (.int w), .un, .un, .un, .un, .un, .un, .un, .un, .un, .un, .un, .un, .un, .un, .un, .un]
  -- the staff
  refine q_asgL (ds := ((List.range (1 + itI D 5 % 4).toNat).map fun k => ((wdF c0 (0 + (k : Nat)), itI D (1 + (0 + (k : Nat))) % 4) : Pp)).map fun y => enE (ppE y)) ?_ ?_
  · have er : ((List.range (1 + itI D 5 % 4).toNat).map fun k => ((wdF c0 (0 + (k : Nat)), itI D (1 + (0 + (k : Nat))) % 4) : Pp)).map (fun y => enE (ppE y)) = (rngD 0 (1 + itI D 5 % 4).toNat).filterMap (fI fun i => .tuple [.str (wdF c0 i), .int (itI D (1 + i) % 4)]) := by rw [fI_rng, List.map_map]; rfl
    rw [er]
    refine el_lc (ix := [15]) _ (fun y => [.fz (iL s), .fz (sL (wdsF c0 8)), .fz (sL ns), .fz (sL ws), .fz (iL D), .fz (.int w), .un, .un, .un, .un, .un, .un, .un, .un, .un, .fz y, .un, .un, .un, .un, .un, .un]) (it_rng1 (n := 1 + itI D 5 % 4) (a_cons (e_op e_int (e_op (rd 5 (by decide) (by decide) rfl) e_int (mod_i (by decide))) add_i) a_nil) (by omega) (by omega)) (by rw [rngD_len]; omega) (fun F1 d hd => g_name) (by decide) (fun F1 d hd => ?_) fun F1 d hd y hy => ?_
    · obtain ⟨i, hi⟩ := List.getElem?_of_mem hd
      obtain ⟨_, rfl⟩ := rngD_get hi
      exact t_yes
    · obtain ⟨i, hi⟩ := List.getElem?_of_mem hd
      obtain ⟨h1, rfl⟩ := rngD_get hi
      cases hy
      exact e_tup (a_cons (e_op (e_var rfl) (e_var rfl) (ix_l (at_of (at_wd0 (m := 8) (by omega))))) (a_cons (e_op (b_cb (ab_cons (E.b (e_op (e_var rfl) (e_op e_int (e_var rfl) add_i) (ix_l (at_ _ (by omega) (by omega))))) ab_nil) int_i rfl) e_int (mod_i (by decide))) a_nil)) (Nat.le_of_ble_eq_true rfl)
  have pn : (((List.range (1 + itI D 5 % 4).toNat).map fun k => ((wdF c0 (0 + (k : Nat)), itI D (1 + (0 + (k : Nat))) % 4) : Pp)).map (·.1)).Nodup := by
    rw [List.map_map]
    exact wdr_nd c0 (fun k => 0 + (k : Nat)) (1 + itI D 5 % 4).toNat 0 (fun k => by show (0 : Int) + _ = ((0 : Nat) : Int) + _; omega) (by omega)
  have pnam : ∀ y ∈ ((List.range (1 + itI D 5 % 4).toNat).map fun k => ((wdF c0 (0 + (k : Nat)), itI D (1 + (0 + (k : Nat))) % 4) : Pp)), namB y.1 = true ∧ 0 ≤ y.2 ∧ y.2 ≤ 3 := fun y hy => by
    obtain ⟨k, _, rfl⟩ := List.mem_map.mp hy
    have := md (itI D (1 + (0 + (k : Nat)))) 4 (by decide)
    exact ⟨wd_nam _ _, this.1, by show _ % 4 ≤ 3; omega⟩
  have ppl : ((List.range (1 + itI D 5 % 4).toNat).map fun k => ((wdF c0 (0 + (k : Nat)), itI D (1 + (0 + (k : Nat))) % 4) : Pp)).length = (1 + itI D 5 % 4).toNat := by rw [List.length_map, List.length_range]
  generalize ((List.range (1 + itI D 5 % 4).toNat).map fun k => ((wdF c0 (0 + (k : Nat)), itI D (1 + (0 + (k : Nat))) % 4) : Pp)) = pp at pn pnam ppl ⊢
  have pl : 1 ≤ pp.length ∧ pp.length ≤ 4 := by omega
  show S _ _ _ [.fz (iL s), .fz (sL (wdsF c0 8)), .fz (sL ns), .fz (sL ws), .fz (iL D), .fz (.int w), .ow (pp.map fun y => enE (ppE y)), .un, .un, .un, .un, .un, .un, .un, .un, .un, .un, .un, .un, .un, .un, .un]
  refine s_frz (i := 6) rfl ?_
  show S _ _ _ [.fz (iL s), .fz (sL (wdsF c0 8)), .fz (sL ns), .fz (sL ws), .fz (iL D), .fz (.int w), .fz (.list (pp.map fun y => enE (ppE y))), .un, .un, .un, .un, .un, .un, .un, .un, .un, .un, .un, .un, .un, .un, .un]
  refine q_asg (d := sL (pp.map (·.1))) (by
    show E _ _ _ (.list ((pp.map (·.1)).map PyData.str))
    rw [List.map_map]
    exact EL.e (el_mapA (vs := [19]) (ix := [19]) (fun y => enE (ppE y)) ppI pp (fun p => .str p.1) (fun p => [.fz (iL s), .fz (sL (wdsF c0 8)), .fz (sL ns), .fz (sL ws), .fz (iL D), .fz (.int w), .fz (.list (pp.map fun y => enE (ppE y))), .un, .un, .un, .un, .un, .un, .un, .un, .un, .un, .un, .un, .fz (enE (ppE p)), .un, .un]) (it_al (e_var rfl)) (by omega) (fun F1 x hx => g_name) (by decide) fun F1 x hx => e_op (x := .tuple [.str x.1, .int x.2]) (e_var rfl) e_int (ix_t rfl))) ?_
  show S _ _ _ [.fz (iL s), .fz (sL (wdsF c0 8)), .fz (sL ns), .fz (sL ws), .fz (iL D), .fz (.int w), .fz (.list (pp.map fun y => enE (ppE y))), .fz (sL (pp.map (·.1))), .un, .un, .un, .un, .un, .un, .un, .un, .un, .un, .un, .un, .un, .un]
  have cl : (pp.map (·.1)).length = pp.length := List.length_map _
  -- the titles
  refine q_asg (d := sL (cutA (wdsF c0 8) (some 4) (some (5 + itI D 6 % 2)))) (by
    show E _ _ _ (.list ((cutA (wdsF c0 8) (some 4) (some (5 + itI D 6 % 2))).map PyData.str))
    rw [← cut_map]
    exact EL.e (el_sl (e_var rfl) (o_some e_int) (o_some (e_op e_int (e_op (rd 6 (by decide) (by decide) rfl) e_int (mod_i (by decide))) add_i)))) ?_
  have tn : (cutA (wdsF c0 8) (some 4) (some (5 + itI D 6 % 2))).Nodup := List.Nodup.sublist ((List.take_sublist _ _).trans (List.drop_sublist _ _)) (wds_nd8 c0)
  have tm : ∀ t ∈ cutA (wdsF c0 8) (some 4) (some (5 + itI D 6 % 2)), namB t = true := fun t ht => (wds_G c0 8 t (cut_mem ht)).1
  have tl : (cutA (wdsF c0 8) (some 4) (some (5 + itI D 6 % 2))).length = (5 + itI D 6 % 2).toNat - 4 := by
    have e1 : (5 + itI D 6 % 2 : Int) = (((5 + itI D 6 % 2).toNat : Nat) : Int) := by omega
    rw [e1]
    have := cutA_len (wdsF c0 8) 4 (5 + itI D 6 % 2).toNat (by rw [wds_len]; omega)
    rw [show ((4 : Nat) : Int) = (4 : Int) from rfl] at this
    rw [this]; omega
  generalize cutA (wdsF c0 8) (some 4) (some (5 + itI D 6 % 2)) = ti at tn tm tl ⊢
  have tl2 : 1 ≤ ti.length ∧ ti.length ≤ 2 := by omega
  show S _ _ _ [.fz (iL s), .fz (sL (wdsF c0 8)), .fz (sL ns), .fz (sL ws), .fz (iL D), .fz (.int w), .fz (.list (pp.map fun y => enE (ppE y))), .fz (sL (pp.map (·.1))), .fz (sL ti), .un, .un, .un, .un, .un, .un, .un, .un, .un, .un, .un, .un, .un]
  have te : (((ti.map PyData.str).length : Nat) : Int) = ((ti.length : Nat) : Int) := by rw [List.length_map]
  -- the schedules
  refine q_asgLP (P := All2 (fun d e => ∀ i : Nat, d = .int (0 + (i : Nat)) → ∃ x : Sc, e = enE (scE x) ∧ (ti[i]? = some x.1 ∧ ScF w (pp.map (·.1)) x)) (rngD 0 (((ti.map PyData.str).length : Nat) : Int).toNat)) (elp_lc (ix := [15]) (fun d e => ∀ i : Nat, d = .int (0 + (i : Nat)) → ∃ x : Sc, e = enE (scE x) ∧ (ti[i]? = some x.1 ∧ ScF w (pp.map (·.1)) x)) (fun y => [.fz (iL s), .fz (sL (wdsF c0 8)), .fz (sL ns), .fz (sL ws), .fz (iL D), .fz (.int w), .fz (.list (pp.map fun y => enE (ppE y))), .fz (sL (pp.map (·.1))), .fz (sL ti), .un, .un, .un, .un, .un, .un, .fz y, .un, .un, .un, .un, .un, .un]) (it_rng1 (n := (((ti.map PyData.str).length : Nat) : Int)) (a_cons (b_cb (ab_cons (E.b (e_var rfl)) ab_nil) len_l rfl) a_nil) (by omega) (by omega)) (by rw [rngD_len]; omega) (fun F1 d hd => g_name) (by decide) fun F1 d hd => ?_) fun es hes => ?_
  · obtain ⟨i, hi⟩ := List.getElem?_of_mem hd
    obtain ⟨h1, rfl⟩ := rngD_get hi
    have h1 : i < ti.length := by omega
    have ht : ti[i]? = some ti[i] := List.getElem?_eq_getElem h1
    generalize ti[i] = t at ht
    have ht2 : (ti.map PyData.str)[i]? = some (.str t) := by rw [List.getElem?_map, ht]; rfl
    refine EP.mono (P1 := R_rota [.int (cellF s (3 + (0 + (i : Nat)))), .str t, sL (pp.map (·.1)), .int w]) (p_call (Ad := A_rota) (R := R_rota) (a_cons (e_call (ds := [iL s, .int (3 + (0 + (i : Nat)))]) (a_cons (e_var rfl) (a_cons (e_op e_int (e_var rfl) add_i) a_nil)) ⟨s, _, rfl, by omega, rfl⟩) (a_cons (e_op (e_var rfl) (e_var rfl) (ix_l (at_of ht2))) (a_cons (e_var rfl) (a_cons (e_var rfl) a_nil)))) ⟨_, t, _, w, rfl, by omega, by omega⟩) fun e he i' hi' => ?_
    obtain rfl := int0_inj hi'
    obtain ⟨x, e1, e2, e3⟩ := he _ _ _ _ rfl
    exact ⟨x, e1, by rw [e2]; exact ht, e3⟩
  obtain ⟨sc, rfl, scl, hsc⟩ := a2_list (enc := fun y : Sc => enE (scE y)) hes
  clear hes
  have scl : sc.length = ti.length := by rw [scl]; omega
  have scn : sc.map (·.1) = ti := names_by scl fun i x hx => (hsc i x hx).1
  have scf : ∀ y ∈ sc, ScF w (pp.map (·.1)) y := fun y hy => by obtain ⟨i, hi⟩ := List.getElem?_of_mem hy; exact (hsc i y hi).2
  clear hsc
  show S _ _ _ [.fz (iL s), .fz (sL (wdsF c0 8)), .fz (sL ns), .fz (sL ws), .fz (iL D), .fz (.int w), .fz (.list (pp.map fun y => enE (ppE y))), .fz (sL (pp.map (·.1))), .fz (sL ti), .ow (sc.map fun y => enE (scE y)), .un, .un, .un, .un, .un, .un, .un, .un, .un, .un, .un, .un]
  refine s_frz (i := 9) rfl ?_
  show S _ _ _ [.fz (iL s), .fz (sL (wdsF c0 8)), .fz (sL ns), .fz (sL ws), .fz (iL D), .fz (.int w), .fz (.list (pp.map fun y => enE (ppE y))), .fz (sL (pp.map (·.1))), .fz (sL ti), .fz (.list (sc.map fun y => enE (scE y))), .un, .un, .un, .un, .un, .un, .un, .un, .un, .un, .un, .un]
  have el := draws_len (cellF s 5) 16
  refine q_asg (d := iL (draws (cellF s 5) 16)) (e_call (ds := [.int (cellF s 5), .int 16]) (a_cons (e_call (ds := [iL s, .int 5]) (a_cons (e_var rfl) (a_cons e_int a_nil)) ⟨s, 5, rfl, by decide, rfl⟩) (a_cons e_int a_nil)) ⟨_, 16, rfl, by decide, rfl⟩) ?_
  generalize draws (cellF s 5) 16 = E8 at el ⊢
  show S _ _ _ [.fz (iL s), .fz (sL (wdsF c0 8)), .fz (sL ns), .fz (sL ws), .fz (iL D), .fz (.int w), .fz (.list (pp.map fun y => enE (ppE y))), .fz (sL (pp.map (·.1))), .fz (sL ti), .fz (.list (sc.map fun y => enE (scE y))), .fz (iL E8), .un, .un, .un, .un, .un, .un, .un, .un, .un, .un, .un]
  -- the ladders
  refine q_asgLP (P := All2 (fun d e => ∀ i : Nat, d = .int (0 + (i : Nat)) → ∃ x : Po, e = enE (poE x) ∧ (x.1 = wdF c0 (6 + (0 + (i : Nat))) ∧ LvF ti x.2)) (rngD 0 (1 + itI D 7 % 2).toNat)) (elp_lc (ix := [15]) (fun d e => ∀ i : Nat, d = .int (0 + (i : Nat)) → ∃ x : Po, e = enE (poE x) ∧ (x.1 = wdF c0 (6 + (0 + (i : Nat))) ∧ LvF ti x.2)) (fun y => [.fz (iL s), .fz (sL (wdsF c0 8)), .fz (sL ns), .fz (sL ws), .fz (iL D), .fz (.int w), .fz (.list (pp.map fun y => enE (ppE y))), .fz (sL (pp.map (·.1))), .fz (sL ti), .fz (.list (sc.map fun y => enE (scE y))), .fz (iL E8), .un, .un, .un, .un, .fz y, .un, .un, .un, .un, .un, .un]) (it_rng1 (n := 1 + itI D 7 % 2) (a_cons (e_op e_int (e_op (rd 7 (by decide) (by decide) rfl) e_int (mod_i (by decide))) add_i) a_nil) (by omega) (by omega)) (by rw [rngD_len]; omega) (fun F1 d hd => g_name) (by decide) fun F1 d hd => ?_) fun es hes => ?_
  · obtain ⟨i, hi⟩ := List.getElem?_of_mem hd
    obtain ⟨h1, rfl⟩ := rngD_get hi
    have h1 : i < 2 := by omega
    have e1 : (8 * (0 + (i : Nat)) : Int) = ((8 * i : Nat) : Int) := by omega
    have e2 : (8 * (0 + (i : Nat)) + 8 : Int) = ((8 * i + 8 : Nat) : Int) := by omega
    have lc : (cutA E8 (some (8 * (0 + (i : Nat)))) (some (8 * (0 + (i : Nat)) + 8))).length = 8 := by rw [e2, e1, cutA_len _ _ _ (by omega)]; omega
    have aw : atI ((wdsF c0 8).map PyData.str) (6 + (0 + (i : Nat))) = some (.str (wdF c0 (6 + (0 + (i : Nat))))) := by
      have := at_of (at_wd0 (c := c0) (m := 8) (k := 6 + i) (by omega))
      rwa [show (0 + ((6 + i : Nat) : Int)) = 6 + (0 + (i : Nat)) by omega] at this
    refine EP.mono (P1 := R_lad [iL (cutA E8 (some (8 * (0 + (i : Nat)))) (some (8 * (0 + (i : Nat)) + 8))), .str (wdF c0 (6 + (0 + (i : Nat)))), sL ti]) (p_call (Ad := A_lad) (R := R_lad) (a_cons (by
        show E _ _ _ (.list ((cutA E8 (some (8 * (0 + (i : Nat)))) (some (8 * (0 + (i : Nat)) + 8))).map .int))
        rw [← cut_map]
        exact EL.e (el_sl (e_var rfl) (o_some (e_op e_int (e_var rfl) (mul_i (.inl ⟨by decide, by decide⟩)))) (o_some (e_op (e_op e_int (e_var rfl) (mul_i (.inl ⟨by decide, by decide⟩))) e_int add_i)))) (a_cons (e_op (e_var rfl) (e_op e_int (e_var rfl) add_i) (ix_l aw)) (a_cons (e_var rfl) a_nil))) ⟨_, _, ti, rfl, lc, by omega⟩) fun e he i' hi' => ?_
    obtain rfl := int0_inj hi'
    obtain ⟨lv, e1, e2⟩ := he _ _ _ rfl
    exact ⟨(_, lv), e1, rfl, e2⟩
  obtain ⟨po, rfl, pol, hpo⟩ := a2_list (enc := fun y : Po => enE (poE y)) hes
  clear hes
  have pon : po.map (·.1) = (List.range (1 + itI D 7 % 2).toNat).map fun k => wdF c0 (6 + (0 + (k : Nat))) := names_by (by rw [pol, List.length_map, List.length_range]) fun i x hx => by
    have : i < (1 + itI D 7 % 2).toNat := by have := (List.getElem?_eq_some_iff.mp hx).1; omega
    rw [List.getElem?_map, List.getElem?_range this, (hpo i x hx).1]; rfl
  have pond : (po.map (·.1)).Nodup := by rw [pon]; exact wdr_nd c0 (fun k => 6 + (0 + (k : Nat))) (1 + itI D 7 % 2).toNat 6 (fun k => by show (6 : Int) + (0 + _) = ((6 : Nat) : Int) + _; omega) (by omega)
  have ponm : ∀ y ∈ po, namB y.1 = true ∧ LvF ti y.2 := fun y hy => by
    obtain ⟨i, hi⟩ := List.getElem?_of_mem hy
    obtain ⟨a, b⟩ := hpo i y hi
    exact ⟨by rw [a]; exact wd_nam _ _, b⟩
  have pol : 1 ≤ po.length ∧ po.length ≤ 2 := by omega
  clear hpo pon
  show S _ _ _ [.fz (iL s), .fz (sL (wdsF c0 8)), .fz (sL ns), .fz (sL ws), .fz (iL D), .fz (.int w), .fz (.list (pp.map fun y => enE (ppE y))), .fz (sL (pp.map (·.1))), .fz (sL ti), .fz (.list (sc.map fun y => enE (scE y))), .fz (iL E8), .ow (po.map fun y => enE (poE y)), .un, .un, .un, .un, .un, .un, .un, .un, .un, .un]
  refine s_frz (i := 11) rfl ?_
  show S _ _ _ [.fz (iL s), .fz (sL (wdsF c0 8)), .fz (sL ns), .fz (sL ws), .fz (iL D), .fz (.int w), .fz (.list (pp.map fun y => enE (ppE y))), .fz (sL (pp.map (·.1))), .fz (sL ti), .fz (.list (sc.map fun y => enE (scE y))), .fz (iL E8), .fz (.list (po.map fun y => enE (poE y))), .un, .un, .un, .un, .un, .un, .un, .un, .un, .un]
  have bl := draws_len (cellF s 6) 12
  refine q_asg (d := iL (draws (cellF s 6) 12)) (e_call (ds := [.int (cellF s 6), .int 12]) (a_cons (e_call (ds := [iL s, .int 6]) (a_cons (e_var rfl) (a_cons e_int a_nil)) ⟨s, 6, rfl, by decide, rfl⟩) (a_cons e_int a_nil)) ⟨_, 12, rfl, by decide, rfl⟩) ?_
  generalize draws (cellF s 6) 12 = E6 at bl ⊢
  show S _ _ _ [.fz (iL s), .fz (sL (wdsF c0 8)), .fz (sL ns), .fz (sL ws), .fz (iL D), .fz (.int w), .fz (.list (pp.map fun y => enE (ppE y))), .fz (sL (pp.map (·.1))), .fz (sL ti), .fz (.list (sc.map fun y => enE (scE y))), .fz (iL E8), .fz (.list (po.map fun y => enE (poE y))), .fz (iL E6), .un, .un, .un, .un, .un, .un, .un, .un, .un]
  -- the windows
  refine q_asgLP (P := All2 (fun d e => ∀ i : Nat, d = .int (0 + (i : Nat)) → ∃ x : Wi, e = enE (wiE x) ∧ (x.1 = wdF c0 (0 + (i : Nat)) ∧ ShF w x.2)) (rngD 0 (itI D 8 % 3).toNat)) (elp_lc (ix := [15]) (fun d e => ∀ i : Nat, d = .int (0 + (i : Nat)) → ∃ x : Wi, e = enE (wiE x) ∧ (x.1 = wdF c0 (0 + (i : Nat)) ∧ ShF w x.2)) (fun y => [.fz (iL s), .fz (sL (wdsF c0 8)), .fz (sL ns), .fz (sL ws), .fz (iL D), .fz (.int w), .fz (.list (pp.map fun y => enE (ppE y))), .fz (sL (pp.map (·.1))), .fz (sL ti), .fz (.list (sc.map fun y => enE (scE y))), .fz (iL E8), .fz (.list (po.map fun y => enE (poE y))), .fz (iL E6), .un, .un, .fz y, .un, .un, .un, .un, .un, .un]) (it_rng1 (n := itI D 8 % 3) (a_cons (e_op (rd 8 (by decide) (by decide) rfl) e_int (mod_i (by decide))) a_nil) (by omega) (by omega)) (by rw [rngD_len]; omega) (fun F1 d hd => g_name) (by decide) fun F1 d hd => ?_) fun es hes => ?_
  · obtain ⟨i, hi⟩ := List.getElem?_of_mem hd
    obtain ⟨h1, rfl⟩ := rngD_get hi
    have h1 : i < 2 := by omega
    have e1 : (6 * (0 + (i : Nat)) : Int) = ((6 * i : Nat) : Int) := by omega
    have e2 : (6 * (0 + (i : Nat)) + 6 : Int) = ((6 * i + 6 : Nat) : Int) := by omega
    have lc : (cutA E6 (some (6 * (0 + (i : Nat)))) (some (6 * (0 + (i : Nat)) + 6))).length = 6 := by rw [e2, e1, cutA_len _ _ _ (by omega)]; omega
    refine EP.mono (P1 := R_shu [iL (cutA E6 (some (6 * (0 + (i : Nat)))) (some (6 * (0 + (i : Nat)) + 6))), .str (wdF c0 (0 + (i : Nat))), .int w]) (p_call (Ad := A_shu) (R := R_shu) (a_cons (by
        show E _ _ _ (.list ((cutA E6 (some (6 * (0 + (i : Nat)))) (some (6 * (0 + (i : Nat)) + 6))).map .int))
        rw [← cut_map]
        exact EL.e (el_sl (e_var rfl) (o_some (e_op e_int (e_var rfl) (mul_i (.inl ⟨by decide, by decide⟩)))) (o_some (e_op (e_op e_int (e_var rfl) (mul_i (.inl ⟨by decide, by decide⟩))) e_int add_i)))) (a_cons (e_op (e_var rfl) (e_var rfl) (ix_l (at_of (at_wd0 (m := 8) (by omega))))) (a_cons (e_var rfl) a_nil))) ⟨_, _, w, rfl, lc, by omega⟩) fun e he i' hi' => ?_
    obtain rfl := int0_inj hi'
    obtain ⟨sp, e1, e2⟩ := he _ _ _ rfl
    exact ⟨(_, sp), e1, rfl, e2⟩
  obtain ⟨wi, rfl, wil, hwi⟩ := a2_list (enc := fun y : Wi => enE (wiE y)) hes
  clear hes
  have win : wi.map (·.1) = (List.range (itI D 8 % 3).toNat).map fun k => wdF c0 (0 + (k : Nat)) := names_by (by rw [wil, List.length_map, List.length_range]) fun i x hx => by
    have : i < (itI D 8 % 3).toNat := by have := (List.getElem?_eq_some_iff.mp hx).1; omega
    rw [List.getElem?_map, List.getElem?_range this, (hwi i x hx).1]; rfl
  have wind : (wi.map (·.1)).Nodup := by rw [win]; exact wdr_nd c0 (fun k => 0 + (k : Nat)) (itI D 8 % 3).toNat 0 (fun k => by show (0 : Int) + _ = ((0 : Nat) : Int) + _; omega) (by omega)
  have winm : ∀ y ∈ wi, namB y.1 = true ∧ ShF w y.2 := fun y hy => by
    obtain ⟨i, hi⟩ := List.getElem?_of_mem hy
    obtain ⟨a, b⟩ := hwi i y hi
    exact ⟨by rw [a]; exact wd_nam _ _, b⟩
  have wil : wi.length ≤ 2 := by omega
  clear hwi win
  show S _ _ _ [.fz (iL s), .fz (sL (wdsF c0 8)), .fz (sL ns), .fz (sL ws), .fz (iL D), .fz (.int w), .fz (.list (pp.map fun y => enE (ppE y))), .fz (sL (pp.map (·.1))), .fz (sL ti), .fz (.list (sc.map fun y => enE (scE y))), .fz (iL E8), .fz (.list (po.map fun y => enE (poE y))), .fz (iL E6), .ow (wi.map fun y => enE (wiE y)), .un, .un, .un, .un, .un, .un, .un, .un]
  refine s_frz (i := 13) rfl ?_
  show S _ _ _ [.fz (iL s), .fz (sL (wdsF c0 8)), .fz (sL ns), .fz (sL ws), .fz (iL D), .fz (.int w), .fz (.list (pp.map fun y => enE (ppE y))), .fz (sL (pp.map (·.1))), .fz (sL ti), .fz (.list (sc.map fun y => enE (scE y))), .fz (iL E8), .fz (.list (po.map fun y => enE (poE y))), .fz (iL E6), .fz (.list (wi.map fun y => enE (wiE y))), .un, .un, .un, .un, .un, .un, .un, .un]
  -- the tree of routes
  refine q_asgL (ds := []) (el_lst a_nil (by decide)) ?_
  have eW : (wi.map (·.1)).map PyData.str = wi.map fun p => .str p.1 := by rw [List.map_map]; rfl
  have eP : (po.map (·.1)).map PyData.str = po.map fun p => .str p.1 := by rw [List.map_map]; rfl
  have wl2 : (wi.map (·.1)).length = wi.length := List.length_map _
  have pl2 : (po.map (·.1)).length = po.length := List.length_map _
  refine q_for1 (fun i => [.fz (iL s), .fz (sL (wdsF c0 8)), .fz (sL ns), .fz (sL ws), .fz (iL D), .fz (.int w), .fz (.list (pp.map fun y => enE (ppE y))), .fz (sL (pp.map (·.1))), .un, .fz (.list (sc.map fun y => enE (scE y))), .fz (iL E8), .fz (.list (po.map fun y => enE (poE y))), .fz (iL E6), .fz (.list (wi.map fun y => enE (wiE y))), .ow (((List.range i).map fun j => mkRo (draws (cellF s (7 + (j : Nat))) 16) (j : Nat) ns ws (po.map (·.1)) (wi.map (·.1))).map rtD), .un, .un, .un, .un, .un, .un, .un]) (it_rng1 (n := 1 + itI D 9 % 4) (a_cons (e_op e_int (e_op (rd 9 (by decide) (by decide) rfl) e_int (mod_i (by decide))) add_i) a_nil) (by omega) (by omega)) (.keep rfl (.keep rfl (.keep rfl (.keep rfl (.keep rfl (.keep rfl (.keep rfl (.keep rfl (.drop (.keep rfl (.keep rfl (.keep rfl (.keep rfl (.keep rfl (.keep rfl (.drop (.drop (.drop (.drop (.drop (.drop (.drop .nil)))))))))))))))))))))) (fun F1 i d hd => ?_) ?_
  · obtain ⟨hi, rfl⟩ := rngD_get hd
    refine ⟨_, _, g_name, ?_⟩
    refine q_asg (d := sL (wi.map (·.1))) (by
      show E _ _ _ (.list ((wi.map (·.1)).map PyData.str))
      rw [eW]
      exact EL.e (el_mapA (vs := [20]) (ix := [20]) (fun y => enE (wiE y)) wiI wi (fun p => .str p.1) (fun p => [.fz (iL s), .fz (sL (wdsF c0 8)), .fz (sL ns), .fz (sL ws), .fz (iL D), .fz (.int w), .fz (.list (pp.map fun y => enE (ppE y))), .fz (sL (pp.map (·.1))), .un, .fz (.list (sc.map fun y => enE (scE y))), .fz (iL E8), .fz (.list (po.map fun y => enE (poE y))), .fz (iL E6), .fz (.list (wi.map fun y => enE (wiE y))), .ow (((List.range i).map fun j => mkRo (draws (cellF s (7 + (j : Nat))) 16) (j : Nat) ns ws (po.map (·.1)) (wi.map (·.1))).map rtD), .fz (.int (0 + (i : Nat))), .un, .un, .un, .un, .fz (enE (wiE p)), .un]) (it_al (e_var rfl)) (by omega) (fun F1 x hx => g_name) (by decide) fun F1 x hx => e_op (x := .tuple [.str x.1, .tuple (x.2.map spD2)]) (e_var rfl) e_int (ix_t rfl))) ?_
    show S _ _ _ [.fz (iL s), .fz (sL (wdsF c0 8)), .fz (sL ns), .fz (sL ws), .fz (iL D), .fz (.int w), .fz (.list (pp.map fun y => enE (ppE y))), .fz (sL (pp.map (·.1))), .fz (sL (wi.map (·.1))), .fz (.list (sc.map fun y => enE (scE y))), .fz (iL E8), .fz (.list (po.map fun y => enE (poE y))), .fz (iL E6), .fz (.list (wi.map fun y => enE (wiE y))), .ow (((List.range i).map fun j => mkRo (draws (cellF s (7 + (j : Nat))) 16) (j : Nat) ns ws (po.map (·.1)) (wi.map (·.1))).map rtD), .fz (.int (0 + (i : Nat))), .un, .un, .un, .un, .un, .un]
    refine s_app (d := rtD (mkRo (draws (cellF s (7 + (0 + (i : Nat)))) 16) (0 + (i : Nat)) ns ws (po.map (·.1)) (wi.map (·.1)))) rfl (e_call (ds := [.int (cellF s (7 + (0 + (i : Nat)))), .int (0 + (i : Nat)), sL ns, sL ws, sL (po.map (·.1)), sL (wi.map (·.1))]) (a_cons (e_call (ds := [iL s, .int (7 + (0 + (i : Nat)))]) (a_cons (e_var rfl) (a_cons (e_op e_int (e_var rfl) add_i) a_nil)) ⟨s, _, rfl, by omega, rfl⟩) (a_cons (e_var rfl) (a_cons (e_var rfl) (a_cons (e_var rfl) (a_cons (by
      show E _ _ _ (.list ((po.map (·.1)).map PyData.str))
      rw [eP]
      exact EL.e (el_mapA (vs := [21]) (ix := [21]) (fun y => enE (poE y)) poI po (fun p => .str p.1) (fun p => [.fz (iL s), .fz (sL (wdsF c0 8)), .fz (sL ns), .fz (sL ws), .fz (iL D), .fz (.int w), .fz (.list (pp.map fun y => enE (ppE y))), .fz (sL (pp.map (·.1))), .fz (sL (wi.map (·.1))), .fz (.list (sc.map fun y => enE (scE y))), .fz (iL E8), .fz (.list (po.map fun y => enE (poE y))), .fz (iL E6), .fz (.list (wi.map fun y => enE (wiE y))), .ow (((List.range i).map fun j => mkRo (draws (cellF s (7 + (j : Nat))) 16) (j : Nat) ns ws (po.map (·.1)) (wi.map (·.1))).map rtD), .fz (.int (0 + (i : Nat))), .un, .un, .un, .un, .un, .fz (enE (poE p))]) (it_al (e_var rfl)) (by omega) (fun F1 x hx => g_name) (by decide) fun F1 x hx => e_op (x := .tuple [.str x.1, .tuple (x.2.map lvD)]) (e_var rfl) e_int (ix_t rfl))) (a_cons (e_var rfl) a_nil)))))) ⟨_, _, ns, ws, _, _, rfl, by omega, by omega, by omega, by omega, rfl⟩) (by rw [List.length_map, List.length_map, List.length_range]; omega) (n_end1 ?_)
    refine .keep rfl (.keep rfl (.keep rfl (.keep rfl (.keep rfl (.keep rfl (.keep rfl (.keep rfl (.drop (.keep rfl (.keep rfl (.keep rfl (.keep rfl (.keep rfl (.keep ?_ (.drop (.drop (.drop (.drop (.drop (.drop (.drop .nil)))))))))))))))))))))
    rw [List.range_succ, List.map_append, List.map_append, Int.zero_add]; rfl
  rw [rngD_len]
  have rl : ((List.range (1 + itI D 9 % 4).toNat).map fun j => mkRo (draws (cellF s (7 + (j : Nat))) 16) (j : Nat) ns ws (po.map (·.1)) (wi.map (·.1))).length = (1 + itI D 9 % 4).toNat := by rw [List.length_map, List.length_range]
  have rj : ∀ (j : Nat) y, ((List.range (1 + itI D 9 % 4).toNat).map fun j => mkRo (draws (cellF s (7 + (j : Nat))) 16) (j : Nat) ns ws (po.map (·.1)) (wi.map (·.1)))[j]? = some y → ∃ D' : List Int, y = mkRo D' (j : Nat) ns ws (po.map (·.1)) (wi.map (·.1)) := fun j y hy => by
    rw [List.getElem?_map] at hy
    cases e : (List.range (1 + itI D 9 % 4).toNat)[j]? with
    | none => rw [e] at hy; cases hy
    | some j' =>
      rw [e] at hy
      obtain ⟨hj, e2⟩ := List.getElem?_eq_some_iff.mp e
      rw [List.getElem_range] at e2
      subst e2
      exact ⟨_, (Option.some.inj hy).symm⟩
  generalize ((List.range (1 + itI D 9 % 4).toNat).map fun j => mkRo (draws (cellF s (7 + (j : Nat))) 16) (j : Nat) ns ws (po.map (·.1)) (wi.map (·.1))) = ro at rl rj ⊢
  have rl : 1 ≤ ro.length ∧ ro.length ≤ 4 := by omega
  show S _ _ _ [.fz (iL s), .fz (sL (wdsF c0 8)), .fz (sL ns), .fz (sL ws), .fz (iL D), .fz (.int w), .fz (.list (pp.map fun y => enE (ppE y))), .fz (sL (pp.map (·.1))), .un, .fz (.list (sc.map fun y => enE (scE y))), .fz (iL E8), .fz (.list (po.map fun y => enE (poE y))), .fz (iL E6), .fz (.list (wi.map fun y => enE (wiE y))), .ow (ro.map rtD), .un, .un, .un, .un, .un, .un, .un]
  -- holdbacks, numbers
  refine q_asgP (P := R_hol [.int (cellF s 11), sL ns, sL ws]) (p_call (Ad := A_hol) (R := R_hol) (a_cons (e_call (ds := [iL s, .int 11]) (a_cons (e_var rfl) (a_cons e_int a_nil)) ⟨s, 11, rfl, by decide, rfl⟩) (a_cons (e_var rfl) (a_cons (e_var rfl) a_nil))) ⟨_, ns, ws, rfl, by omega, by omega⟩) fun d hd => ?_
  obtain ⟨hs, rfl, hsl, hsf⟩ := hd _ _ _ rfl
  have n10 := md (itI D 10) 3 (by decide)
  have n11 := md (itI D 11) 4 (by decide)
  have n12 := md (itI D 12) 3 (by decide)
  refine q_asg (d := iL [1 + itI D 10 % 3, itI D 11 % 4, itI D 12 % 3, 5]) (EL.e (el_lst (a_cons (e_op e_int (e_op (rd 10 (by decide) (by decide) rfl) e_int (mod_i (by decide))) add_i) (a_cons (e_op (rd 11 (by decide) (by decide) rfl) e_int (mod_i (by decide))) (a_cons (e_op (rd 12 (by decide) (by decide) rfl) e_int (mod_i (by decide))) (a_cons e_int a_nil)))) (Nat.le_of_ble_eq_true rfl))) ?_
  generalize hrp : 1 + itI D 10 % 3 = rp
  generalize hpa : itI D 11 % 4 = pa
  generalize hdn : itI D 12 % 3 = dn
  have nrp : 1 ≤ rp ∧ rp ≤ 3 := by omega
  have npa : 0 ≤ pa ∧ pa ≤ 3 := by omega
  have ndn : 0 ≤ dn ∧ dn ≤ 2 := by omega
  refine s_frz (i := 14) rfl ?_
  show S _ _ _ [.fz (iL s), .fz (sL (wdsF c0 8)), .fz (sL ns), .fz (sL ws), .fz (iL D), .fz (.int w), .fz (.list (pp.map fun y => enE (ppE y))), .fz (sL (pp.map (·.1))), .un, .fz (.list (sc.map fun y => enE (scE y))), .fz (iL E8), .fz (.list (po.map fun y => enE (poE y))), .fz (iL E6), .fz (.list (wi.map fun y => enE (wiE y))), .fz (.list (ro.map rtD)), .un, .fz (.list (hs.map hobD)), .fz (iL [rp, pa, dn, 5]), .un, .un, .un, .un]
  obtain ⟨x, hx⟩ : ∃ x : SuP, x = ⟨w, pp, sc, po, wi, ro.map toRo, hs, [], rp, pa, dn, 0, 10, 2, 0, 5⟩ := ⟨_, rfl⟩
  have rok : ∀ (j : Nat) y, (ro.map toRo)[j]? = some y → RouF ns ws (po.map (·.1)) (wi.map (·.1)) j y := fun j y hy => by
    obtain ⟨r, hr, rfl⟩ : ∃ r, ro[j]? = some r ∧ toRo r = y := by
      rw [List.getElem?_map] at hy
      cases e : ro[j]? with
      | none => rw [e] at hy; cases hy
      | some r => rw [e] at hy; exact ⟨r, rfl, Option.some.inj hy⟩
    obtain ⟨D', rfl⟩ := rj j r hr
    exact mkRo_F D' j (by omega) (by omega)
  have tok : treeOk ro := ⟨by omega, by omega, fun i r h p hp => by
    obtain ⟨D', rfl⟩ := rj i r h
    have hp' : (if (0 : Int) < (i : Nat) then some (itI D' 0 % (i : Nat)) else none) = some p := hp
    by_cases z : (0 : Int) < (i : Nat)
    · rw [if_pos z] at hp'
      have := md (itI D' 0) (i : Nat) z
      obtain rfl := Option.some.inj hp'
      exact ⟨this.2, this.1⟩
    · rw [if_neg z] at hp'; cases hp'⟩
  have rl2 : (ro.map toRo).length = ro.length := List.length_map _
  have nl20 : ∀ {t : Str}, namB t = true → t.length ≤ 100000 := fun h => Nat.le_trans (nam_len h) (by decide)
  have scm : ∀ y ∈ sc, namB y.1 = true := fun y hy => tm _ (by rw [← scn]; exact List.mem_map.mpr ⟨y, hy, rfl⟩)
  have xS : SuS x := by
    subst hx
    refine ⟨by show pp.length ≤ 1000; omega, by show sc.length ≤ 1000; omega, by show po.length ≤ 1000; omega, by show wi.length ≤ 1000; omega, fun y hy => nl20 (pnam y hy).1, fun y hy => ?_, fun y hy => ?_, fun y hy => ?_, fun y hy => ?_, fun y hy => ((hsf y hy).ok nG wG).2⟩
    · have h := scf y hy
      have a := h.ll
      have b := h.tl
      exact ⟨nl20 (scm y hy), by omega, by omega, fun l hl => by have := (h.ly l hl).n1; have := (h.ly l hl).z; omega⟩
    · have := (ponm y hy).2.l2
      exact ⟨nl20 (ponm y hy).1, by omega⟩
    · have := (winm y hy).2.l2
      exact ⟨nl20 (winm y hy).1, by omega⟩
    · obtain ⟨j, hj⟩ := List.getElem?_of_mem hy
      exact ((rok j y hj).ok nG wG (by omega)).2
  have xG : SuG x fun _ => true := by
    subst hx
    refine ⟨?_, ⟨fun y hy => ⟨(pnam y hy).1, ?_⟩, pn⟩, ⟨fun y hy => ⟨scm y hy, (scf y hy).ok⟩, by show (sc.map (·.1)).Nodup; rw [scn]; exact tn⟩, ⟨fun y hy => ⟨(ponm y hy).1, by show polB (sc.map (·.1)) y.2 = true; rw [scn]; exact (ponm y hy).2.ok⟩, pond⟩, ⟨fun y hy => ⟨(winm y hy).1, (winm y hy).2.ok⟩, wind⟩, fun z => ?_, fun j y hy => ?_, fun j y hy => ?_, rfl, ?_⟩
    · show (decide ((1 : Int) ≤ w) && decide (w ≤ 2000)) = true
      rw [decide_eq_true (by omega), decide_eq_true (by omega)]; rfl
    · obtain ⟨_, a, b⟩ := pnam y hy
      show (decide ((0 : Int) ≤ y.2) && decide (y.2 ≤ 20)) = true
      rw [decide_eq_true (by omega), decide_eq_true (by omega)]; rfl
    · have z : ro.map toRo = [] := z
      rw [z] at rl2
      have : (0 : Nat) = ro.length := rl2
      omega
    · have hj : j < (ro.map toRo).length := (List.getElem?_eq_some_iff.mp hy).1
      show (!decide (((j : Nat) : Int) ≥ 30) && rouB j (wi.map (·.1)) (po.map (·.1)) y) = true
      rw [decide_eq_false (by omega), ((rok j y hy).ok nG wG (by omega)).1]; rfl
    · have hj : j < hs.length := (List.getElem?_eq_some_iff.mp hy).1
      show (!decide (((j : Nat) : Int) ≥ 10) && hobB y) = true
      rw [decide_eq_false (by omega), ((hsf y (List.mem_of_getElem? hy)).ok nG wG).1]; rfl
    · refine ⟨?_, ?_, ?_, rfl, rfl⟩
      · show (decide ((1 : Int) ≤ rp) && decide (rp ≤ 5)) = true
        rw [decide_eq_true (by omega), decide_eq_true (by omega)]; rfl
      · show (decide ((0 : Int) ≤ pa) && decide (pa ≤ 1000)) = true
        rw [decide_eq_true (by omega), decide_eq_true (by omega)]; rfl
      · show (decide ((0 : Int) ≤ dn) && decide (dn ≤ 20)) = true
        rw [decide_eq_true (by omega), decide_eq_true (by omega)]; rfl
  have lse : LseOk x := ⟨by subst hx; rfl, by subst hx; exact ⟨rfl, rfl, rfl, rfl⟩, xS, xG⟩
  have wof : WoF x ns ws := by
    subst hx
    exact ⟨w1, lse, ⟨pl, fun y hy => (pnam y hy).2⟩, ⟨by show 1 ≤ sc.length ∧ sc.length ≤ 2; omega, scf⟩, ⟨pol, fun y hy => by show LvF (sc.map (·.1)) y.2; rw [scn]; exact (ponm y hy).2⟩, ⟨wil, fun y hy => (winm y hy).2⟩, ⟨by show 1 ≤ (ro.map toRo).length ∧ (ro.map toRo).length ≤ 4; omega, rok⟩, ⟨ro, rfl, tok⟩, ⟨hsl, hsf⟩, nrp, npa, ndn, rfl, ⟨nl, nG⟩, ⟨wl, wG⟩⟩
  have eG : ([.fz (.int w), .fz (.list (pp.map fun y => enE (ppE y))), .fz (.list (sc.map fun y => enE (scE y))), .fz (.list (po.map fun y => enE (poE y))), .fz (.list (wi.map fun y => enE (wiE y))), .fz (.list (ro.map rtD)), .fz (.list (hs.map hobD)), .fz (.list []), .fz (iL [rp, pa, dn, 5])] : List Sl) = [.fz (.int x.wk), .fz (.list ((ppL x).map enE)), .fz (.list ((scL x).map enE)), .fz (.list ((poL x).map enE)), .fz (.list ((wiL x).map enE)), .fz (.list (x.ro.map rouD)), .fz (.list (x.ho.map hobD)), .fz (.list []), .fz (iL [x.rp, x.pa, x.dn, x.lb])] := by
    subst hx
    unfold ppL scL poL wiL
    simp only [List.map_map]
    have : (rouD ∘ toRo) = rtD := funext toRo_D
    rw [this]; rfl
  refine q_asgO (fs := suF x) (Gs := [.fz (.int w), .fz (.list (pp.map fun y => enE (ppE y))), .fz (.list (sc.map fun y => enE (scE y))), .fz (.list (po.map fun y => enE (poE y))), .fz (.list (wi.map fun y => enE (wiE y))), .fz (.list (ro.map rtD)), .fz (.list (hs.map hobD)), .fz (.list []), .fz (iL [rp, pa, dn, 5])]) (as_cons (e_var rfl) (as_cons (e_var rfl) (as_cons (e_var rfl) (as_cons (e_var rfl) (as_cons (e_var rfl) (as_cons (e_var rfl) (as_cons (e_var rfl) (as_cons (EL.e (el_lst a_nil (by decide))) (as_cons (e_var rfl) as_nil))))))))) (fun F e => ⟨x, eG, lse, rfl⟩) fun a F1 ob e1 => ?_
  exact s_retML (Gs := [.raw (.ref a), .fz (sL ns), .fz (sL ws)]) (as_raw rfl (as_cons (e_var rfl) (as_cons (e_var rfl) as_nil))) (Nat.le_of_ble_eq_true rfl) (fun F e => ⟨x, a, ns, ws, rfl, ob.mono e, wof⟩) rt
end
/-! ### the law's own walk: muted, slack, forced -/
def inW (w : Int) (sp : List (Int × Int)) (t : Int) : Bool := sp.any fun p => decide (p.1 ≤ t % w) && decide (t % w < p.2)
def muF (x : SuP) (mu : List Str) (t : Int) : Bool := x.wi.any fun y => decide (y.1 ∈ mu) && inW x.wk y.2 t
def slF (x : SuP) : Int := (x.rp - 1) * x.pa
def foF (x : SuP) (mu : List Str) (u fi la : Int) : Bool := (List.range (la - fi).toNat).any fun i => decide (u + slF x ≤ fi + (i : Nat)) && !muF x mu (fi + (i : Nat))
theorem any_drop {α : Type} {l : List α} {i : Nat} {x : α} (q : α → Bool) (h : l[i]? = some x) : (l.drop i).any q = (q x || (l.drop (i + 1)).any q) := by
  rw [drop_get h, List.any_cons]
section
variable {P : Program} {w : World} {K : PySem.W.Frag} {mg : Str → Option Value} {base : Heap} {f : Addr} {fd : FuncData} {Tb : List Addr} {k : Nat}
def R_slk (K : PySem.W.Frag) (Ca : Addr) : Hp → List Sl → PyData → Prop := fun F Gs d => ∃ (a : Addr) (x : SuP), Gs = [.raw (.ref a)] ∧ ObF K F a Ca (suF x) ∧ (1 ≤ x.rp ∧ x.rp ≤ 1000) ∧ d = .int (slF x)
theorem ok_slk {Ca : Addr} (Fn : Fun K "slack" "slack" s_slack f fd) (hm : mg "slack" = some (.ref f)) (hb : Binds K fd ["setup"] []) (Z : Zb mg) (CL : Cls K Ca) (N_replicas : NoAttr K Ca "replicas") (N_pause : NoAttr K Ca "pause") :
    Df P w K mg base 1 "slack" ["setup"] (spS K Tb (R_slk K Ca)) := by
  refine df_S Fn sc_slack hm hb (fun F Gs d h => by obtain ⟨_, _, rfl, _⟩ := h; rfl) fun cdv A outer s H Ek hr => ⟨_, (pss_one (ps_ret (pe_op uMul (pe_op op_sub (pe_fldK K (pv 0)) pe_int) (pe_fldK K (pv 0))))),  fun Gs d F0 H0 Q r rt => ?_⟩
  obtain ⟨a, x, rfl, ob, h1, rfl⟩ := r
  show S _ _ _ [.raw (.ref a)]
  exact s_ret (e_op (e_op (e_fld0 rfl ob CL N_replicas rfl) e_int sub_i) (e_fld0 rfl ob CL N_pause rfl) (mul_i (.inl ⟨by omega, by omega⟩))) rt
theorem ok_lsl {Ca : Addr} (Fn : Fun K "_law_slack" "_law_slack" s_l_law_slack f fd) (hm : mg "_law_slack" = some (.ref f)) (hb : Binds K fd ["_law_made"] []) (Z : Zb mg) (CL : Cls K Ca) (N_replicas : NoAttr K Ca "replicas") (N_pause : NoAttr K Ca "pause") :
    Df P w K mg base 1 "_law_slack" ["_law_made"] (spS K Tb (R_slk K Ca)) := by
  refine df_S Fn sc_l_law_slack hm hb (fun F Gs d h => by obtain ⟨_, _, rfl, _⟩ := h; rfl) fun cdv A outer s H Ek hr => ⟨_, (pss_one (ps_ret (pe_op uMul (pe_op op_sub (pe_fldK K (pv 0)) pe_int) (pe_fldK K (pv 0))))),  fun Gs d F0 H0 Q r rt => ?_⟩
  obtain ⟨a, x, rfl, ob, h1, rfl⟩ := r
  show S _ _ _ [.raw (.ref a)]
  exact s_ret (e_op (e_op (e_fld0 rfl ob CL N_replicas rfl) e_int sub_i) (e_fld0 rfl ob CL N_pause rfl) (mul_i (.inl ⟨by omega, by omega⟩))) rt
def R_lmu (K : PySem.W.Frag) (Ca : Addr) : Hp → List Sl → PyData → Prop := fun F Gs d => ∃ (a : Addr) (x : SuP) (mu : List Str) (t : Int), Gs = [.raw (.ref a), .fz (.tuple (mu.map .str)), .fz (.int t)] ∧ ObF K F a Ca (suF x) ∧ 0 < x.wk ∧ d = .bool (muF x mu t)
theorem ok_lmu {Ca : Addr} (Fn : Fun K "_law_muted" "_law_muted" s_l_law_muted f fd) (hm : mg "_law_muted" = some (.ref f)) (hb : Binds K fd ["_law_made", "_law_mutes", "_law_time"] []) (Z : Zb mg) (CL : Cls K Ca) (N_week : NoAttr K Ca "week") (N_windows : NoAttr K Ca "windows") :
    Df P w K mg base 1 "_law_muted" ["_law_made", "_law_mutes", "_law_time"] (spS K Tb (R_lmu K Ca)) := by
  refine df_S Fn sc_l_law_muted hm hb (fun F Gs d h => by obtain ⟨_, _, _, _, rfl, _⟩ := h; rfl) fun cdv A outer s H Ek hr => ⟨_, (pss_cons (ps_for PassesOwn.never rfl (pi_any (pe_fldK K (pv 0))) (pg_tupK (n := 2) K rfl (pgs_cons (pg_name (i := 3) sc_l_law_muted.nd rfl (by first | exact .inl rfl | exact .inr rfl)) (pgs_cons (pg_name (i := 4) sc_l_law_muted.nd rfl (by first | exact .inl rfl | exact .inr rfl)) pgs_nil))) (pss_one (ps_if (pt_cmpR (uInK K) (pv 3) (pv 1) (by rfl)) (pss_one (ps_for PassesOwn.never rfl (pi_any (pv 4)) (pg_tupK (n := 2) K rfl (pgs_cons (pg_name (i := 5) sc_l_law_muted.nd rfl (by first | exact .inl rfl | exact .inr rfl)) (pgs_cons (pg_name (i := 6) sc_l_law_muted.nd rfl (by first | exact .inl rfl | exact .inr rfl)) pgs_nil))) (pss_one (ps_if (pt_chain op_le uLt (pv 5) (pe_op op_mod (pe_callTy uInt (by rfl) Z.int (by decide +kernel) (pa_cons (pv 2) pa_nil)) (pe_fldK K (pv 0))) (pv 6)) (pss_one (ps_ret pe_bl)) pss_nil)))) pss_nil)))
      (pss_one (ps_ret pe_bl))),  fun Gs d F0 H0 Q r rt => ?_⟩
  obtain ⟨a, x, mu, t, rfl, ob, hw, rfl⟩ := r
  have hW : (suF x).lookup ("windows" : Str) = some (.list ((wiL x).map enE)) := rfl
  have hK : (suF x).lookup ("week" : Str) = some (.int x.wk) := rfl
  have ew : (wiL x).map enE = x.wi.map fun y => enE (wiE y) := by unfold wiL; rw [List.map_map]; rfl
  rw [ew] at hW
  unfold muF at rt
  show S _ _ _ [.raw (.ref a), .fz (.tuple (mu.map .str)), .fz (.int t), .un, .un, .un, .un]
  refine q_for (α := Unit) (fun _ _ => [.raw (.ref a), .fz (.tuple (mu.map .str)), .fz (.int t), .un, .un, .un, .un]) (fun i _ => (x.wi.drop i).any (fun y => decide (y.1 ∈ mu) && inW x.wk y.2 t) = x.wi.any fun y => decide (y.1 ∈ mu) && inW x.wk y.2 t) (it_al (e_fld0 rfl ob CL N_windows hW)) () rfl (Wk.refl _) (fun F1 i _ d hd pp => ?_) fun _ pp => ?_
  · obtain ⟨y, hy, rfl⟩ := map_get hd
    rw [any_drop _ hy] at pp
    refine ⟨_, _, g_tup (ds := [.str y.1, .tuple (y.2.map spD2)]) (gs_cons g_name (gs_cons g_name gs_nil)) rfl, ?_⟩
    show S _ _ _ [.raw (.ref a), .fz (.tuple (mu.map .str)), .fz (.int t), .fz (.str y.1), .fz (.tuple (y.2.map spD2)), .un, .un]
    refine s_if (b := decide (y.1 ∈ mu)) (t_test (by rw [← inD_str]; exact b_op (E.b (e_var rfl)) (E.b (e_var rfl)) (in_t rfl (scal_strs mu)) rfl)) (fun hb => ?_) fun hb => s_next (n_end () ?_ ?_)
    · rw [hb, Bool.true_and] at pp
      refine s_for (α := Unit) (fun _ _ => [.raw (.ref a), .fz (.tuple (mu.map .str)), .fz (.int t), .fz (.str y.1), .fz (.tuple (y.2.map spD2)), .un, .un]) (fun j _ => (y.2.drop j).any (fun p => decide (p.1 ≤ t % x.wk) && decide (t % x.wk < p.2)) = y.2.any fun p => decide (p.1 ≤ t % x.wk) && decide (t % x.wk < p.2)) (it_at (e_var rfl)) () rfl (Wk.refl _) (fun F2 j _ d hd p2 => ?_) fun _ p2 => n_end () ?_ ?_
      · obtain ⟨p, hp, rfl⟩ := map_get hd
        rw [any_drop _ hp] at p2
        refine ⟨_, _, g_tup (ds := [.int p.1, .int p.2]) (gs_cons g_name (gs_cons g_name gs_nil)) rfl, ?_⟩
        show S _ _ _ [.raw (.ref a), .fz (.tuple (mu.map .str)), .fz (.int t), .fz (.str y.1), .fz (.tuple (y.2.map spD2)), .fz (.int p.1), .fz (.int p.2)]
        refine s_if (b := decide (p.1 ≤ t % x.wk) && decide (t % x.wk < p.2)) (t_test (e_chain (E.b (e_var rfl)) (E.b (e_op (b_cb (ab_cons (E.b (e_var rfl)) ab_nil) int_i rfl) (e_fld0 rfl ob CL N_week hK) (mod_i hw))) (fun _ => E.b (e_var rfl)) le_i fun _ => lt_i)) (fun z => ?_) fun z => s_next (n_end () ?_ ?_)
        · have e1 : inW x.wk y.2 t = true := by unfold inW; rw [← p2, z]; rfl
          rw [e1, Bool.true_or] at pp
          rw [← pp] at rt
          exact s_ret e_bl rt
        · rw [z, Bool.false_or] at p2; exact p2
        · exact .keep rfl (.keep rfl (.keep rfl (.keep rfl (.keep rfl (.drop (.drop .nil))))))
      · have p2 : (y.2.drop (y.2.map spD2).length).any (fun p => decide (p.1 ≤ t % x.wk) && decide (t % x.wk < p.2)) = inW x.wk y.2 t := p2
        rw [List.length_map, List.drop_length] at p2
        rw [← p2] at pp
        exact pp
      · exact .keep rfl (.keep rfl (.keep rfl (.drop (.drop (.drop (.drop .nil))))))
    · rw [hb] at pp; exact pp
    · exact .keep rfl (.keep rfl (.keep rfl (.drop (.drop (.drop (.drop .nil))))))
  · have pp : (x.wi.drop (x.wi.map fun y => enE (wiE y)).length).any (fun y => decide (y.1 ∈ mu) && inW x.wk y.2 t) = x.wi.any fun y => decide (y.1 ∈ mu) && inW x.wk y.2 t := pp
    rw [List.length_map, List.drop_length] at pp
    rw [← pp] at rt
    exact s_ret e_bl rt
def R_lfo (K : PySem.W.Frag) (Ca : Addr) : Hp → List Sl → PyData → Prop := fun F Gs d => ∃ (a : Addr) (x : SuP) (st : Stt) (u fi la : Int), Gs = [.raw (.ref a), .fz (sttD st), .fz (.int u), .fz (.int fi), .fz (.int la)] ∧ ObF K F a Ca (suF x) ∧ 0 < x.wk ∧ (1 ≤ x.rp ∧ x.rp ≤ 1000) ∧ (0 ≤ fi ∧ fi ≤ 100000 ∧ 0 ≤ la ∧ la ≤ 100000) ∧ d = .bool (foF x st.mu u fi la)
theorem ok_lfo {Ca : Addr} (Fn : Fun K "_law_forced" "_law_forced" s_l_law_forced f fd) (hm : mg "_law_forced" = some (.ref f)) (hb : Binds K fd ["_law_made", "_law_settings", "_law_due_here", "_law_first", "_law_last"] []) (Z : Zb mg)
    (D_l_law_slack : Df P w K mg base 1 "_law_slack" ["_law_made"] (spS K Tb (R_slk K Ca))) (D_l_law_muted : Df P w K mg base 1 "_law_muted" ["_law_made", "_law_mutes", "_law_time"] (spS K Tb (R_lmu K Ca))) :
    Df P w K mg base 2 "_law_forced" ["_law_made", "_law_settings", "_law_due_here", "_law_first", "_law_last"] (spS K Tb (R_lfo K Ca)) := by
  refine df_S Fn sc_l_law_forced hm hb (fun F Gs d h => by obtain ⟨_, _, _, _, _, _, rfl, _⟩ := h; rfl) fun cdv A outer s H Ek hr => ⟨_, (pss_cons (ps_for PassesOwn.never rfl (pi_range2 (by rfl) Z.range (pa_cons (pv 3) (pa_cons (pv 4) pa_nil))) (pg_name (i := 5) sc_l_law_forced.nd rfl (by first | exact .inl rfl | exact .inr rfl)) (pss_one (ps_if (PW.pt (pw_and (pt_cmpR op_le (pe_op (uAddK K) (pv 2) (pe_df D_l_law_slack hr (by first | decide | exact Nat.le_refl _ | omega) (by rfl) (pa_cons (pv 0) pa_nil))) (pv 5) (nomark _)) (pw_and1 (pt_not (pt_truthK K (pe_df D_l_law_muted hr (by first | decide | exact Nat.le_refl _ | omega) (by rfl) (pa_cons (pv 0) (pa_cons (pe_ix (ix_seqK K) (pv 1) pe_int (fun _ _ => rfl)) (pa_cons (pv 5) pa_nil)))) (by intro _; rfl)))))) (pss_one (ps_ret pe_bl)) pss_nil)))
      (pss_one (ps_ret pe_bl))),  fun Gs d F0 H0 Q r rt => ?_⟩
  obtain ⟨a, x, st, u, fi, la, rfl, ob, hw, hrp, ⟨b1, b2, b3, b4⟩, rfl⟩ := r
  unfold foF at rt
  show S _ _ _ [.raw (.ref a), .fz (sttD st), .fz (.int u), .fz (.int fi), .fz (.int la), .un]
  refine q_for (α := Unit) (fun _ _ => [.raw (.ref a), .fz (sttD st), .fz (.int u), .fz (.int fi), .fz (.int la), .un]) (fun i _ => ((List.range (la - fi).toNat).drop i).any (fun i => decide (u + slF x ≤ fi + (i : Nat)) && !muF x st.mu (fi + (i : Nat))) = (List.range (la - fi).toNat).any fun i => decide (u + slF x ≤ fi + (i : Nat)) && !muF x st.mu (fi + (i : Nat))) (it_rng2 (lo := fi) (hi := la) (a_cons (e_var rfl) (a_cons (e_var rfl) a_nil)) (by omega) (by omega) (by omega) (by omega)) () rfl (Wk.refl _) (fun F1 i _ d hd pp => ?_) fun _ pp => ?_
  · obtain ⟨hi, rfl⟩ := rngD_get hd
    rw [any_drop (x := i) _ (List.getElem?_range hi)] at pp
    refine ⟨_, _, g_name, ?_⟩
    show S _ _ _ [.raw (.ref a), .fz (sttD st), .fz (.int u), .fz (.int fi), .fz (.int la), .fz (.int (fi + (i : Nat)))]
    refine s_if (b := decide (u + slF x ≤ fi + (i : Nat)) && !muF x st.mu (fi + (i : Nat))) (t_and (t_test (b_op (E.b (e_op (e_var rfl) (e_callS0 (R := R_slk K Ca) (as_raw rfl as_nil) fun F e => ⟨a, x, rfl, ob.mono e, hrp, rfl⟩) add_i)) (E.b (e_var rfl)) le_i rfl)) fun _ => t_not (t_tru (d := .bool (muF x st.mu (fi + (i : Nat)))) (E.b (e_callS0 (R := R_lmu K Ca) (as_raw rfl (as_cons (e_op (x := .tuple [.tuple (st.gr.map .str), .int st.wt, .int st.iv, .int st.ag, .tuple (st.mu.map .str), .str st.po]) (e_var rfl) e_int (ix_t rfl)) (as_cons (e_var rfl) as_nil))) fun F e => ⟨a, x, st.mu, _, rfl, ob.mono e, hw, rfl⟩)) rfl)) (fun z => ?_) fun z => s_next (n_end () ?_ ?_)
    · rw [z, Bool.true_or] at pp
      rw [← pp] at rt
      exact s_ret e_bl rt
    · rw [z, Bool.false_or] at pp; exact pp
    · exact .keep rfl (.keep rfl (.keep rfl (.keep rfl (.keep rfl (.drop .nil)))))
  · have pp : ((List.range (la - fi).toNat).drop (rngD fi (la - fi).toNat).length).any (fun i => decide (u + slF x ≤ fi + (i : Nat)) && !muF x st.mu (fi + (i : Nat))) = (List.range (la - fi).toNat).any fun i => decide (u + slF x ≤ fi + (i : Nat)) && !muF x st.mu (fi + (i : Nat)) := pp
    rw [rngD_len] at pp
    rw [show ((List.range (la - fi).toNat).drop (la - fi).toNat) = [] from List.drop_eq_nil_of_le (by rw [List.length_range]; exact Nat.le_refl _)] at pp
    rw [← pp] at rt
    exact s_ret e_bl rt
theorem pw_bd {L : List (Str × Str)} {ts : List WL.Rou} : ∀ i, 0 ≤ (pw L ts i).2 ∧ ((pw L ts i).2 = 0 ∨ (pw L ts i).2 < i)
  | 0 => ⟨Int.le_refl _, .inl rfl⟩
  | i + 1 => by
    have := pw_bd (L := L) (ts := ts) i
    unfold pw
    split
    · show 0 ≤ (i : Int) ∧ ((i : Int) = 0 ∨ (i : Int) < ((i + 1 : Nat) : Int))
      omega
    · omega
def A_cse : List PyData → Prop := fun ds => ∃ s : List Int, ds = [iL s]
/-- a world, labels, the settings of the route at which they end, a start, a limit -/
def R_cse (K : PySem.W.Frag) (Ca : Addr) : List PyData → Hp → List Sl → Prop := fun ds F Gs => ∃ (x : SuP) (a : Addr) (ns ws : List Str) (L : List (Str × Str)) (ts : List WL.Rou) (r : WL.Rou) (z1 z2 : Int), Gs = [.raw (.ref a), .fz (lbD L), .fz (sttD (toRo r).st), .fz (.int z1), .fz (.int z2)] ∧ ObF K F a Ca (suF x) ∧ WoF x ns ws ∧
  (x.ro = ts.map toRo ∧ treeOk ts ∧ ts[(pw L ts ts.length).2.toNat]? = some r) ∧ (∃ D : List Int, D.length ≤ 6 ∧ L = sortP (lbs D ns ws (D.length / 2))) ∧ (0 ≤ z1 ∧ z1 < 14) ∧ (0 ≤ z2 ∧ z2 < 9)
theorem ok_cse {Ca : Addr} (Fn : Fun K "_law_case" "_law_case" s_l_law_case f fd) (hm : mg "_law_case" = some (.ref f)) (hb : Binds K fd ["_law_script_here"] []) (Z : Zb mg) (CL : Cls K Ca) (N_routes : NoAttr K Ca "routes")
    (D_l_law_cell : Df P w K mg base 1 "_law_cell" ["_law_script_here", "_law_k"] (spD K Tb R_cell))
    (D_l_law_draws : Df P w K mg base 1 "_law_draws" ["_law_cell_here", "_law_many"] (spD K Tb R_draws))
    (D_l_law_labels : Df P w K mg base 1 "_law_labels" ["_law_draws_here", "_law_names", "_law_worths_here"] (spD K Tb WL.R_labels))
    (D_l_law_way : Df P w K mg base 3 "_law_way" ["_law_tree", "_law_labels_here"] (spD K Tb WL.R_way))
    (D_l_law_world : Df P w K mg base 15 "_law_world" ["_law_script_here"] (spML K Tb A_wld (R_wld K Ca))) :
    Df P w K mg base 16 "_law_case" ["_law_script_here"] (spMT K Tb A_cse (R_cse K Ca)) := by
  refine df_MT Fn sc_l_law_case hm hb (fun ds h => by obtain ⟨_, rfl⟩ := h; rfl) fun cdv A outer s H Ek hr => ⟨_, (pss_cons (ps_asg (pe_df D_l_law_world hr (by first | decide | exact Nat.le_refl _ | omega) (by rfl) (pa_cons (pv 0) pa_nil)) (pg_unlK (n := 3) K rfl (pgs_cons (pg_name (i := 1) sc_l_law_case.nd rfl (by first | exact .inl rfl | exact .inr rfl)) (pgs_cons (pg_name (i := 2) sc_l_law_case.nd rfl (by first | exact .inl rfl | exact .inr rfl)) (pgs_cons (pg_name (i := 3) sc_l_law_case.nd rfl (by first | exact .inl rfl | exact .inr rfl)) pgs_nil)))))
      (pss_cons (ps_set (i := 4) sc_l_law_case.nd rfl (by first | exact .inl rfl | exact .inr rfl) (pe_df D_l_law_draws hr (by first | decide | exact Nat.le_refl _ | omega) (by rfl) (pa_cons (pe_df D_l_law_cell hr (by first | decide | exact Nat.le_refl _ | omega) (by rfl) (pa_cons (pv 0) (pa_cons pe_int pa_nil))) (pa_cons pe_int pa_nil))))
      (pss_cons (ps_set (i := 5) sc_l_law_case.nd rfl (by first | exact .inl rfl | exact .inr rfl) (pe_df D_l_law_labels hr (by first | decide | exact Nat.le_refl _ | omega) (by rfl) (pa_cons (pe_slice (uSlK K) (pv 4) po_none (po_some (pe_op op_mod (pe_callTy uInt (by rfl) Z.int (by decide +kernel) (pa_cons (pe_ix (ix_seqK K) (pv 4) pe_int (fun _ _ => rfl)) pa_nil)) pe_int))) (pa_cons (pv 2) (pa_cons (pv 3) pa_nil)))))
      (pss_cons (ps_set (i := 6) sc_l_law_case.nd rfl (by first | exact .inl rfl | exact .inr rfl) (pe_ix (ix_seqK K) (pe_ix (ix_seqK K) (pe_fldK K (pv 1)) (pe_ix (ix_seqK K) (pe_df D_l_law_way hr (by first | decide | exact Nat.le_refl _ | omega) (by rfl) (pa_cons (pe_fldK K (pv 1)) (pa_cons (pv 5) pa_nil))) (pe_un un_neg pe_int) (fun _ _ => rfl)) (fun _ _ => rfl)) pe_int (fun _ _ => rfl)))
      (pss_one (ps_ret (pe_tup (pa_cons (pv 1) (pa_cons (pv 5) (pa_cons (pv 6) (pa_cons (pe_op op_mod (pe_callTy uInt (by rfl) Z.int (by decide +kernel) (pa_cons (pe_ix (ix_seqK K) (pv 4) pe_int (fun _ _ => rfl)) pa_nil)) pe_int) (pa_cons (pe_op op_mod (pe_callTy uInt (by rfl) Z.int (by decide +kernel) (pa_cons (pe_ix (ix_seqK K) (pv 4) pe_int (fun _ _ => rfl)) pa_nil)) pe_int) pa_nil)))))))))))),  fun ds F0 H0 Q r rt => ?_⟩
  obtain ⟨s, rfl⟩ := r
  show S _ _ _ [.fz (iL s), .un, .un, .un, .un, .un, .un]
  refine q_unpML (ds := [iL s]) (a_cons (e_var rfl) a_nil) ⟨s, rfl⟩ fun F1 Gs e1 r => ?_
  obtain ⟨x, a, ns, ws, rfl, ob, wo⟩ := r
  refine ⟨rfl, _, us_raw (us_fz (us_fz us_nil)), ?_⟩
  show S _ _ _ [.fz (iL s), .raw (.ref a), .fz (sL ns), .fz (sL ws), .un, .un, .un]
  have dl := draws_len (cellF s 12) 10
  refine q_asg (d := iL (draws (cellF s 12) 10)) (e_call (ds := [.int (cellF s 12), .int 10]) (a_cons (e_call (ds := [iL s, .int 12]) (a_cons (e_var rfl) (a_cons e_int a_nil)) ⟨s, 12, rfl, by decide, rfl⟩) (a_cons e_int a_nil)) ⟨_, 10, rfl, by decide, rfl⟩) ?_
  generalize draws (cellF s 12) 10 = D at dl ⊢
  have at_ : ∀ k : Int, 0 ≤ k → k < 10 → atI (D.map PyData.int) k = some (.int (itI D k)) := fun k h0 h1 => at_int h0 (by omega)
  have m8 := md (itI D 8) 7 (by decide)
  have m6 := md (itI D 6) 14 (by decide)
  have m7 := md (itI D 7) 9 (by decide)
  show S _ _ _ [.fz (iL s), .raw (.ref a), .fz (sL ns), .fz (sL ws), .fz (iL D), .un, .un]
  have lc : (cutA D none (some (itI D 8 % 7))).length ≤ 6 := by
    have e1 : (itI D 8 % 7 : Int) = (((itI D 8 % 7).toNat : Nat) : Int) := by omega
    unfold cutA
    rw [e1, HT.sIx_nat, HT.sIx_none, List.length_take]; omega
  have nl := wo.nl.1
  have wl := wo.wl.1
  refine q_asg (d := lbD (sortP (lbs (cutA D none (some (itI D 8 % 7))) ns ws ((cutA D none (some (itI D 8 % 7))).length / 2)))) (e_call (ds := [iL (cutA D none (some (itI D 8 % 7))), sL ns, sL ws]) (a_cons (by
    show E _ _ _ (.list ((cutA D none (some (itI D 8 % 7))).map .int))
    rw [← cut_map]
    exact EL.e (el_sl (e_var rfl) o_none (o_some (e_op (b_cb (ab_cons (E.b (e_op (e_var rfl) e_int (ix_l (at_ 8 (by decide) (by decide))))) ab_nil) int_i rfl) e_int (mod_i (by decide)))))) (a_cons (e_var rfl) (a_cons (e_var rfl) a_nil))) ⟨_, ns, ws, rfl, by omega, by omega, by omega, rfl⟩) ?_
  obtain ⟨Dc, hDc⟩ : ∃ Dc, Dc = cutA D none (some (itI D 8 % 7)) := ⟨_, rfl⟩
  rw [← hDc] at lc ⊢
  obtain ⟨L, hL⟩ : ∃ L, L = sortP (lbs Dc ns ws (Dc.length / 2)) := ⟨_, rfl⟩
  rw [← hL]
  show S _ _ _ [.fz (iL s), .raw (.ref a), .fz (sL ns), .fz (sL ws), .fz (iL D), .fz (lbD L), .un]
  obtain ⟨ts, et, tok⟩ := wo.tr
  have bd := pw_bd (L := L) (ts := ts) ts.length
  have t0 := tok.1
  have hlt : (pw L ts ts.length).2.toNat < ts.length := by omega
  have hr2 : ts[(pw L ts ts.length).2.toNat]? = some ts[(pw L ts ts.length).2.toNat] := List.getElem?_eq_getElem hlt
  generalize ts[(pw L ts ts.length).2.toNat] = r at hr2
  have hR : (suF x).lookup ("routes" : Str) = some (.list (ts.map rtD)) := by
    have : (suF x).lookup ("routes" : Str) = some (.list (x.ro.map rouD)) := rfl
    rw [this, et, List.map_map, show (rouD ∘ toRo) = rtD from funext toRo_D]
  have aw : atI (ts.map rtD) (pw L ts ts.length).2 = some (rtD r) := by
    rw [at_nat bd.1 (by rw [List.length_map]; omega), List.getElem?_map, hr2]; rfl
  refine q_asg (d := sttD (toRo r).st) (e_op (x := rtD r) (e_op (e_fldO rfl ob CL N_routes hR) (e_op (e_call (ds := [.list (ts.map rtD), lbD L]) (a_cons (e_fldO rfl ob CL N_routes hR) (a_cons (e_var rfl) a_nil)) ⟨ts, L, rfl, tok, rfl⟩) (e_neg e_int) (ix_l (pth_end (pw L ts ts.length)))) (ix_l aw)) e_int (ix_t rfl)) ?_
  exact s_retMT (Gs := [.raw (.ref a), .fz (lbD L), .fz (sttD (toRo r).st), .fz (.int (itI D 6 % 14)), .fz (.int (itI D 7 % 9))]) (as_raw rfl (as_cons (e_var rfl) (as_cons (e_var rfl) (as_cons (e_op (b_cb (ab_cons (E.b (e_op (e_var rfl) e_int (ix_l (at_ 6 (by decide) (by decide))))) ab_nil) int_i rfl) e_int (mod_i (by decide))) (as_cons (e_op (b_cb (ab_cons (E.b (e_op (e_var rfl) e_int (ix_l (at_ 7 (by decide) (by decide))))) ab_nil) int_i rfl) e_int (mod_i (by decide))) as_nil))))) (Nat.le_of_ble_eq_true rfl) (fun F e => ⟨x, a, ns, ws, L, ts, r, _, _, rfl, ob.mono e, wo, ⟨et, tok, hr2⟩, ⟨Dc, lc, hL⟩, m6, m7⟩) rt
end
/-! ### spans and mutes -/
def isp (w : Int) (sp : List (Int × Int)) (t : Int) : Bool := sp.any fun p => decide (p.1 ≤ t % w) && decide (t % w < p.2)
def wiG (ws : List Wi) (m : Str) : List (Int × Int) := ((ws.find? fun y => decide (y.1 = m)).map (·.2)).getD []
def spF (ws : List Wi) (mu : List Str) : List (Int × Int) := mu.flatMap (wiG ws)
theorem find_map (ws : List Wi) (m : Str) : ((ws.map wiE).find? fun x => decide (x.1 = m)) = (ws.find? fun y => decide (y.1 = m)).map wiE := by
  induction ws with
  | nil => rfl
  | cons y ws ih =>
    rw [List.map_cons, List.find?_cons, List.find?_cons, ih]
    show (match decide (y.1 = m) with | true => some (wiE y) | false => _) = _
    cases decide (y.1 = m) <;> rfl
/-- the windows that may stand there, and names of them -/
structure WiO (w : Int) (ws : List Wi) (mu : List Str) : Prop where
  z : mu.length ≤ 30
  m : ∀ m ∈ mu, ∃ y ∈ ws, y.1 = m
  s : ∀ y ∈ ws, y.2.length ≤ 30 ∧ ∀ p ∈ y.2, p.2 ≤ w
  w0 : 0 < w
  w1 : w ≤ 2000
theorem wiG_ok {w : Int} {ws : List Wi} {mu : List Str} (h : WiO w ws mu) (m : Str) : (wiG ws m).length ≤ 30 ∧ ∀ p ∈ wiG ws m, p.2 ≤ w := by
  unfold wiG
  cases e : ws.find? fun y => decide (y.1 = m) with
  | none => exact ⟨by decide, fun p hp => by cases hp⟩
  | some y => exact h.s y (List.mem_of_find?_eq_some e)
theorem spF_len {w : Int} {ws : List Wi} {mu : List Str} (h : WiO w ws mu) : (spF ws mu).length ≤ 900 := by
  have key : ∀ l : List Str, (l.flatMap (wiG ws)).length ≤ 30 * l.length := fun l => by
    induction l with
    | nil => exact Nat.le_refl _
    | cons a l ih => rw [List.flatMap_cons, List.length_append, List.length_cons]; have := (wiG_ok h a).1; omega
  have := key mu
  have := h.z
  unfold spF; omega
theorem spF_ok {w : Int} {ws : List Wi} {mu : List Str} (h : WiO w ws mu) : ∀ p ∈ spF ws mu, p.2 ≤ w := fun p hp => by
  obtain ⟨m, _, hm⟩ := List.mem_flatMap.mp hp
  exact (wiG_ok h m).2 p hm
section
variable {P : Program} {w : World} {K : PySem.W.Frag} {mg : Str → Option Value} {base : Heap} {f : Addr} {fd : FuncData} {Tb : List Addr} {k : Nat}
def eoO (C : Addr) (word : Str) : Option (Str × List PyData) → Out
  | some x => .val (enE x)
  | none => .exc C [("name", .str word)]
def R_eo (C : Addr) : List PyData → Out → Prop := fun ds o => ∃ (es : List (Str × List PyData)) (nm word : Str), ds = [.list (es.map enE), .str nm, .str word] ∧ o = eoO C word (es.find? fun x => decide (x.1 = nm))
theorem ok_eo {C : Addr} (Fn : Fun K "entry_of" "entry_of" s_entry_of f fd) (hm : mg "entry_of" = some (.ref f)) (hb : Binds K fd ["entries", "name", "word"] []) (Z : Zb mg) (XI_InvalidArgument : XiOk P w K mg base "InvalidArgument" C "name") :
    DfX P w K mg base 3 "entry_of" ["entries", "name", "word"] (spX K Tb (R_eo C)) := by
  refine df_X Fn sc_entry_of hm hb (fun ds d h => by obtain ⟨_, _, _, rfl, _⟩ := h; rfl) fun cdv A outer s H Ek hr => ⟨_, (pss_cons (ps_for (passes_of rfl) rfl (pi_any (pv 0)) (pg_name (i := 3) sc_entry_of.nd rfl (by first | exact .inl rfl | exact .inr rfl)) (pss_one (ps_if (pt_cmpR (uEqPK K hr.units) (pe_ix (ix_seqK K) (pv 3) pe_int (fun _ _ => rfl)) (pv 1) (nomark _)) (pss_one (ps_ret (pv 3))) pss_nil)))
      (pss_one (ps_raiseI (W := fun cls d _ H => Ek cls d H) rfl XI_InvalidArgument hr (by first | decide | omega) (takes_of rfl rfl rfl rfl) (by rfl) (pa_cons (pv 2) pa_nil)))),  fun ds o F0 H0 Q r rt => ?_⟩
  obtain ⟨es, nm, word, rfl, rfl⟩ := r
  show S _ _ _ [.fz (.list (es.map enE)), .fz (.str nm), .fz (.str word), .un]
  refine q_for (α := Unit) (fun _ _ => [.fz (.list (es.map enE)), .fz (.str nm), .fz (.str word), .un]) (fun i _ => (es.drop i).find? (fun x => decide (x.1 = nm)) = es.find? fun x => decide (x.1 = nm)) (it_al (e_var rfl)) () rfl (Wk.refl _) (fun F1 i _ d hd pp => ?_) fun _ pp => ?_
  · obtain ⟨x, hx, rfl⟩ := map_get hd
    rw [drop_get hx, List.find?_cons] at pp
    refine ⟨_, _, g_name, ?_⟩
    show S _ _ _ [.fz (.list (es.map enE)), .fz (.str nm), .fz (.str word), .fz (enE x)]
    refine s_if (b := decide (x.1 = nm)) (t_test (b_op (E.b (e_op (x := .tuple (.str x.1 :: x.2)) (e_var rfl) e_int (ix_t (at_hd _ _)))) (E.b (e_var rfl)) eqP_s rfl)) (fun y => ?_) fun y => s_next (n_end () ?_ ?_)
    · rw [y] at pp
      rw [← pp] at rt
      exact s_ret (e_var rfl) rt
    · rw [y] at pp
      exact pp
    · exact .keep rfl (.keep rfl (.keep rfl (.drop .nil)))
  · have pp : (es.drop (es.map enE).length).find? (fun x => decide (x.1 = nm)) = es.find? fun x => decide (x.1 = nm) := pp
    rw [List.length_map, List.drop_length] at pp
    rw [← pp] at rt
    exact s_raise1 (e_var rfl) rt
def R_wo (K : PySem.W.Frag) (Ca : Addr) : Hp → List Sl → PyData → Prop := fun F Gs d => ∃ (a : Addr) (fs : List (Str × PyData)) (es : List (Str × List PyData)) (nm : Str) (x : Str × List PyData), Gs = [.raw (.ref a), .fz (.str nm)] ∧ ObF K F a Ca fs ∧ fs.lookup ("windows" : Str) = some (.list (es.map enE)) ∧ (es.find? fun x => decide (x.1 = nm)) = some x ∧ d = enE x
theorem ok_wo {C Ca : Addr} (Fn : Fun K "window_of" "window_of" s_window_of f fd) (hm : mg "window_of" = some (.ref f)) (hb : Binds K fd ["made", "name"] []) (Z : Zb mg) (CL : Cls K Ca) (N_windows : NoAttr K Ca "windows")
    (D_entry_of : DfX P w K mg base 3 "entry_of" ["entries", "name", "word"] (spX K Tb (R_eo C))) : Df P w K mg base 4 "window_of" ["made", "name"] (spS K Tb (R_wo K Ca)) := by
  refine df_S Fn sc_window_of hm hb (fun F Gs d h => by obtain ⟨_, _, _, _, _, rfl, _⟩ := h; rfl) fun cdv A outer s H Ek hr => ⟨_, (pss_one (ps_ret (pe_dfX (W := fun _ _ _ _ => False) D_entry_of hr (by first | decide | exact Nat.le_refl _ | omega) (by rfl) takes0 (pa_cons (pe_fldK K (pv 0)) (pa_cons (pv 1) (pa_cons pe_str pa_nil)))))),  fun Gs d F0 H0 Q r rt => ?_⟩
  obtain ⟨a, fs, es, nm, x, rfl, ob, hl, hf, rfl⟩ := r
  exact s_ret (ev_callX (R := R_eo C) (ds := [.list (es.map enE), .str nm, .str "window"]) (a_cons (e_fld0 rfl ob CL N_windows hl) (a_cons (e_var rfl) (a_cons e_str a_nil))) ⟨es, nm, "window", rfl, by rw [hf]; rfl⟩) rt
/-- a setup with a week and windows -/
def HasW (K : PySem.W.Frag) (F : Hp) (Ca a : Addr) (wk : Int) (ws : List Wi) : Prop := ∃ fs, ObF K F a Ca fs ∧ fs.lookup ("windows" : Str) = some (.list ((ws.map wiE).map enE)) ∧ fs.lookup ("week" : Str) = some (.int wk)
theorem HasW.mono {F F' : Hp} {Ca a : Addr} {wk : Int} {ws : List Wi} (h : HasW K F Ca a wk ws) (e : Ex F F') : HasW K F' Ca a wk ws := by
  obtain ⟨fs, h1, h2⟩ := h
  exact ⟨fs, h1.mono e, h2⟩
def R_so (K : PySem.W.Frag) (Ca : Addr) : Hp → List Sl → List PyData → Prop := fun F Gs es => ∃ (a : Addr) (wk : Int) (ws : List Wi) (mu : List Str), Gs = [.raw (.ref a), .fz (.tuple (mu.map .str))] ∧ HasW K F Ca a wk ws ∧ WiO wk ws mu ∧ es = (spF ws mu).map spD2
def fSo (ws : List Wi) : PyData → Option (List PyData)
  | .str m => some ((wiG ws m).map spD2)
  | _ => none
theorem fSo_map (ws : List Wi) (mu : List Str) : (mu.map PyData.str).flatMap (lc2F (fSo ws) fun _ e => some e) = (spF ws mu).map spD2 := by
  unfold spF
  induction mu with
  | nil => rfl
  | cons m mu ih =>
    rw [List.map_cons, List.flatMap_cons, List.flatMap_cons, ih, List.map_append]
    show ((wiG ws m).map spD2).filterMap some ++ _ = _
    rw [List.filterMap_some]
theorem ok_so {Ca : Addr} (Fn : Fun K "spans_of" "spans_of" s_spans_of f fd) (hm : mg "spans_of" = some (.ref f)) (hb : Binds K fd ["setup", "mutes"] []) (Z : Zb mg)
    (D_window_of : Df P w K mg base 4 "window_of" ["made", "name"] (spS K Tb (R_wo K Ca))) : Df P w K mg base 5 "spans_of" ["setup", "mutes"] (spSL K Tb (R_so K Ca)) := by
  refine df_SL Fn sc_spans_of hm hb (fun F Gs d h => by obtain ⟨_, _, _, _, rfl, _⟩ := h; rfl) fun cdv A outer s H Ek hr => ⟨_, (pss_one (ps_ret (pe_lc2 (own := [("name", 2), ("span", 3)]) (vs1 := [3]) (by rfl) sc_spans_of.nd (pi_any (pv 1)) (blkOk_by (own := [("name", 2), ("span", 3)]) (N := N_spans_of) (sc := defScope s_spans_of) (by decide +kernel)) (by decide) (fun _ _ _ _ _ => (pg_name (i := 2) sc_spans_of.nd rfl (by first | exact .inl rfl | exact .inr rfl))) (fun _ _ _ _ _ => pts_nil) (fun _ _ _ _ _ => (pi_anyK K (pe_ix (ix_seqK K) (pe_df D_window_of hr (by first | decide | exact Nat.le_refl _ | omega) (by rfl) (pa_cons (pv 0) (pa_cons (pv 2) pa_nil))) pe_int (fun _ _ => rfl)))) (fun _ _ _ _ _ => (pg_name (i := 3) sc_spans_of.nd rfl (by first | exact .inl rfl | exact .inr rfl))) (fun _ _ _ _ _ => pts_nil) (fun _ _ _ _ _ => (pv 3))))),  fun Gs es F0 H0 Q r rt => ?_⟩
  obtain ⟨a, wk, ws, mu, rfl, ⟨fs, ob, hl, hw⟩, ok, rfl⟩ := r
  have zl := spF_len ok
  show S _ _ _ [.raw (.ref a), .fz (.tuple (mu.map .str)), .un, .un]
  rw [← fSo_map] at rt
  refine s_retL (el_lc2 (ix := [2]) (ix1 := [3]) (fSo ws) (fun _ e => some e) (fun d => [.raw (.ref a), .fz (.tuple (mu.map .str)), .fz d, .un]) (fun d e => [.raw (.ref a), .fz (.tuple (mu.map .str)), .fz d, .fz e]) (it_at (e_var rfl)) (by rw [fSo_map, List.length_map]; omega) (fun F1 d hd => g_name) (by decide) (fun F1 d hd => ?_) (fun F1 d hd es he => ?_) (fun d hd t ht => ?_) (fun F1 d hd es he e hm => g_name) (by decide) (fun F1 d hd es he e hm => t_yes) fun F1 d hd es he e hm y hy => ?_) rt
  · obtain ⟨m, _, rfl⟩ := List.mem_map.mp hd
    exact t_yes
  · obtain ⟨m, hmu, rfl⟩ := List.mem_map.mp hd
    cases he
    obtain ⟨y, hy, ey⟩ := ok.m m hmu
    obtain ⟨x, hx⟩ : ∃ x, (ws.find? fun y => decide (y.1 = m)) = some x := by
      cases e : ws.find? fun y => decide (y.1 = m) with
      | some x => exact ⟨x, rfl⟩
      | none => exact absurd (List.find?_eq_none.mp e y hy) (by simp [ey])
    have eg : wiG ws m = x.2 := by unfold wiG; rw [hx]; rfl
    rw [eg]
    exact it_at (e_op (x := enE (wiE x)) (e_callS0 (R := R_wo K Ca) (as_raw rfl (as_cons (e_var rfl) as_nil)) fun F e => ⟨a, fs, ws.map wiE, m, wiE x, rfl, ob.mono e, hl, by rw [find_map, hx]; rfl, rfl⟩) e_int (ix_t rfl))
  · simp only [List.mem_cons, List.not_mem_nil, or_false] at ht
    rcases ht with rfl | rfl | rfl | rfl <;> rfl
  · cases hy
    exact e_var rfl
end
def unF (w : Int) (sp : List (Int × Int)) (t : Int) : Option Int := ((List.range w.toNat).find? fun k => !isp w sp (t + (k : Nat))).map fun k => t + (k : Nat)
theorem unF_some {w : Int} {sp : List (Int × Int)} {t f : Int} (h1 : t ≤ f) (h2 : f < t + w) (h3 : isp w sp f = false) (h4 : ∀ s, t ≤ s → s < f → isp w sp s = true) : unF w sp t = some f := by
  unfold unF
  have e : ((List.range w.toNat).find? fun k => !isp w sp (t + (k : Nat))) = some (f - t).toNat := by
    rw [List.find?_range_eq_some]
    refine ⟨?_, List.mem_range.mpr (by omega), fun j hj => ?_⟩
    · rw [show t + (((f - t).toNat : Nat) : Int) = f by omega, h3]; rfl
    · rw [h4 (t + j) (by omega) (by omega)]; rfl
  rw [e]
  exact congrArg some (show t + (((f - t).toNat : Nat) : Int) = f by omega)
theorem unF_none {w : Int} {sp : List (Int × Int)} {t : Int} (h : ∀ s, t ≤ s → s < t + w → isp w sp s = true) : unF w sp t = none := by
  unfold unF
  rw [List.find?_eq_none.mpr fun k hk => ?_]
  · rfl
  · have := List.mem_range.mp hk
    rw [h (t + k) (by omega) (by omega)]; decide
/-- a step over a mute -/
theorem isp_step {w : Int} {sp : List (Int × Int)} {f : Int} {a M : Int} (hw : 0 < w) (hm : (a, M) ∈ sp) (h1 : a ≤ f % w) (h2 : M ≤ w) : ∀ s, f ≤ s → s < f + (M - f % w) → isp w sp s = true := fun s b1 b2 => by
  have m := md f w hw
  have e : s % w = f % w + (s - f) := by
    have e1 : s = (f % w + (s - f)) + w * (f / w) := by have := Int.emod_add_mul_ediv f w; omega
    rw [e1, Int.add_mul_emod_self_left, Int.emod_eq_of_lt (by omega) (by omega)]
    omega
  unfold isp
  refine List.any_eq_true.mpr ⟨(a, M), hm, ?_⟩
  rw [Bool.and_eq_true, decide_eq_true_iff, decide_eq_true_iff]
  show a ≤ s % w ∧ s % w < M
  omega
/-! the longest mute: g the flags, W the week -/
section
variable {P : Program} {w : World} {K : PySem.W.Frag} {mg : Str → Option Value} {base : Heap} {f : Addr} {fd : FuncData} {Tb : List Addr} {k : Nat}
def R_unm (K : PySem.W.Frag) (Ca : Addr) : Hp → List Sl → PyData → Prop := fun F Gs d => ∃ (a : Addr) (wk : Int) (ws : List Wi) (mu : List Str) (t : Int), Gs = [.raw (.ref a), .fz (.tuple (mu.map .str)), .fz (.int t)] ∧ HasW K F Ca a wk ws ∧ WiO wk ws mu ∧ d = oD (unF wk (spF ws mu) t)
theorem ok_unm {Ca : Addr} (Fn : Fun K "unmuted_from" "unmuted_from" s_unmuted_from f fd) (hm : mg "unmuted_from" = some (.ref f)) (hb : Binds K fd ["setup", "mutes", "time"] []) (Z : Zb mg) (CL : Cls K Ca) (N_week : NoAttr K Ca "week")
    (D_spans_of : Df P w K mg base 5 "spans_of" ["setup", "mutes"] (spSL K Tb (R_so K Ca))) : Df P w K mg base 6 "unmuted_from" ["setup", "mutes", "time"] (spS K Tb (R_unm K Ca)) := by
  refine df_S Fn sc_unmuted_from hm hb (fun F Gs d h => by obtain ⟨_, _, _, _, _, rfl, _⟩ := h; rfl) fun cdv A outer s H Ek hr => ⟨_, (pss_cons (ps_set (i := 3) sc_unmuted_from.nd rfl (by first | exact .inl rfl | exact .inr rfl) (pe_df D_spans_of hr (by first | decide | exact Nat.le_refl _ | omega) (by rfl) (pa_cons (pv 0) (pa_cons (pv 1) pa_nil))))
      (pss_cons (ps_set (i := 4) sc_unmuted_from.nd rfl (by first | exact .inl rfl | exact .inr rfl) (pv 2))
      (pss_cons (ps_while PassesOwn.never (pt_cmpR uLt (pv 4) (pe_op (uAddK K) (pv 2) (pe_fldK K (pv 0))) (nomark _)) (pss_cons (ps_set (i := 5) sc_unmuted_from.nd rfl (by first | exact .inl rfl | exact .inr rfl) (pe_op op_mod (pv 4) (pe_fldK K (pv 0))))
      (pss_cons (ps_setLc (i := 6) (own := [("first", 7), ("last", 8)]) (by rfl) sc_unmuted_from.nd rfl rfl (sw_true rfl rfl rfl (by decide +kernel)) (pi_any (pv 3)) (blkOk_by (own := [("first", 7), ("last", 8)]) (N := N_unmuted_from) (sc := defScope s_unmuted_from) (by decide +kernel)) (fun _ _ _ _ _ => (pg_tupK (n := 2) K rfl (pgs_cons (pg_name (i := 7) sc_unmuted_from.nd rfl (by first | exact .inl rfl | exact .inr rfl)) (pgs_cons (pg_name (i := 8) sc_unmuted_from.nd rfl (by first | exact .inl rfl | exact .inr rfl)) pgs_nil)))) (fun _ _ _ _ _ => (pts_one (pt_chain op_le uLt (pv 7) (pv 5) (pv 8)))) (fun _ _ _ _ _ => (pv 8)))
      (pss_cons (ps_if (pt_not (pt_truthK K (pv 6) (by intro _; rfl))) (pss_one (ps_ret (pv 4))) pss_nil)
      (pss_one (ps_aug (i := 4) sc_unmuted_from.nd rfl (by first | exact .inl rfl | exact .inr rfl) (pe_op op_sub (pe_callB (uMax1 K (by rfl)) (by rfl) Z.max (by decide +kernel) (pa_cons (pv 6) pa_nil)) (pv 5)) ip_add))))))
      (pss_one (ps_ret pe_non))))),  fun Gs d F0 H0 Q r rt => ?_⟩
  obtain ⟨a, wk, ws, mu, t, rfl, hw, ok, rfl⟩ := r
  have hw' := hw
  obtain ⟨fs, ob, hl, hk⟩ := hw'
  have w0 := ok.w0
  have zl := spF_len ok
  have sok := spF_ok ok
  show S _ _ _ [.raw (.ref a), .fz (.tuple (mu.map .str)), .fz (.int t), .un, .un, .un, .un, .un, .un]
  refine q_asgL (el_callS0 (R := R_so K Ca) (as_raw rfl (as_cons (e_var rfl) as_nil)) fun F e => ⟨a, wk, ws, mu, rfl, hw.mono e, ok, rfl⟩) (s_frz (i := 3) rfl ?_)
  generalize spF ws mu = sp at zl sok rt ⊢
  refine q_asg (d := .int t) (e_var rfl) ?_
  refine q_while (α := Int) (fun f => [.raw (.ref a), .fz (.tuple (mu.map .str)), .fz (.int t), .fz (.list (sp.map spD2)), .fz (.int f), .un, .un, .un, .un]) (fun f => t ≤ f ∧ ∀ s, t ≤ s → s < f → isp wk sp s = true) (fun f => (t + wk - f).toNat) t ⟨Int.le_refl _, fun s h1 h2 => by omega⟩ (Wk.refl _) fun f pp => ⟨decide (f < t + wk), t_test (b_op (E.b (e_var rfl)) (E.b (e_op (e_var rfl) (e_fld0 rfl ob CL N_week hk) add_i)) lt_i rfl), fun z => ?_, fun z => ?_⟩
  · obtain ⟨h1, h2⟩ := pp
    have z := of_decide_eq_true z
    refine q_asg (d := .int (f % wk)) (e_op (e_var rfl) (e_fld0 rfl ob CL N_week hk) (mod_i w0)) ?_
    show S _ _ _ [.raw (.ref a), .fz (.tuple (mu.map .str)), .fz (.int t), .fz (.list (sp.map spD2)), .fz (.int f), .fz (.int (f % wk)), .un, .un, .un]
    refine q_asgL (el_mapI (ix := [7, 8]) spD2 spD2_inj sp (fun p => decide (p.1 ≤ f % wk) && decide (f % wk < p.2)) (fun p => .int p.2) (fun p => [.raw (.ref a), .fz (.tuple (mu.map .str)), .fz (.int t), .fz (.list (sp.map spD2)), .fz (.int f), .fz (.int (f % wk)), .un, .fz (.int p.1), .fz (.int p.2)]) (it_al (e_var rfl)) (by omega) (fun F1 p hp => g_tup (gs_cons g_name (gs_cons g_name gs_nil)) rfl) (by decide) (fun F1 p hp => t_test (e_chain (E.b (e_var rfl)) (E.b (e_var rfl)) (fun _ => E.b (e_var rfl)) le_i fun _ => lt_i)) fun F1 p hp _ => e_var rfl) (s_frz (i := 6) rfl ?_)
    have hmem : ∀ p ∈ sp.filter fun p => decide (p.1 ≤ f % wk) && decide (f % wk < p.2), p ∈ sp ∧ p.1 ≤ f % wk ∧ f % wk < p.2 := fun p hp => by
      have h := List.mem_filter.mp hp
      rw [Bool.and_eq_true, decide_eq_true_iff, decide_eq_true_iff] at h
      exact ⟨h.1, h.2⟩
    have hnone : (sp.filter fun p => decide (p.1 ≤ f % wk) && decide (f % wk < p.2)) = [] → isp wk sp f = false := fun e => by
      unfold isp
      rw [List.any_eq_false]
      intro p hp hq
      have : p ∈ sp.filter fun p => decide (p.1 ≤ f % wk) && decide (f % wk < p.2) := List.mem_filter.mpr ⟨hp, hq⟩
      rw [e] at this; cases this
    generalize (sp.filter fun p => decide (p.1 ≤ f % wk) && decide (f % wk < p.2)) = L at hmem hnone ⊢
    show S _ _ _ [.raw (.ref a), .fz (.tuple (mu.map .str)), .fz (.int t), .fz (.list (sp.map spD2)), .fz (.int f), .fz (.int (f % wk)), .fz (.list (L.map fun p => .int p.2)), .un, .un]
    cases L with
    | nil =>
      refine q_if (b := !false) (t_not (t_tru (d := .list []) (E.b (e_var rfl)) rfl)) (fun _ => ?_) fun y => by cases y
      rw [unF_some h1 z (hnone rfl) h2] at rt
      exact s_ret (e_var rfl) rt
    | cons p0 L =>
      refine q_if (b := !true) (t_not (t_tru (d := .list ((p0 :: L).map fun p => .int p.2)) (E.b (e_var rfl)) rfl)) (fun y => by cases y) fun _ => s_next (n_go ?_)
      have em : ((p0 :: L).map fun p => PyData.int p.2) = ((p0.2 :: L.map (·.2)).map .int) := by rw [List.map_cons, List.map_cons, List.map_map]; rfl
      rw [em]
      have mm := maxI_mem (L.map (·.2)) p0.2
      refine s_aug (b := maxI p0.2 (L.map (·.2)) - f % wk) rfl (e_op (b_cb (ab_cons (E.b (e_var rfl)) ab_nil) maxL_i rfl) (e_var rfl) sub_i) (n_end (f + (maxI p0.2 (L.map (·.2)) - f % wk)) ?_ ?_)
      · generalize maxI p0.2 (L.map (·.2)) = M at mm
        obtain ⟨p, hp, rfl⟩ : ∃ p ∈ p0 :: L, p.2 = M := by
          rcases List.mem_cons.mp mm with e | e
          · exact ⟨p0, List.mem_cons_self .., e.symm⟩
          · obtain ⟨q, hq, e⟩ := List.mem_map.mp e
            exact ⟨q, List.mem_cons_of_mem _ hq, e⟩
        obtain ⟨m1, m2, m3⟩ := hmem p hp
        have st := isp_step (f := f) (a := p.1) (M := p.2) w0 m1 m2 (sok p m1)
        refine ⟨⟨by omega, fun s b1 b2 => ?_⟩, by omega⟩
        by_cases c : s < f
        · exact h2 s b1 c
        · exact st s (by omega) b2
      · exact .keep rfl (.keep rfl (.keep rfl (.keep rfl (.keep rfl (.drop (.drop (.drop (.drop .nil))))))))
  · obtain ⟨h1, h2⟩ := pp
    have z := of_decide_eq_false z
    rw [unF_none fun s b1 b2 => h2 s b1 (by omega)] at rt
    exact s_ret e_non rt
end
/-! ### Forcing: when pages are forced -/
theorem idO_ok {P : Program} {w : World} {D : Addr} {kvs : List IE} : NtO (idO P w D kvs) := ext_nc fun hp h z => by
  obtain ⟨_, _, xs, _, o, es, ep, e1, _, e2, _⟩ := z
  obtain ⟨⟨vs, e3⟩, _⟩ := h _ _ e1
  rw [e2] at e3; cases e3
abbrev IC := List (Int × Option Int)
def oV : Option Int → V
  | none => .non
  | some n => .int n
def icV (kd : IC) : List IE := kd.map fun p => (p.1, oV p.2)
def lkC (kd : IC) (k : Int) : Option (Option Int) := (kd.find? fun p => decide (p.1 = k)).map (·.2)
theorem icV_at (kd : IC) (k : Int) : atK (icV kd) k = (lkC kd k).map oV := by
  unfold atK icV lkC
  rw [List.find?_map, Option.map_map, Option.map_map]; rfl
theorem lk_none {kd : IC} {k : Int} (h : lkC kd k = none) : (kd.any fun p => decide (p.1 = k)) = false := by
  unfold lkC at h
  rw [Option.map_eq_none_iff, List.find?_eq_none] at h
  rw [Bool.eq_false_iff]
  intro z
  obtain ⟨p, hp, e⟩ := List.any_eq_true.mp z
  exact h p hp e
theorem icV_put {kd : IC} {k : Int} {o : Option Int} (h : lkC kd k = none) : storeK (icV kd) k (oV o) = icV (kd ++ [(k, o)]) := by
  have e : ((icV kd).any fun x => decide (x.1 = k)) = false := by
    have := lk_none h
    unfold icV
    rw [List.any_map]; exact this
  unfold storeK
  rw [e, if_neg (by decide)]
  unfold icV
  rw [List.map_append]; rfl
theorem lk_app {kd : IC} {k : Int} {o : Option Int} (h : lkC kd k = none) : lkC (kd ++ [(k, o)]) k = some o := by
  unfold lkC at h ⊢
  rw [Option.map_eq_none_iff] at h
  rw [List.find?_append, h, Option.none_or]
  simp
structure FoS where
  sa : Addr
  x : SuP
  mu : List Str
  kd : IC
def foL (a e : Addr) : Addr → Prop := fun p => p = a ∨ p = e
def foF4 (sa : Addr) (vm : V) (sl : Int) (e : Addr) : List (Str × V) := [("_setup", .ref sa), ("_mutes", vm), ("_slack", .int sl), ("_ends", .ref e)]
structure FoΨ (P : Program) (w : World) (K : PySem.W.Frag) (C Ca a dx e : Addr) (s : FoS) (F H : Hp) (vm : V) : Prop where
  o : H a = some (.ins C dx (foF4 s.sa vm (slF s.x) e))
  m : Dp K F vm (.tuple (s.mu.map .str))
  b : ObF K F s.sa Ca (suF s.x)
  d : H e = some (idO P w e (icV s.kd))
  fa : F a = none
  fe : F e = none
  ne : a ≠ e
def foG (P : Program) (w : World) (K : PySem.W.Frag) (C Ca a dx e : Addr) (s : FoS) : Gst (foL a e) where
  Ψ := fun F H => ∃ vm, FoΨ P w K C Ca a dx e s F H vm
  own := fun F H ⟨vm, r⟩ p hp => by
    rcases hp with rfl | rfl
    · exact ⟨r.fa, _, r.o, ins_ok⟩
    · exact ⟨r.fe, _, r.d, idO_ok⟩
  mov := fun F H F' H' ⟨vm, r⟩ ex h1 h2 => ⟨vm, by rw [h1 a (.inl rfl)]; exact r.o, ex.dp _ _ r.m, r.b.mono ex, by rw [h1 e (.inr rfl)]; exact r.d, h2 a (.inl rfl), h2 e (.inr rfl), r.ne⟩
theorem fo_names {m : Str} {sa : Addr} {vm : V} {sl : Int} {e : Addr} (h : m ∉ (["_setup", "_mutes", "_slack", "_ends"] : List Str)) : (foF4 sa vm sl e).lookup m = none := by
  have h1 : (m == ("_setup" : Str)) = false := beq_eq_false_iff_ne.mpr fun z => h (by rw [z]; exact List.mem_cons_self)
  have h2 : (m == ("_mutes" : Str)) = false := beq_eq_false_iff_ne.mpr fun z => h (by rw [z]; exact List.mem_cons_of_mem _ List.mem_cons_self)
  have h3 : (m == ("_slack" : Str)) = false := beq_eq_false_iff_ne.mpr fun z => h (by rw [z]; exact List.mem_cons_of_mem _ (List.mem_cons_of_mem _ List.mem_cons_self))
  have h4 : (m == ("_ends" : Str)) = false := beq_eq_false_iff_ne.mpr fun z => h (by rw [z]; exact List.mem_cons_of_mem _ (List.mem_cons_of_mem _ (List.mem_cons_of_mem _ List.mem_cons_self)))
  unfold foF4
  rw [List.lookup_cons, h1, List.lookup_cons, h2, List.lookup_cons, h3, List.lookup_cons, h4]
  rfl
def foFm (P : Program) (w : World) (K : PySem.W.Frag) (C Ca : Addr) : Fam K C where
  ι := Addr × Addr × Addr
  α := FoS
  ad := fun i => i.1
  L := fun i => foL i.1 i.2.2
  Γ := fun i s => foG P w K C Ca i.1 i.2.1 i.2.2 s
  names := ["_setup", "_mutes", "_slack", "_ends"]
  ins := fun i s F H ⟨vm, r⟩ => ⟨i.2.1, _, r.o, fun m h => fo_names h⟩
/-- what the text says of the classes -/
structure FoK (K : PySem.W.Frag) (C Ca : Addr) : Prop where
  c : Cls K C
  n1 : NoAttr K C "_setup"
  n2 : NoAttr K C "_mutes"
  n3 : NoAttr K C "_slack"
  n4 : NoAttr K C "_ends"
  s : Cls K Ca
  w : NoAttr K Ca "week"
theorem as_rawE {g : Gd} {te : TE} {ta : TA} {G Gs : List Sl} {v : V} (h : ∀ σ F H, Holds g G σ F H → ∀ Q : VK, Q v H → te σ H Q) (hr : AS g ta G Gs) : AS g (tCons te ta) G (.raw v :: Gs) := fun σ F H hh Q q => h σ F H hh _ (hr σ F H hh _ fun vs F2 H2 s2 d2 => q (v :: vs) F2 H2 s2 (.raw d2))
section
variable {P : Program} {w : World} {K : PySem.W.Frag} {C Ca : Addr} {Tb : List Addr} {F0 H0 Fl : Hp} {G : List Sl} {i : Addr × Addr × Addr} {s : FoS} {vm : V}
theorem fo_set (r : FoΨ P w K C Ca i.1 i.2.1 i.2.2 s F0 H0 vm) (k : FoK K C Ca) (h : G[0]? = some (.raw (.ref i.1))) : ∀ σ F H, Holds ⟨K, Tb, F0, H0, Fl⟩ G σ F H → ∀ Q : VK, Q (.ref s.sa) H → tFld K (tVar 0) "_setup" σ H Q := fun σ F H hh Q q => by
  obtain ⟨o, eo, ok⟩ := hh.at_ h
  obtain rfl : o = some (.ref i.1) := ok
  exact ⟨.ref i.1, eo, i.1, C, i.2.1, _, _, rfl, hh.st.h _ _ r.o (fun _ z => by cases z), k.c, k.n1, rfl, q⟩
theorem e_fow (r : FoΨ P w K C Ca i.1 i.2.1 i.2.2 s F0 H0 vm) (k : FoK K C Ca) (h : G[0]? = some (.raw (.ref i.1))) : E ⟨K, Tb, F0, H0, Fl⟩ (tFld K (tFld K (tVar 0) "_setup") "week") G (.int s.x.wk) := fun σ F H hh Q q' => by
  refine fo_set r k h σ F H hh _ ?_
  obtain ⟨dx', ws, h1, h2, h3⟩ := r.b.mono hh.st.f
  obtain ⟨v, e1, e2⟩ := FsOk.get h3 (show (suF s.x).lookup ("week" : Str) = some (.int s.x.wk) from rfl)
  exact ⟨s.sa, Ca, dx', ws, v, rfl, hh.st.i.ex s.sa _ h1 (fun _ z => by cases z), k.s, k.w, e1, q' v F H (Stp.refl hh.st.i) e2⟩
theorem e_fom (r : FoΨ P w K C Ca i.1 i.2.1 i.2.2 s F0 H0 vm) (k : FoK K C Ca) (h : G[0]? = some (.raw (.ref i.1))) : E ⟨K, Tb, F0, H0, Fl⟩ (tFld K (tVar 0) "_mutes") G (.tuple (s.mu.map .str)) := fun σ F H hh Q q' => by
  obtain ⟨o, eo, ok⟩ := hh.at_ h
  obtain rfl : o = some (.ref i.1) := ok
  exact ⟨.ref i.1, eo, i.1, C, i.2.1, _, vm, rfl, hh.st.h _ _ r.o (fun _ z => by cases z), k.c, k.n2, rfl, q' vm F H (Stp.refl hh.st.i) (hh.st.f.dp _ _ r.m)⟩
theorem e_fos (r : FoΨ P w K C Ca i.1 i.2.1 i.2.2 s F0 H0 vm) (k : FoK K C Ca) (h : G[0]? = some (.raw (.ref i.1))) : E ⟨K, Tb, F0, H0, Fl⟩ (tFld K (tVar 0) "_slack") G (.int (slF s.x)) := fun σ F H hh Q q' => by
  obtain ⟨o, eo, ok⟩ := hh.at_ h
  obtain rfl : o = some (.ref i.1) := ok
  exact ⟨.ref i.1, eo, i.1, C, i.2.1, _, _, rfl, hh.st.h _ _ r.o (fun _ z => by cases z), k.c, k.n3, rfl, q' _ F H (Stp.refl hh.st.i) (.int _)⟩
end
/-- the first time at or after t that is not muted -/
def frF (x : SuP) (mu : List Str) (t : Int) : Option Int := (unF x.wk (spF x.wi mu) (t % x.wk)).map fun e => t - t % x.wk + e
/-- what is kept is right -/
def COk (s : FoS) : Prop := ∀ p ∈ s.kd, p.2 = unF s.x.wk (spF s.x.wi s.mu) p.1
def nxK (s : FoS) (t : Int) : FoS := { s with kd := if (lkC s.kd (t % s.x.wk)).isSome then s.kd else s.kd ++ [(t % s.x.wk, unF s.x.wk (spF s.x.wi s.mu) (t % s.x.wk))] }
structure FoI (s : FoS) : Prop where
  w : WiO s.x.wk s.x.wi s.mu
  c : COk s
  z : s.kd.length < 100000
def R_fre : FoS → List PyData → FoS → PyData → Prop := fun s ds s' d => ∃ t : Int, ds = [.int t] ∧ FoI s ∧ s' = nxK s t ∧ d = oD (frF s.x s.mu t)
section
variable {P : Program} {w : World} {K : PySem.W.Frag} {mg : Str → Option Value} {base : Heap} {f : Addr} {fd : FuncData} {Tb : List Addr} {k : Nat} {C Ca : Addr}
theorem lk_ok {s : FoS} (h : COk s) {t : Int} {o : Option Int} (e : lkC s.kd t = some o) : o = unF s.x.wk (spF s.x.wi s.mu) t := by
  unfold lkC at e
  obtain ⟨p, hp, rfl⟩ := Option.map_eq_some_iff.mp e
  have h1 := List.find?_some hp
  have h2 := h p (List.mem_of_find?_eq_some hp)
  rw [h2, of_decide_eq_true h1]
theorem ok_fre (Fn : Fun K "free_from" "Forcing.free_from" s_Forcing_free_from f fd) (hM : Meth K C "free_from" f) (hb : Binds K fd ["self", "time"] []) (Z : Zb mg) (kk : FoK K C Ca)
    (D_unmuted_from : Df P w K mg base 6 "unmuted_from" ["setup", "mutes", "time"] (spS K Tb (R_unm K Ca))) :
    MtOk P w K mg base 8 C "free_from" ["self", "time"] (DW.spF K Tb (foFm P w K C Ca) R_fre) := by
  refine mt_F Fn sc_Forcing_free_from hM hb (fun s ds s' d h => by obtain ⟨_, rfl, _⟩ := h; rfl) fun cdv A outer sh H Ek hr => ⟨_, (pss_cons (ps_set (i := 2) sc_Forcing_free_from.nd rfl (by first | exact .inl rfl | exact .inr rfl) (pe_op op_mod (pv 1) (pe_fldK K (pe_fldK K (pv 0)))))
      (Evl.pss_cut (ps_if (pt_cmpR (uNiI P w) (pv 2) (pe_fldK K (pv 0)) (by rfl)) (pss_one (ps_dputI P w (pe_fldK K (pv 0)) (pv 2) (pe_df D_unmuted_from hr (by first | decide | exact Nat.le_refl _ | omega) (by rfl) (pa_cons (pe_fldK K (pv 0)) (pa_cons (pe_fldK K (pv 0)) (pa_cons (pv 2) pa_nil)))) rfl)) pss_nil)
      (pss_cons (ps_set (i := 3) sc_Forcing_free_from.nd rfl (by first | exact .inl rfl | exact .inr rfl) (pe_dgetI P w (pe_fldK K (pv 0)) (pv 2) (fun _ _ => rfl)))
      (pss_one (ps_ret (pe_ifExp (pt_cmpR uIsN (pv 3) pe_non (nomark _)) pe_non (pe_op (uAddK K) (pe_op op_sub (pv 1) (pv 2)) (pv 3)))))))),  fun i s ds s' d F0 H0 Q r rt => ?_⟩
  obtain ⟨t, rfl, ⟨hw, hc, hz⟩, rfl, rfl⟩ := r
  show SR _ _ _ [.raw (.ref i.1), .fz (.int t), .un, .un] _
  refine r_asg (Γ' := (foFm P w K C Ca).Γ i s) (d := .int (t % s.x.wk)) (er_E fun F0 H0 Fl ⟨vm, r⟩ => e_op (e_var rfl) (e_fow r kk rfl) (mod_i hw.w0)) ?_
  show SR _ _ _ [.raw (.ref i.1), .fz (.int t), .fz (.int (t % s.x.wk)), .un] _
  have tE : TR ⟨K, Tb, F0, H0, F0⟩ (tTest (tOp (rNiI P w) (tVar 2) (tFld K (tVar 0) "_ends"))) [.raw (.ref i.1), .fz (.int t), .fz (.int (t % s.x.wk)), .un] ((foFm P w K C Ca).Γ i s) ((foFm P w K C Ca).Γ i s) (!(lkC s.kd (t % s.x.wk)).isSome) := fun σ F H hh Q q => by
    have hp := hh.psi
    obtain ⟨vm, p⟩ := hp
    have hh0 := hh
    obtain ⟨hL, F1, H1, Fl1, p1, s1, l1, h1⟩ := hh0
    obtain ⟨o, eo, ok⟩ := h1.at_ (show ([.raw (.ref i.1), .fz (.int t), .fz (.int (t % s.x.wk)), .un] : List Sl)[0]? = some (.raw (.ref i.1)) from rfl)
    obtain rfl : o = some (.ref i.1) := ok
    obtain ⟨o2, eo2, v2, ev2, dv2⟩ := h1.at_ (show ([.raw (.ref i.1), .fz (.int t), .fz (.int (t % s.x.wk)), .un] : List Sl)[2]? = some (.fz (.int (t % s.x.wk))) from rfl)
    cases ev2
    cases dv2
    refine ⟨_, eo2, .ref i.1, eo, i.1, C, i.2.1, _, .ref i.2.2, rfl, p.o, kk.c, kk.n4, rfl, i.2.2, _, _, rfl, rfl, p.d, ?_⟩
    have e1 : (atK (icV s.kd) (t % s.x.wk)).isSome = (lkC s.kd (t % s.x.wk)).isSome := by rw [icV_at]; cases lkC s.kd (t % s.x.wk) <;> rfl
    rw [e1]
    exact ⟨_, rfl, q F H (Ex.refl F) hh⟩
  have e2 : (nxK s t).x = s.x := rfl
  refine sr_cut (α := Unit) (fun _ => [.raw (.ref i.1), .fz (.int t), .fz (.int (t % s.x.wk)), .un]) (fun _ => (foFm P w K C Ca).Γ i (nxK s t)) (fun _ => lkC (nxK s t).kd (t % s.x.wk) = some (unF s.x.wk (spF s.x.wi s.mu) (t % s.x.wk))) (sr_if tE (fun hb => ?_) fun hb => ?_) fun _ hl => ?_
  · have hn : lkC s.kd (t % s.x.wk) = none := by cases e : lkC s.kd (t % s.x.wk) with | none => rfl | some o => rw [e] at hb; cases hb
    have en : (nxK s t).kd = s.kd ++ [(t % s.x.wk, unF s.x.wk (spF s.x.wi s.mu) (t % s.x.wk))] := by unfold nxK; rw [hn]; rfl
    have hE : ER ⟨K, Tb, F0, H0, F0⟩ (tCall (spS K Tb (R_unm K Ca)) [] (fun _ _ _ => False) (tCons (tFld K (tVar 0) "_setup") (tCons (tFld K (tVar 0) "_mutes") (tCons (tVar 2) tNil)))) [.raw (.ref i.1), .fz (.int t), .fz (.int (t % s.x.wk)), .un] ((foFm P w K C Ca).Γ i s) ((foFm P w K C Ca).Γ i s) (oD (unF s.x.wk (spF s.x.wi s.mu) (t % s.x.wk))) := er_E fun F0 H0 Fl ⟨vm, r⟩ =>
      e_callS0 (R := R_unm K Ca) (as_rawE (fo_set r kk rfl) (as_cons (e_fom r kk rfl) (as_cons (e_var rfl) as_nil))) fun F e => ⟨s.sa, s.x.wk, s.x.wi, s.mu, t % s.x.wk, rfl, ⟨suF s.x, r.b.mono e, by show some (PyData.list ((wiL s.x).map enE)) = _; rfl, rfl⟩, hw, rfl⟩
    intro σ F H hh
    refine hE σ F H hh _ fun v F2 H2 x2 hh2 d2 => ?_
    obtain ⟨vm2, p2⟩ := hh2.psi
    have hh0 := hh2
    obtain ⟨hL, F1, H1, Fl1, p1, s1, l1, h1⟩ := hh0
    obtain ⟨o, eo, ok⟩ := h1.at_ (show ([.raw (.ref i.1), .fz (.int t), .fz (.int (t % s.x.wk)), .un] : List Sl)[0]? = some (.raw (.ref i.1)) from rfl)
    obtain rfl : o = some (.ref i.1) := ok
    obtain ⟨o2, eo2, v2, ev2, dv2⟩ := h1.at_ (show ([.raw (.ref i.1), .fz (.int t), .fz (.int (t % s.x.wk)), .un] : List Sl)[2]? = some (.fz (.int (t % s.x.wk))) from rfl)
    cases ev2
    cases dv2
    have ev : v = oV (unF s.x.wk (spF s.x.wi s.mu) (t % s.x.wk)) := by
      cases e : unF s.x.wk (spF s.x.wi s.mu) (t % s.x.wk) with
      | none => rw [e] at d2; cases d2; rfl
      | some n => rw [e] at d2; cases d2; rfl
    subst ev
    refine ⟨.ref i.1, eo, i.1, C, i.2.1, _, .ref i.2.2, rfl, p2.o, kk.c, kk.n4, rfl, _, eo2, i.2.2, _, _, rfl, rfl, p2.d, Nat.lt_of_lt_of_le (by unfold icV; rw [List.length_map]; exact hz) (by decide), ?_⟩
    rw [icV_put hn, ← en]
    refine nr_end () (by rw [en]; exact lk_app hn) (Wk.refl _) σ F2 _ (hh2.change (Ex.refl F2) (hh2.st.mut (hh2.1 _ (.inr rfl)) p2.fe p2.d idO_nt (nc := idO_ok.code)) (fun P hP => tab_mut p2.d idO_nt idO_ok.code (hh2.tab P hP)) ⟨vm2, ?_, p2.m, p2.b, upd_same, p2.fa, p2.fe, p2.ne⟩ fun a u nl e0 e2 n => ?_)
    · rw [upd_ne p2.ne]; exact p2.o
    · rw [upd_ne (fun z => nl (.inr z))]; exact ⟨e2, e0⟩
  · cases e : lkC s.kd (t % s.x.wk) with
    | none => rw [e] at hb; cases hb
    | some o =>
      have en : nxK s t = s := by unfold nxK; rw [e]; rfl
      have eo := lk_ok hc e
      refine sr_next ?_
      have := nr_end (b := ⟨K, Tb, F0, H0, F0⟩) (α := Unit) (Iv := fun _ => [.raw (.ref i.1), .fz (.int t), .fz (.int (t % s.x.wk)), .un]) (Γs := fun _ => (foFm P w K C Ca).Γ i (nxK s t)) (P := fun _ => lkC (nxK s t).kd (t % s.x.wk) = some (unF s.x.wk (spF s.x.wi s.mu) (t % s.x.wk))) () (by rw [en, e, eo]) (Wk.refl [.raw (.ref i.1), .fz (.int t), .fz (.int (t % s.x.wk)), .un])
      rw [en] at this ⊢
      exact this
  · have gE : ER ⟨K, Tb, F0, H0, F0⟩ (tDGetI P w (tFld K (tVar 0) "_ends") (tVar 2)) [.raw (.ref i.1), .fz (.int t), .fz (.int (t % s.x.wk)), .un] ((foFm P w K C Ca).Γ i (nxK s t)) ((foFm P w K C Ca).Γ i (nxK s t)) (oD (unF s.x.wk (spF s.x.wi s.mu) (t % s.x.wk))) := fun σ F H hh Q q => by
      have hp := hh.psi
      obtain ⟨vm, p⟩ := hp
      have hh0 := hh
      obtain ⟨hL, F1, H1, Fl1, p1, s1, l1, h1⟩ := hh0
      obtain ⟨o, eo, ok⟩ := h1.at_ (show ([.raw (.ref i.1), .fz (.int t), .fz (.int (t % s.x.wk)), .un] : List Sl)[0]? = some (.raw (.ref i.1)) from rfl)
      obtain rfl : o = some (.ref i.1) := ok
      obtain ⟨o2, eo2, v2, ev2, dv2⟩ := h1.at_ (show ([.raw (.ref i.1), .fz (.int t), .fz (.int (t % s.x.wk)), .un] : List Sl)[2]? = some (.fz (.int (t % s.x.wk))) from rfl)
      cases ev2
      cases dv2
      refine ⟨.ref i.1, eo, i.1, C, i.2.1, _, .ref i.2.2, rfl, p.o, kk.c, kk.n4, rfl, _, eo2, i.2.2, _, _, oV (unF s.x.wk (spF s.x.wi s.mu) (t % s.x.wk)), rfl, rfl, p.d, by rw [icV_at, hl]; rfl, q _ F H (Ex.refl F) hh ?_⟩
      cases unF s.x.wk (spF s.x.wi s.mu) (t % s.x.wk) with
      | none => exact .non
      | some n => exact .int n
    refine r_asg (d := oD (unF s.x.wk (spF s.x.wi s.mu) (t % s.x.wk))) gE ?_
    show SR _ _ _ [.raw (.ref i.1), .fz (.int t), .fz (.int (t % s.x.wk)), .fz (oD (unF s.x.wk (spF s.x.wi s.mu) (t % s.x.wk)))] _
    unfold frF at rt
    generalize unF s.x.wk (spF s.x.wi s.mu) (t % s.x.wk) = o at rt ⊢
    refine sr_ret (er_E fun F0 H0 Fl _ => ?_) rt
    refine e_if (b := isND (oD o)) (t_test (b_op (E.b (e_var rfl)) (E.b e_non) is_n rfl)) (fun z => ?_) fun z => ?_
    · cases o with
      | none => exact e_non
      | some n => cases z
    · cases o with
      | none => cases z
      | some n => exact e_op (e_op (e_var rfl) (e_var rfl) sub_i) (e_var (d := .int n) rfl) add_i
end
def R_fof : FoS → List PyData → FoS → PyData → Prop := fun s ds s' d => ∃ u fi : Int, ds = [.int u, .int fi] ∧ FoI s ∧ s' = nxK s (if u + slF s.x > fi then u + slF s.x else fi) ∧ d = oD (frF s.x s.mu (if u + slF s.x > fi then u + slF s.x else fi))
def ifB (o : Option Int) (la : Int) : Bool := match o with
  | none => false
  | some t => decide (t < la)
def R_ifo : FoS → List PyData → FoS → PyData → Prop := fun s ds s' d => ∃ u fi la : Int, ds = [.int u, .int fi, .int la] ∧ FoI s ∧ s' = nxK s (if u + slF s.x > fi then u + slF s.x else fi) ∧ d = .bool (ifB (frF s.x s.mu (if u + slF s.x > fi then u + slF s.x else fi)) la)
section
variable {P : Program} {w : World} {K : PySem.W.Frag} {mg : Str → Option Value} {base : Heap} {f : Addr} {fd : FuncData} {Tb : List Addr} {k : Nat} {C Ca : Addr}
theorem ok_fof (Fn : Fun K "forced_from" "Forcing.forced_from" s_Forcing_forced_from f fd) (hM : Meth K C "forced_from" f) (hb : Binds K fd ["self", "due", "first"] []) (Z : Zb mg) (kk : FoK K C Ca)
    (M_Forcing_free_from : MtOk P w K mg base 8 C "free_from" ["self", "time"] (DW.spF K Tb (foFm P w K C Ca) R_fre)) :
    MtOk P w K mg base 9 C "forced_from" ["self", "due", "first"] (DW.spF K Tb (foFm P w K C Ca) R_fof) := by
  have CL_Forcing := kk.c
  refine mt_F Fn sc_Forcing_forced_from hM hb (fun s ds s' d h => by obtain ⟨_, _, rfl, _⟩ := h; rfl) fun cdv A outer sh H Ek hr => ⟨_, (pss_one (ps_ret (pe_mtM M_Forcing_free_from CL_Forcing hr (by first | decide | exact Nat.le_refl _ | omega) (pv 0) (pa_cons (pe_callB (uMax2 (by rfl)) (by rfl) Z.max (by decide +kernel) (pa_cons (pv 2) (pa_cons (pe_op (uAddK K) (pv 1) (pe_fldK K (pv 0))) pa_nil))) pa_nil)))),  fun i s ds s' d F0 H0 Q r rt => ?_⟩
  obtain ⟨u, fi, rfl, hi, rfl, rfl⟩ := r
  show SR _ _ _ [.raw (.ref i.1), .fz (.int u), .fz (.int fi)] _
  refine sr_ret (Γ' := (foFm P w K C Ca).Γ i (nxK s (if u + slF s.x > fi then u + slF s.x else fi))) (d := oD (frF s.x s.mu (if u + slF s.x > fi then u + slF s.x else fi))) ?_ rt
  refine er_meth (b := ⟨K, Tb, F0, H0, F0⟩) (Fm := foFm P w K C Ca) (i := i) (s := s) (s1 := s) (R := R_fre) (ds := [.int (if u + slF s.x > fi then u + slF s.x else fi)]) (m := "free_from") rfl ?_ (show ¬ ("free_from" : Str) ∈ (["_setup", "_mutes", "_slack", "_ends"] : List Str) from by decide +kernel) ⟨_, rfl, hi, rfl, rfl⟩
  exact ar_A fun F0 H0 Fl p => by
    obtain ⟨vm, r⟩ := p
    exact a_cons (b_cb (ab_cons (E.b (e_var rfl)) (ab_cons (E.b (e_op (e_var rfl) (e_fos r kk rfl) add_i)) ab_nil)) max_i rfl) a_nil
theorem ok_ifo (Fn : Fun K "is_forced" "Forcing.is_forced" s_Forcing_is_forced f fd) (hM : Meth K C "is_forced" f) (hb : Binds K fd ["self", "due", "first", "last"] []) (Z : Zb mg) (kk : FoK K C Ca)
    (M_Forcing_forced_from : MtOk P w K mg base 9 C "forced_from" ["self", "due", "first"] (DW.spF K Tb (foFm P w K C Ca) R_fof)) :
    MtOk P w K mg base 10 C "is_forced" ["self", "due", "first", "last"] (DW.spF K Tb (foFm P w K C Ca) R_ifo) := by
  have CL_Forcing := kk.c
  refine mt_F Fn sc_Forcing_is_forced hM hb (fun s ds s' d h => by obtain ⟨_, _, _, rfl, _⟩ := h; rfl) fun cdv A outer sh H Ek hr => ⟨_, (pss_cons (ps_set (i := 4) sc_Forcing_is_forced.nd rfl (by first | exact .inl rfl | exact .inr rfl) (pe_mtM M_Forcing_forced_from CL_Forcing hr (by first | decide | exact Nat.le_refl _ | omega) (pv 0) (pa_cons (pv 1) (pa_cons (pv 2) pa_nil))))
      (pss_one (ps_ret (pe_and (pe_cmpR uNotN (pv 4) pe_non (nomark _)) (pe_one (pe_cmpR uLt (pv 4) (pv 3) (nomark _))))))),  fun i s ds s' d F0 H0 Q r rt => ?_⟩
  obtain ⟨u, fi, la, rfl, hi, rfl, rfl⟩ := r
  show SR _ _ _ [.raw (.ref i.1), .fz (.int u), .fz (.int fi), .fz (.int la), .un] _
  have hE : ER ⟨K, Tb, F0, H0, F0⟩ (tMeth C "forced_from" (DW.spF K Tb (foFm P w K C Ca) R_fof) [] E0 (tVar 0) (tCons (tVar 1) (tCons (tVar 2) tNil))) [.raw (.ref i.1), .fz (.int u), .fz (.int fi), .fz (.int la), .un] ((foFm P w K C Ca).Γ i s) ((foFm P w K C Ca).Γ i (nxK s (if u + slF s.x > fi then u + slF s.x else fi))) (oD (frF s.x s.mu (if u + slF s.x > fi then u + slF s.x else fi))) := by
    refine er_meth (b := ⟨K, Tb, F0, H0, F0⟩) (Fm := foFm P w K C Ca) (i := i) (s := s) (s1 := s) (R := R_fof) (ds := [.int u, .int fi]) (m := "forced_from") rfl ?_ (show ¬ ("forced_from" : Str) ∈ (["_setup", "_mutes", "_slack", "_ends"] : List Str) from by decide +kernel) ⟨u, fi, rfl, hi, rfl, rfl⟩
    exact ar_A fun F0 H0 Fl _ => a_cons (e_var rfl) (a_cons (e_var rfl) a_nil)
  refine r_asg hE ?_
  generalize frF s.x s.mu (if u + slF s.x > fi then u + slF s.x else fi) = o at rt ⊢
  show SR _ _ _ [.raw (.ref i.1), .fz (.int u), .fz (.int fi), .fz (.int la), .fz (oD o)] _
  refine sr_ret (er_E fun F0 H0 Fl _ => ?_) rt
  cases o with
  | none => exact e_andV (a := false) (b := false) (b_op (E.b (e_var rfl)) (E.b e_non) nis_n rfl) fun z => by cases z
  | some t => exact e_andV (a := true) (b := decide (t < la)) (b_op (E.b (e_var rfl)) (E.b e_non) nis_n rfl) fun _ => b_op (E.b (e_var (d := .int t) rfl)) (E.b (e_var rfl)) lt_i rfl
/-! Forcing made -/
def spFi (P : Program) (w : World) (K : PySem.W.Frag) (Tb : List Addr) (C Ca : Addr) : Sp := fun vs H Q _ => ∃ F a dx sa x st v, vs = [.ref a, .ref sa, v] ∧ Sub F H ∧ F a = none ∧ (∀ P ∈ Tb, TabQ H P) ∧ H a = some (.ins C dx []) ∧ ObF K F sa Ca (suF x) ∧ (1 ≤ x.rp ∧ x.rp ≤ 1000) ∧ Dp K F v (sttD st) ∧
  ∀ F' H' e, Stp F (L2.del H a) F' H' → H e = none → (foG P w K C Ca a dx e ⟨sa, x, st.mu, []⟩).Ψ F' H' → Q .non H'
theorem sub_upd {F H : Hp} {a : Addr} {o : HO} (sb : Sub F H) (hF : F a = none) : Sub F (upd H a o) := ⟨fun b u q n => by rw [upd_ne (fun z => by rw [z, hF] at q; cases q)]; exact sb.ex b u q n, sb.nt⟩
theorem sub_del {F H : Hp} {a : Addr} (sb : Sub F H) (hF : F a = none) : Sub F (L2.del H a) := ⟨fun b u q n => by rw [DW.del_ne (fun z => by rw [z, hF] at q; cases q)]; exact sb.ex b u q n, sb.nt⟩
theorem upd_del {H : Hp} {a : Addr} {o : HO} : upd (L2.del H a) a o = upd H a o := by
  funext b
  by_cases hb : b = a
  · rw [hb, upd_same, upd_same]
  · rw [upd_ne hb, upd_ne hb, DW.del_ne hb]
theorem ok_fi (Fn : Fun K "__init__" "Forcing.__init__" s_Forcing_init f fd) (Z : Zb mg) (kk : FoK K C Ca)
    (D_slack : Df P w K mg base 1 "slack" ["setup"] (spS K Tb (R_slk K Ca))) :
    FnOk P w K mg base CX0 2 f fd ["self", "setup", "settings"] (spFi P w K Tb C Ca) := by
  refine Fn.ok sc_Forcing_init (fun vs H Q E h => ?_) (fun cdv A outer s H vs Q Ek hr h => ?_)
  · obtain ⟨_, _, _, _, _, _, _, rfl, _⟩ := h; rfl
  obtain ⟨F, a, dx, sa, x, st, v, rfl, sb, hF, ht, hH, ob, hrp, hd, q⟩ := h
  have body : ∃ t, PSs (cxOf CX0 P w K mg base N_Forcing_init "Forcing.__init__" (defScope s_Forcing_init) f cdv A outer s H Ek).nox (defBody s_Forcing_init) t ∧ t { nx := fun _ H' => Q .non H', rt := Q } (L2.start N_Forcing_init [.ref a, .ref sa, v]) H := by
    refine ⟨_, (pss_cons (ps_fldK K (pv 0) (pv 1))
      (pss_cons (ps_fldK K (pv 0) (pe_ix (ix_seqK K) (pv 2) pe_int (fun _ _ => rfl)))
      (pss_cons (ps_fldK K (pv 0) (pe_df D_slack hr (by first | decide | exact Nat.le_refl _ | omega) (by rfl) (pa_cons (pv 1) pa_nil)))
      (pss_one (ps_fldK K (pv 0) (pe_dnewI P w)))))),  ?_⟩
    refine ⟨.ref sa, rfl, .ref a, rfl, a, C, dx, [], rfl, hH, kk.c, kk.n1, by decide, ?_⟩
    -- the mutes
    have sb1 : Sub F (upd H a (.ins C dx (putF "_setup" (.ref sa) []))) := sub_upd sb hF
    have ht1 : ∀ P ∈ Tb, TabQ (upd H a (.ins C dx (putF "_setup" (.ref sa) []))) P := fun P hP => tab_mut hH ins_ok.tab ins_ok.code (ht P hP)
    have h1 := holds_startS (Nn := N_Forcing_init) sb1 ht1 (ByS.raw (v := .ref a) (ByS.raw (v := .ref sa) (ByS.fz hd .nil)))
    have eM : E ⟨K, Tb, F, upd H a (.ins C dx (putF "_setup" (.ref sa) [])), F⟩ (tOp (rIx K) (tVar 2) (tC (.int 4))) (startS N_Forcing_init.length [.raw (.ref a), .raw (.ref sa), .fz (sttD st)]) (.tuple (st.mu.map .str)) := e_op (x := .tuple [.tuple (st.gr.map .str), .int st.wt, .int st.iv, .int st.ag, .tuple (st.mu.map .str), .str st.po]) (e_var rfl) e_int (ix_t rfl)
    refine eM _ F _ h1 _ fun vm F2 H2 s2 d2 => ?_
    have hF2 : F2 a = none := s2.n a _ upd_same hF
    have hA2 : H2 a = some (.ins C dx (putF "_setup" (.ref sa) [])) := s2.h a _ upd_same (fun _ z => by cases z)
    refine ⟨.ref a, rfl, a, C, dx, _, rfl, hA2, kk.c, kk.n2, by show 1 < 1000; decide, ?_⟩
    -- the slack
    have sb3 : Sub F2 (upd H2 a (.ins C dx (putF "_mutes" vm (putF "_setup" (.ref sa) [])))) := sub_upd s2.i hF2
    have ht3 : ∀ P ∈ Tb, TabQ (upd H2 a (.ins C dx (putF "_mutes" vm (putF "_setup" (.ref sa) [])))) P := fun P hP => tab_mut hA2 ins_ok.tab ins_ok.code (s2.t P (ht1 P hP))
    refine ⟨.ref sa, rfl, F2, [.raw (.ref sa)], .int (slF x), sb3, ht3, .raw .nil, ⟨sa, x, rfl, ob.mono s2.f, hrp, rfl⟩, fun v4 F4 H4 s4 d4 => ?_⟩
    cases d4
    have hF4 : F4 a = none := s4.n a _ upd_same hF2
    have hA4 : H4 a = some (.ins C dx (putF "_mutes" vm (putF "_setup" (.ref sa) []))) := s4.h a _ upd_same (fun _ z => by cases z)
    refine ⟨.ref a, rfl, a, C, dx, _, rfl, hA4, kk.c, kk.n3, by show 2 < 1000; decide, ?_⟩
    -- the ends
    intro e he
    have ae : a ≠ e := fun z => by rw [← z, upd_same] at he; cases he
    have he4 : H4 e = none := by rw [upd_ne (Ne.symm ae)] at he; exact he
    have hA5 : upd (upd H4 a (.ins C dx (putF "_slack" (.int (slF x)) (putF "_mutes" vm (putF "_setup" (.ref sa) []))))) e (idO P w e []) a = some (.ins C dx (putF "_slack" (.int (slF x)) (putF "_mutes" vm (putF "_setup" (.ref sa) [])))) := by rw [upd_ne ae]; exact upd_same
    refine ⟨.ref a, rfl, a, C, dx, _, rfl, hA5, kk.c, kk.n4, by show 3 < 1000; decide, ?_⟩
    have c0 : Stp F (L2.del H a) F (upd H a (.ins C dx (putF "_setup" (.ref sa) []))) := by rw [← upd_del]; exact Stp.mine (sub_del sb hF) DW.del_same
    have c1 := c0.trans s2
    have c2 : Stp F (L2.del H a) F2 (upd H2 a (.ins C dx (putF "_mutes" vm (putF "_setup" (.ref sa) [])))) := c1.mut DW.del_same hF2 hA2 ins_ok.tab (nc := ins_ok.code)
    have c3 := c2.trans s4
    have c4 : Stp F (L2.del H a) F4 (upd H4 a (.ins C dx (putF "_slack" (.int (slF x)) (putF "_mutes" vm (putF "_setup" (.ref sa) []))))) := c3.mut DW.del_same hF4 hA4 ins_ok.tab (nc := ins_ok.code)
    have c5 := c4.trans (Stp.mine (o := idO P w e []) c4.i he)
    have hFe : F4 e = none := c4.i.free he
    have heH : H e = none := by
      cases z : H e with
      | none => rfl
      | some o =>
        have z2 : L2.del H a e = some o := by rw [DW.del_ne (Ne.symm ae)]; exact z
        obtain ⟨o', z3⟩ := c4.s e o z2
        rw [he] at z3; cases z3
    refine q F4 _ e (c5.mut DW.del_same hF4 hA5 ins_ok.tab (nc := ins_ok.code)) heH ⟨vm, ?_, s4.f.dp _ _ d2, ob.mono (s2.f.trans s4.f), ?_, hF4, hFe, ae⟩
    · rw [upd_same]; rfl
    · rw [upd_ne (Ne.symm ae), upd_same]; rfl
  obtain ⟨t, h1, h2⟩ := body
  exact ⟨t, h1, h2⟩
def R_isf (K : PySem.W.Frag) (Ca : Addr) : Hp → List Sl → PyData → Prop := fun F Gs d => ∃ (a : Addr) (x : SuP) (st : Stt) (u fi la : Int), Gs = [.raw (.ref a), .fz (sttD st), .fz (.int u), .fz (.int fi), .fz (.int la)] ∧ ObF K F a Ca (suF x) ∧ (1 ≤ x.rp ∧ x.rp ≤ 1000) ∧ WiO x.wk x.wi st.mu ∧ d = .bool (ifB (frF x st.mu (if u + slF x > fi then u + slF x else fi)) la)
theorem ok_isf (Fn : Fun K "is_forced" "is_forced" s_is_forced f fd) (hm : mg "is_forced" = some (.ref f)) (hb : Binds K fd ["setup", "settings", "due", "first", "last"] []) (Z : Zb mg) (kk : FoK K C Ca)
    (MK_Forcing : MkM P w K mg base 2 "Forcing" C ["self", "setup", "settings"] (spFi P w K Tb C Ca))
    (M_Forcing_is_forced : MtOk P w K mg base 10 C "is_forced" ["self", "due", "first", "last"] (DW.spF K Tb (foFm P w K C Ca) R_ifo)) :
    Df P w K mg base 11 "is_forced" ["setup", "settings", "due", "first", "last"] (spS K Tb (R_isf K Ca)) := by
  have CL_Forcing := kk.c
  refine df_S Fn sc_is_forced hm hb (fun F Gs d h => by obtain ⟨_, _, _, _, _, _, rfl, _⟩ := h; rfl) fun cdv A outer s H Ek hr => ⟨_, (pss_one (ps_ret (pe_mtM M_Forcing_is_forced CL_Forcing hr (by first | decide | exact Nat.le_refl _ | omega) (pe_mkM MK_Forcing hr (by first | decide | exact Nat.le_refl _ | omega) (by rfl) (pa_cons (pv 0) (pa_cons (pv 1) pa_nil))) (pa_cons (pv 2) (pa_cons (pv 3) (pa_cons (pv 4) pa_nil)))))),  fun Gs d F0 H0 Q r rt => ?_⟩
  obtain ⟨sa, x, st, u, fi, la, rfl, ob, hrp, hw, rfl⟩ := r
  show S _ _ _ [.raw (.ref sa), .fz (sttD st), .fz (.int u), .fz (.int fi), .fz (.int la)]
  intro σ F H hh
  have aS := as_raw (g := ⟨K, Tb, F0, H0, F0⟩) (G := [.raw (.ref sa), .fz (sttD st), .fz (.int u), .fz (.int fi), .fz (.int la)]) (i := 0) rfl (as_cons (e_var (i := 1) rfl) as_nil)
  unfold tRet tMeth tMake
  refine aS σ F H hh _ fun vs F1 H1 s1 d1 => ?_
  have hh1 := hh.mono s1
  cases d1 with | raw d1 =>
  cases d1 with | fz dv d1 =>
  cases d1
  rename_i v
  intro a dx ha0 hd0 hne
  have st1 : Stp F1 H1 F1 (upd H1 dx (.own a)) := Stp.mine hh1.st.i hd0
  have ha1 : upd H1 dx (.own a) a = none := by rw [upd_ne (Ne.symm hne)]; exact ha0
  have st2 : Stp F1 (upd H1 dx (.own a)) F1 (upd (upd H1 dx (.own a)) a (.ins C dx [])) := Stp.mine st1.i ha1
  have hFa : F1 a = none := hh1.st.i.free ha0
  have ht2 : ∀ P ∈ Tb, TabQ (upd (upd H1 dx (.own a)) a (.ins C dx [])) P := fun P hP => st2.t P (st1.t P (hh1.tab P hP))
  refine ⟨F1, a, dx, sa, x, st, v, rfl, st2.i, hFa, ht2, upd_same, ob.mono hh1.st.f, hrp, dv, fun F2 H2 e s2 he p2 => ?_⟩
  have ed : L2.del (upd (upd H1 dx (.own a)) a (.ins C dx [])) a = upd H1 dx (.own a) := by
    funext b
    by_cases hb : b = a
    · rw [hb, DW.del_same, ha1]
    · rw [DW.del_ne hb, upd_ne hb]
  rw [ed] at s2
  refine ⟨rfl, ?_⟩
  have p2' := p2
  obtain ⟨vm, r2⟩ := p2
  have cAll : Stp F0 H0 F2 H2 := (hh1.st.trans st1).trans s2
  refine ⟨a, dx, _, rfl, r2.o, fo_names (by decide), ?_⟩
  have h3 : Holds ⟨K, Tb, F0, H0, F0⟩ [.raw (.ref sa), .fz (sttD st), .fz (.int u), .fz (.int fi), .fz (.int la)] σ F2 H2 := hh1.mono (st1.trans s2)
  have aI : DW.A ⟨K, Tb, F0, H0, F0⟩ (tCons (tVar 2) (tCons (tVar 3) (tCons (tVar 4) tNil))) [.raw (.ref sa), .fz (sttD st), .fz (.int u), .fz (.int fi), .fz (.int la)] [.int u, .int fi, .int la] := a_cons (e_var rfl) (a_cons (e_var rfl) (a_cons (e_var rfl) a_nil))
  refine aI σ F2 H2 h3 _ fun us F3 H3 s3 d3 => ?_
  have p3 : (foG P w K C Ca a dx e ⟨sa, x, st.mu, []⟩).Ψ F3 H3 := Gst.stp p2' s3
  have hh4 := h3.mono s3
  rw [List.append_nil]
  refine ⟨F3, (a, dx, e), us, ⟨sa, x, st.mu, []⟩, [.int u, .int fi, .int la], _, _, rfl, hh4.st.i, hh4.tab, p3, d3, ⟨u, fi, la, rfl, ⟨hw, fun p hp => (by cases hp), by show 0 < 100000; decide⟩, rfl, rfl⟩, fun v5 F5 H5 s5 p5 d5 => ?_⟩
  have he1 : H1 e = none := by
    have ne1 : e ≠ a := fun z => by rw [z, upd_same] at he; cases he
    rw [upd_ne ne1] at he
    by_cases z : e = dx
    · rw [z]; exact hd0
    · rw [upd_ne z] at he; exact he
  have hL : ∀ p, foL a e p → H0 p = none := fun p hp => by
    rcases hp with rfl | rfl
    · exact old_free hh1.st ha0
    · exact old_free hh1.st he1
  have own3 := (foG P w K C Ca a dx e ⟨sa, x, st.mu, []⟩).own F3 H3 p3
  have sW : Stp F0 H0 F3 (DW.wo (foL a e) H3) := (cAll.trans s3).wo hL (fun p hp => (own3 p hp).1) fun p hp c q z => by obtain ⟨_, u', e', n'⟩ := own3 p hp; rw [e'] at z; exact n'.code c q (Option.some.inj z)
  exact rt v5 F5 H5 (sW.trans s5) d5
end
/-! ### both walks are the same; the law -/
theorem find_nd {y : Wi} : ∀ {ws : List Wi}, (ws.map (·.1)).Nodup → y ∈ ws → ws.find? (fun z => decide (z.1 = y.1)) = some y
  | [], _, h => by cases h
  | z :: ws, nd, h => by
    rw [List.map_cons, List.nodup_cons] at nd
    rw [List.find?_cons]
    rcases List.mem_cons.mp h with rfl | h
    · rw [decide_eq_true rfl]
    · by_cases e : z.1 = y.1
      · exact absurd (List.mem_map.mpr ⟨y, h, e.symm⟩) nd.1
      · rw [decide_eq_false e]; exact find_nd nd.2 h
theorem isp_mu {x : SuP} {mu : List Str} (nd : (x.wi.map (·.1)).Nodup) (hm : ∀ m ∈ mu, ∃ y ∈ x.wi, y.1 = m) (t : Int) : isp x.wk (spF x.wi mu) t = muF x mu t := by
  unfold isp spF muF
  rw [List.any_flatMap, Bool.eq_iff_iff, List.any_eq_true, List.any_eq_true]
  constructor
  · rintro ⟨m, hmu, h⟩
    obtain ⟨y, hy, rfl⟩ := hm m hmu
    have e : wiG x.wi y.1 = y.2 := by unfold wiG; rw [find_nd nd hy]; rfl
    rw [e] at h
    exact ⟨y, hy, by rw [decide_eq_true hmu, Bool.true_and]; exact h⟩
  · rintro ⟨y, hy, h⟩
    rw [Bool.and_eq_true] at h
    have e : wiG x.wi y.1 = y.2 := by unfold wiG; rw [find_nd nd hy]; rfl
    exact ⟨y.1, of_decide_eq_true h.1, by rw [e]; exact h.2⟩
theorem muF_mod {x : SuP} {mu : List Str} {t t' : Int} (h : t % x.wk = t' % x.wk) : muF x mu t = muF x mu t' := by
  unfold muF inW
  rw [h]
theorem fo_same {x : SuP} {mu : List Str} {u fi la : Int} (w0 : 0 < x.wk) (e : ∀ t, isp x.wk (spF x.wi mu) t = muF x mu t) : ifB (frF x mu (if u + slF x > fi then u + slF x else fi)) la = foF x mu u fi la := by
  obtain ⟨t0, h0⟩ : ∃ t0, t0 = (if u + slF x > fi then u + slF x else fi) := ⟨_, rfl⟩
  rw [← h0]
  have a1 : fi ≤ t0 ∧ u + slF x ≤ t0 ∧ (t0 = fi ∨ t0 = u + slF x) := by rw [h0]; split <;> omega
  unfold frF unF foF
  have hr := Int.emod_nonneg t0 (show x.wk ≠ 0 by omega)
  have hp : ∀ k : Nat, muF x mu (t0 % x.wk + (k : Nat)) = muF x mu (t0 + (k : Nat)) := fun k => muF_mod (by rw [Int.emod_add_emod])
  cases hf : (List.range x.wk.toNat).find? fun k => !isp x.wk (spF x.wi mu) (t0 % x.wk + (k : Nat)) with
  | none =>
    rw [List.find?_eq_none] at hf
    symm
    show ((List.range (la - fi).toNat).any fun i => decide (u + slF x ≤ fi + (i : Nat)) && !muF x mu (fi + (i : Nat))) = false
    rw [Bool.eq_false_iff]
    intro z
    obtain ⟨i, hi, hz⟩ := List.any_eq_true.mp z
    rw [Bool.and_eq_true] at hz
    have b1 := of_decide_eq_true hz.1
    have hk0 := Int.emod_nonneg (fi + (i : Nat) - t0) (show x.wk ≠ 0 by omega)
    have hk1 := Int.emod_lt_of_pos (fi + (i : Nat) - t0) w0
    have := hf ((fi + (i : Nat) - t0) % x.wk).toNat (List.mem_range.mpr (by omega))
    rw [e, hp, Int.toNat_of_nonneg hk0] at this
    have em : muF x mu (t0 + (fi + (i : Nat) - t0) % x.wk) = muF x mu (fi + (i : Nat)) := muF_mod (by rw [Int.add_emod_emod]; congr 1; omega)
    rw [em] at this
    exact this hz.2
  | some k =>
    rw [List.find?_range_eq_some] at hf
    obtain ⟨hk, hkr, hmin⟩ := hf
    rw [e, hp] at hk
    show decide (t0 - t0 % x.wk + (t0 % x.wk + (k : Nat)) < la) = _
    rw [Bool.eq_iff_iff, decide_eq_true_iff, List.any_eq_true]
    constructor
    · intro h
      refine ⟨(t0 + (k : Nat) - fi).toNat, List.mem_range.mpr (by omega), ?_⟩
      rw [show fi + (((t0 + (k : Nat) - fi).toNat : Nat) : Int) = t0 + (k : Nat) by omega, hk, Bool.and_true, decide_eq_true_iff]
      omega
    · rintro ⟨i, hi, hz⟩
      have hi := List.mem_range.mp hi
      rw [Bool.and_eq_true] at hz
      have b1 := of_decide_eq_true hz.1
      have b2 : t0 ≤ fi + (i : Nat) := by omega
      have hk0 := Int.emod_nonneg (fi + (i : Nat) - t0) (show x.wk ≠ 0 by omega)
      have hk1 := Int.emod_lt_of_pos (fi + (i : Nat) - t0) w0
      have hle : (fi + (i : Nat) - t0) % x.wk ≤ fi + (i : Nat) - t0 := by
        have q0 := Int.mul_nonneg (show 0 ≤ x.wk by omega) (Int.ediv_nonneg (a := fi + (i : Nat) - t0) (b := x.wk) (by omega) (by omega))
        have e3 := Int.emod_def (fi + (i : Nat) - t0) x.wk
        generalize x.wk * ((fi + (i : Nat) - t0) / x.wk) = zz at q0 e3
        omega
      have em : muF x mu (t0 + (fi + (i : Nat) - t0) % x.wk) = muF x mu (fi + (i : Nat)) := muF_mod (by rw [Int.add_emod_emod]; congr 1; omega)
      have kle : (k : Int) ≤ (fi + (i : Nat) - t0) % x.wk := by
        by_cases z : (fi + (i : Nat) - t0) % x.wk < (k : Int)
        · have := hmin ((fi + (i : Nat) - t0) % x.wk).toNat (by omega)
          rw [e, hp, Int.toNat_of_nonneg hk0, em, hz.2] at this
          cases this
        · omega
      omega
section
variable {P : Program} {w : World} {K : PySem.W.Frag} {mg : Str → Option Value} {base : Heap} {f : Addr} {fd : FuncData} {Tb : List Addr} {k : Nat}
def R_law : List PyData → PyData → Prop := fun ds d => ∃ (s : List Int), ds = [iL s] ∧ s.length ≤ 63 ∧ d = .bool true
theorem ok_law {Ca : Addr} (Fn : Fun K "law" "law" s_law f fd) (Z : Zb mg) (CL : Cls K Ca) (N_routes : NoAttr K Ca "routes")
    (D_l_law_draws : Df P w K mg base 1 "_law_draws" ["_law_cell_here", "_law_many"] (spD K Tb R_draws))
    (D_l_law_same : Df P w K mg base 5 "_law_same" ["_law_told", "_law_due_here"] (spD K Tb (WL.R_same 5)))
    (D_slack : Df P w K mg base 1 "slack" ["setup"] (spS K Tb (R_slk K Ca))) (D_l_law_slack : Df P w K mg base 1 "_law_slack" ["_law_made"] (spS K Tb (R_slk K Ca)))
    (D_l_law_forced : Df P w K mg base 2 "_law_forced" ["_law_made", "_law_settings", "_law_due_here", "_law_first", "_law_last"] (spS K Tb (R_lfo K Ca)))
    (D_l_law_case : Df P w K mg base 16 "_law_case" ["_law_script_here"] (spMT K Tb A_cse (R_cse K Ca)))
    (D_is_forced : Df P w K mg base 11 "is_forced" ["setup", "settings", "due", "first", "last"] (spS K Tb (R_isf K Ca))) :
    FnOk P w K mg base CX0 17 f fd ["_law_script_here"] (spD K Tb R_law) := by
  refine fn_D Fn sc_law (fun ds d h => by obtain ⟨s, rfl, _⟩ := h; rfl) fun cdv A outer s H Ek hr => ⟨_, (pss_cons (ps_asg (pe_df D_l_law_case hr (by first | decide | exact Nat.le_refl _ | omega) (by rfl) (pa_cons (pv 0) pa_nil)) (pg_tupK (n := 5) K rfl (pgs_cons (pg_name (i := 1) sc_law.nd rfl (by first | exact .inl rfl | exact .inr rfl)) (pgs_cons (pg_name (i := 2) sc_law.nd rfl (by first | exact .inl rfl | exact .inr rfl)) (pgs_cons (pg_name (i := 3) sc_law.nd rfl (by first | exact .inl rfl | exact .inr rfl)) (pgs_cons (pg_name (i := 4) sc_law.nd rfl (by first | exact .inl rfl | exact .inr rfl)) (pgs_cons (pg_name (i := 5) sc_law.nd rfl (by first | exact .inl rfl | exact .inr rfl)) pgs_nil)))))))
      (pss_cons (ps_if (pt_not (pt_truthK K (pe_df D_l_law_same hr (by first | decide | exact Nat.le_refl _ | omega) (by rfl) (pa_cons (pe_df D_slack hr (by first | decide | exact Nat.le_refl _ | omega) (by rfl) (pa_cons (pv 1) pa_nil)) (pa_cons (pe_df D_l_law_slack hr (by first | decide | exact Nat.le_refl _ | omega) (by rfl) (pa_cons (pv 1) pa_nil)) pa_nil))) (by intro _; rfl))) (pss_one (ps_ret pe_bl)) pss_nil)
      (pss_cons (ps_for PassesOwn.never rfl (pi_any (pe_op (uAddK K) (pe_lst (pa_cons (pv 4) pa_nil)) (pe_slice (uSlK K) (pv 0) (po_some pe_int) po_none))) (pg_name (i := 6) sc_law.nd rfl (by first | exact .inl rfl | exact .inr rfl)) (pss_cons (ps_set (i := 7) sc_law.nd rfl (by first | exact .inl rfl | exact .inr rfl) (pe_df D_l_law_draws hr (by first | decide | exact Nat.le_refl _ | omega) (by rfl) (pa_cons (pv 6) (pa_cons pe_int pa_nil))))
      (pss_cons (ps_set (i := 8) sc_law.nd rfl (by first | exact .inl rfl | exact .inr rfl) (pe_ix (ix_seqK K) (pe_ix (ix_seqK K) (pe_fldK K (pv 1)) (pe_op op_mod (pe_callTy uInt (by rfl) Z.int (by decide +kernel) (pa_cons (pe_ix (ix_seqK K) (pv 7) pe_int (fun _ _ => rfl)) pa_nil)) (pe_callB (uLenK K) (by rfl) Z.len (by decide +kernel) (pa_cons (pe_fldK K (pv 1)) pa_nil))) (fun _ _ => rfl)) pe_int (fun _ _ => rfl)))
      (pss_cons (ps_set (i := 9) sc_law.nd rfl (by first | exact .inl rfl | exact .inr rfl) (pe_op op_mod (pe_callTy uInt (by rfl) Z.int (by decide +kernel) (pa_cons (pe_ix (ix_seqK K) (pv 7) pe_int (fun _ _ => rfl)) pa_nil)) pe_int))
      (pss_cons (ps_set (i := 10) sc_law.nd rfl (by first | exact .inl rfl | exact .inr rfl) (pe_df D_is_forced hr (by first | decide | exact Nat.le_refl _ | omega) (by rfl) (pa_cons (pv 1) (pa_cons (pv 8) (pa_cons (pe_op op_mod (pe_callTy uInt (by rfl) Z.int (by decide +kernel) (pa_cons (pe_ix (ix_seqK K) (pv 7) pe_int (fun _ _ => rfl)) pa_nil)) pe_int) (pa_cons (pv 9) (pa_cons (pe_op (uAddK K) (pv 9) (pe_op op_mod (pe_callTy uInt (by rfl) Z.int (by decide +kernel) (pa_cons (pe_ix (ix_seqK K) (pv 7) pe_int (fun _ _ => rfl)) pa_nil)) pe_int)) pa_nil)))))))
      (pss_one (ps_if (PW.pt (pw_or (pt_not (pt_truthK K (pe_callB (call_isiK K) (by rfl) Z.isinstance (by decide +kernel) (pa_cons (pv 10) (pa_cons (pe_bltn (by rfl) Z.bool (by decide +kernel) (show RelV (.ty "bool") (.type "bool") from rfl)) pa_nil))) (by intro _; rfl))) (pw_or1 (pt_cmpR (uNeK K hr.units) (pv 10) (pe_df D_l_law_forced hr (by first | decide | exact Nat.le_refl _ | omega) (by rfl) (pa_cons (pv 1) (pa_cons (pv 8) (pa_cons (pe_op op_mod (pe_callTy uInt (by rfl) Z.int (by decide +kernel) (pa_cons (pe_ix (ix_seqK K) (pv 7) pe_int (fun _ _ => rfl)) pa_nil)) pe_int) (pa_cons (pv 9) (pa_cons (pe_op (uAddK K) (pv 9) (pe_op op_mod (pe_callTy uInt (by rfl) Z.int (by decide +kernel) (pa_cons (pe_ix (ix_seqK K) (pv 7) pe_int (fun _ _ => rfl)) pa_nil)) pe_int)) pa_nil)))))) (nomark _))))) (pss_one (ps_ret pe_bl)) pss_nil)))))))
      (pss_one (ps_ret pe_bl))))),  fun ds d F0 H0 Q r rt => ?_⟩
  obtain ⟨s, rfl, hl, rfl⟩ := r
  show S _ _ _ [.fz (iL s), .un, .un, .un, .un, .un, .un, .un, .un, .un, .un]
  refine q_unpMT (ds := [iL s]) (a_cons (e_var rfl) a_nil) ⟨s, rfl⟩ fun F1 Gs e1 r => ?_
  obtain ⟨x, a, ns, ws, L, ts, ro, z1, z2, rfl, ob, wo, _, _, hz1, hz2⟩ := r
  refine ⟨rfl, _, us_raw (us_fz (us_fz (us_fz (us_fz us_nil)))), ?_⟩
  show S _ _ _ [.fz (iL s), .raw (.ref a), .fz (lbD L), .fz (sttD (toRo ro).st), .fz (.int z1), .fz (.int z2), .un, .un, .un, .un, .un]
  have hrp : 1 ≤ x.rp ∧ x.rp ≤ 1000 := ⟨wo.rp.1, by have := wo.rp.2; omega⟩
  have w0 : 0 < x.wk := by have := wo.wk.1; omega
  refine q_if (b := !true) (t_not (t_tru (d := .bool true) (E.b (e_call (R := WL.R_same 5) (ds := [.int (slF x), .int (slF x)]) (a_cons (e_callS (R := R_slk K Ca) (as_raw rfl as_nil) fun F e => ⟨a, x, rfl, ob.mono e, hrp, rfl⟩) (a_cons (e_callS (R := R_slk K Ca) (as_raw rfl as_nil) fun F e => ⟨a, x, rfl, ob.mono e, hrp, rfl⟩) a_nil)) ⟨_, rfl, trivial, rfl⟩)) rfl)) (fun z => by cases z) fun _ => s_next (n_go ?_)
  have el : (([PyData.int z1] ++ DW.cutD (s.map .int) (some 13) none) : List PyData) = (z1 :: cutA s (some 13) none).map .int := by rw [cut_map]; rfl
  refine q_forE (α := Unit) (ds := (z1 :: cutA s (some 13) none).map .int) (fun _ _ => [.fz (iL s), .raw (.ref a), .fz (lbD L), .fz (sttD (toRo ro).st), .fz (.int z1), .fz (.int z2), .un, .un, .un, .un, .un]) (fun _ _ => True) (it_al (by
    rw [← el]
    exact EL.e (el_op (EL.e (el_lst (a_cons (e_var rfl) a_nil) (Nat.le_of_ble_eq_true rfl))) (EL.e (el_sl (e_var rfl) (o_some e_int) o_none)) (add_l (by
      rw [cut_map, List.length_map]
      have := cut_len s (some 13) none
      show 1 + _ ≤ _
      omega))))) () trivial (Wk.refl _) (fun F2 e2 i _ d hd _ => ?_) fun _ _ => s_ret e_bl rt
  obtain ⟨c, hc, rfl⟩ := map_get hd
  refine ⟨_, _, g_name, ?_⟩
  show S _ _ _ [.fz (iL s), .raw (.ref a), .fz (lbD L), .fz (sttD (toRo ro).st), .fz (.int z1), .fz (.int z2), .fz (.int c), .un, .un, .un, .un]
  have ob2 := ob.mono e2
  have dl := draws_len c 4
  have dm : ∀ z ∈ draws c 4, 0 ≤ z ∧ z < 1000 := fun z h => draws_mem h
  refine q_asg (d := iL (draws c 4)) (e_call (ds := [.int c, .int 4]) (a_cons (e_var rfl) (a_cons e_int a_nil)) ⟨c, 4, rfl, by decide, rfl⟩) ?_
  generalize draws c 4 = D at dl dm ⊢
  have at_ : ∀ k : Int, 0 ≤ k → k < 4 → atI (D.map PyData.int) k = some (.int (itI D k)) := fun k h0 h1 => at_int h0 (by omega)
  have rl := wo.ro.1
  have lr : (((x.ro.map rouD).length : Nat) : Int) = ((x.ro.length : Nat) : Int) := by rw [List.length_map]
  have m3 := md (itI D 3) (x.ro.length : Nat) (by omega)
  have m1 := md (itI D 1) 50 (by decide)
  have m2 := md (itI D 2) 40 (by decide)
  have m0 := md (itI D 0) 60 (by decide)
  have hR : (suF x).lookup ("routes" : Str) = some (.list (x.ro.map rouD)) := rfl
  have hj : (itI D 3 % (x.ro.length : Nat)).toNat < x.ro.length := by omega
  have hg : x.ro[(itI D 3 % (x.ro.length : Nat)).toNat]? = some x.ro[(itI D 3 % (x.ro.length : Nat)).toNat] := List.getElem?_eq_getElem hj
  generalize x.ro[(itI D 3 % (x.ro.length : Nat)).toNat] = r at hg
  have ar : atI (x.ro.map rouD) (itI D 3 % (((x.ro.map rouD).length : Nat) : Int)) = some (rouD r) := by
    rw [lr, at_nat m3.1 (by rw [List.length_map]; omega), List.getElem?_map, hg]; rfl
  have rf := wo.ro.2 _ r hg
  have rd : ∀ {g' : Gd} {G : List Sl} (z : Int), 0 ≤ z → z < 4 → G[7]? = some (.fz (iL D)) → E g' (tCB rIntU (tCons (tOp (rIx g'.K) (tVar 7) (tC (.int z))) tNil)) G (.int (itI D z)) := fun z h0 h1 h => b_cb (ab_cons (E.b (e_op (e_var h) e_int (ix_l (at_ z h0 h1)))) ab_nil) int_i rfl
  show S _ _ _ [.fz (iL s), .raw (.ref a), .fz (lbD L), .fz (sttD (toRo ro).st), .fz (.int z1), .fz (.int z2), .fz (.int c), .fz (iL D), .un, .un, .un]
  refine q_asg (d := sttD r.st) (e_op (x := .tuple [oD r.pa, .tuple (r.ms.map mtD), sttD r.st]) (e_op (e_fldO rfl ob2 CL N_routes hR) (e_op (rd 3 (by decide) (by decide) rfl) (b_cb (ab_cons (E.b (e_fldO rfl ob2 CL N_routes hR)) ab_nil) len_l rfl) (mod_i (by omega))) (ix_l ar)) e_int (ix_t rfl)) ?_
  refine q_asg (d := .int (itI D 1 % 50)) (e_op (rd 1 (by decide) (by decide) rfl) e_int (mod_i (by decide))) ?_
  generalize hfi : itI D 1 % 50 = fi
  generalize hu : itI D 0 % 60 = u
  generalize hla : itI D 2 % 40 = la
  show S _ _ _ [.fz (iL s), .raw (.ref a), .fz (lbD L), .fz (sttD (toRo ro).st), .fz (.int z1), .fz (.int z2), .fz (.int c), .fz (iL D), .fz (sttD r.st), .fz (.int fi), .un]
  have wl := wo.wi.1
  have hmu : ∀ m ∈ r.st.mu, ∃ y ∈ x.wi, y.1 = m := fun m hm => by
    obtain ⟨y, hy, e⟩ := List.mem_map.mp (rf.mu m hm)
    exact ⟨y, hy, e⟩
  have ul := rf.ul
  rw [List.length_map] at ul
  have wio : WiO x.wk x.wi r.st.mu := ⟨by omega, hmu, fun y hy => by
    have h := wo.wi.2 y hy
    have := h.l2
    exact ⟨by omega, fun p hp => (h.p p hp).2.2⟩, w0, by have := wo.wk.2; omega⟩
  have same := fo_same (x := x) (mu := r.st.mu) (u := u) (fi := fi) (la := fi + la) w0 (isp_mu wo.l.ok.w.2 hmu)
  refine q_asg (d := .bool (foF x r.st.mu u fi (fi + la))) (e_callS (R := R_isf K Ca) (as_raw rfl (as_cons (e_var rfl) (as_cons (by rw [← hu]; exact e_op (rd 0 (by decide) (by decide) rfl) e_int (mod_i (by decide))) (as_cons (e_var rfl) (as_cons (by rw [← hla]; exact e_op (e_var rfl) (e_op (rd 2 (by decide) (by decide) rfl) e_int (mod_i (by decide))) add_i) as_nil))))) fun F e => ⟨a, x, r.st, u, fi, fi + la, rfl, ob2.mono e, hrp, wio, by rw [same]⟩) ?_
  show S _ _ _ [.fz (iL s), .raw (.ref a), .fz (lbD L), .fz (sttD (toRo ro).st), .fz (.int z1), .fz (.int z2), .fz (.int c), .fz (iL D), .fz (sttD r.st), .fz (.int fi), .fz (.bool (foF x r.st.mu u fi (fi + la)))]
  generalize hB : foF x r.st.mu u fi (fi + la) = B
  refine s_if (b := !true || !decide (B = B)) (t_or (t_not (t_tru (d := .bool true) (E.b (e_isiD (x := .bool B) (T := "bool") (E.b (e_var rfl)) (by decide))) rfl)) fun _ => t_test (b_op (E.b (e_var rfl)) (E.b (by
    rw [← hB]
    exact e_callS (R := R_lfo K Ca) (as_raw rfl (as_cons (e_var rfl) (as_cons (by rw [← hu]; exact e_op (rd 0 (by decide) (by decide) rfl) e_int (mod_i (by decide))) (as_cons (e_var rfl) (as_cons (by rw [← hla]; exact e_op (e_var rfl) (e_op (rd 2 (by decide) (by decide) rfl) e_int (mod_i (by decide))) add_i) as_nil))))) fun F e => ⟨a, x, r.st, u, fi, fi + la, rfl, ob2.mono e, w0, hrp, ⟨by omega, by omega, by omega, by omega⟩, rfl⟩)) ne_b rfl)) (fun z => by rw [decide_eq_true rfl] at z; cases z) fun _ => s_next (n_end () trivial (.keep rfl (.keep rfl (.keep rfl (.keep rfl (.keep rfl (.keep rfl (.drop (.drop (.drop (.drop (.drop .nil))))))))))))
end
/-! ### the defs of __init__ -/
abbrev s_init (i : Nat) : Stmt := clsS i 0
theorem sc_initA : FnScope ["self", "name"] ["self", "name"] (defScope (s_init 2)) := ⟨rfl, rfl, rfl, by decide +kernel, rfl, by decide +kernel, by decide +kernel⟩
theorem sc_initB : FnScope ["self", "part", "place"] ["self", "part", "place"] (defScope (s_init 3)) := ⟨rfl, rfl, rfl, by decide +kernel, rfl, by decide +kernel, by decide +kernel⟩
section
variable {P : Program} {w : World} {K : PySem.W.Frag} {mg : Str → Option Value} {base : Heap} {C fI : Addr} {fd : FuncData}
theorem xi_A (gC : mg "InvalidArgument" = some (.ref C)) (F : Fun K "__init__" "InvalidArgument.__init__" (s_init 2) fI fd) (hb : Binds K fd ["self", "name"] []) (hC : OexC K C) (hf : PySem.W.findIn K (.ref C) "name" = some none)
    (iC : PySem.W.findIn K (.ref C) "__init__" = some (some (.ref fI))) (tI : PySem.W.typeIn K (.ref fI) = some (.type "function")) : XiOk P w K mg base "InvalidArgument" C "name" :=
  ⟨gC, hC, hf, fI, fd, ["self", "name"], iC, tI, init_ok F sc_initA hC hf (fun cdv A outer s H E => pss_one (ps_ost (pv 0) (pv 1))), hb⟩
theorem xi_B (gC : mg "BadSetup" = some (.ref C)) (F : Fun K "__init__" "BadSetup.__init__" (s_init 3) fI fd) (hb : Binds K fd ["self", "part", "place"] []) (hC : OexC K C) (hf : PySem.W.findIn K (.ref C) "part" = some none) (hh : PySem.W.findIn K (.ref C) "place" = some none)
    (iC : PySem.W.findIn K (.ref C) "__init__" = some (some (.ref fI))) (tI : PySem.W.typeIn K (.ref fI) = some (.type "function")) : XiOk2 P w K mg base "BadSetup" C "part" "place" :=
  ⟨gC, hC, hf, hh, fI, fd, ["self", "part", "place"], iC, tI, init_ok2 F sc_initB hC hf hh (fun cdv A outer s H E => pss_cons (ps_ost (pv 0) (pv 1)) (pss_one (ps_ost (pv 0) (pv 2)))), hb⟩
end
section
variable {P : Program} {w : World} {K : PySem.W.Frag} {mg : Str → Option Value} {base : Heap} {f : Addr} {fd : FuncData} {Tb : List Addr} {k : Nat}
theorem fund_set {D E1 E2 E3 S : Addr} {oc : Value} {od : Option Addr} {doc pm : Value} {an : Option Addr} {cdv ct : Value} {osl : Array (Option Value)} {t1 t2 t3 t4 : Tok}
    (lk : K.lookup f = some ⟨oc, od, .func (PySem.W.fnOf "setup" "setup" (defArgs s_setup) (defBody s_setup) (defScope s_setup) .none (.ref D) doc pm an cdv ct), osl⟩) (hcd : PySem.W.codeIn K cdv "setup" = true) (kp : PySem.W.keepIn K (.ref f) = true)
    (h1 : PySem.W.nsIn K D "windows" = some (some (.ref E1))) (h2 : PySem.W.nsIn K D "holdbacks" = some (some (.ref E2))) (h3 : PySem.W.nsIn K D "groups" = some (some (.ref E3))) (h4 : PySem.W.nsIn K D "replicas" = some (some (.int 1 t1))) (h5 : PySem.W.nsIn K D "pause" = some (some (.int 0 t2)))
    (h6 : PySem.W.nsIn K D "down" = some (some (.int 0 t3))) (h7 : PySem.W.nsIn K D "store" = some (some (.ref S))) (h8 : PySem.W.nsIn K D "lookback" = some (some (.int 5 t4))) :
    FunD K "setup" "setup" (defArgs s_setup) (defBody s_setup) (defScope s_setup) [] (kwsK E1 E2 E3 S) f (PySem.W.fnOf "setup" "setup" (defArgs s_setup) (defBody s_setup) (defScope s_setup) .none (.ref D) doc pm an cdv ct) := by
  refine ⟨⟨oc, od, .none, .ref D, doc, pm, an, cdv, ct, osl, rfl, lk, hcd, .inl ⟨rfl, rfl⟩, .inr ⟨D, rfl, fun q hq => ?_⟩⟩, kp⟩
  simp only [kwsK, List.mem_cons, List.not_mem_nil, or_false] at hq
  rcases hq with rfl | rfl | rfl | rfl | rfl | rfl | rfl | rfl
  · exact ⟨_, h1, rfl⟩
  · exact ⟨_, h2, rfl⟩
  · exact ⟨_, h3, rfl⟩
  · exact ⟨_, h4, ⟨_, rfl⟩⟩
  · exact ⟨_, h5, ⟨_, rfl⟩⟩
  · exact ⟨_, h6, ⟨_, rfl⟩⟩
  · exact ⟨_, h7, rfl⟩
  · exact ⟨_, h8, ⟨_, rfl⟩⟩
theorem mk_suR {Ca : Addr} (Fn : Fun K "__init__" "Setup.__init__" s_Setup_init f fd) (M : Mk K Ca f) (Z : Zb mg) (hm : mg "Setup" = some (.ref Ca)) (CL : Cls K Ca) (N_week : NoAttr K Ca "week") (N_people : NoAttr K Ca "people") (N_schedules : NoAttr K Ca "schedules") (N_policies : NoAttr K Ca "policies") (N_windows : NoAttr K Ca "windows") (N_routes : NoAttr K Ca "routes") (N_holdbacks : NoAttr K Ca "holdbacks") (N_groups : NoAttr K Ca "groups") (N_replicas : NoAttr K Ca "replicas") (N_pause : NoAttr K Ca "pause") (N_down : NoAttr K Ca "down") (N_store : NoAttr K Ca "store") (N_lookback : NoAttr K Ca "lookback") : MkOk P w K mg base 1 "Setup" Ca SN (spI K Tb Ca R_ini) :=
  mk_su M hm Fn Z CL N_week N_people N_schedules N_policies N_windows N_routes N_holdbacks N_groups N_replicas N_pause N_down N_store N_lookback
theorem ok_setK {C Ca fp fg E1 E2 E3 S : Addr} {R1 Rg : Hp → List Sl → Out → Prop} (Fn : FunD K "setup" "setup" (defArgs s_setup) (defBody s_setup) (defScope s_setup) [] (kwsK E1 E2 E3 S) f fd) (hm : mg "setup" = some (.ref f)) (Z : Zb mg) (CL : Cls K Ca) (N_week : NoAttr K Ca "week") (N_people : NoAttr K Ca "people") (N_schedules : NoAttr K Ca "schedules") (N_policies : NoAttr K Ca "policies") (N_windows : NoAttr K Ca "windows") (N_routes : NoAttr K Ca "routes") (N_holdbacks : NoAttr K Ca "holdbacks") (N_groups : NoAttr K Ca "groups") (N_replicas : NoAttr K Ca "replicas") (N_pause : NoAttr K Ca "pause") (N_down : NoAttr K Ca "down") (N_store : NoAttr K Ca "store") (N_lookback : NoAttr K Ca "lookback")
    (MK_Setup : MkOk P w K mg base 1 "Setup" Ca SN (spI K Tb Ca R_ini)) (D_check_alone : DfX P w K mg base 3 "check_alone" ["part", "right"] (spX K Tb (R_ca C))) (D_is_duration : Df P w K mg base 1 "is_duration" ["number"] (spD K Tb R_dur)) (D_is_store : Df P w K mg base 2 "is_store" ["store"] (spD K Tb R_sto))
    (D_check_people : DfX P w K mg base 12 "check_people" ["made"] (spSX K Tb (R_cp K C Ca fp R1 R_sch R_pol R_win))) (D_check_alerts : DfX P w K mg base 12 "check_alerts" ["made"] (spSX K Tb (R_al K C Ca)))
    (D_check_named : DfX P w K mg base 10 "check_named" ["part", "entries", "is_right"] (spSX K Tb Rg)) (V_is_group : mg "is_group" = some (.ref fg)) :
    DfKX P w K mg base 13 "setup" KN (fun _ zs => kwV (kwsK E1 E2 E3 S) SN KN zs) (spOX K Tb Ca (R_set K C fp fg R1 Rg)) :=
  df_set KN (by intro z; cases z) Fn hm (ok_set Fn Z CL N_week N_people N_schedules N_policies N_windows N_routes N_holdbacks N_groups N_replicas N_pause N_down N_store N_lookback MK_Setup D_check_alone D_is_duration D_is_store D_check_people D_check_alerts D_check_named V_is_group) (by decide +kernel) (by decide +kernel) fun n hn hk => by
    obtain ⟨v, hv⟩ := lookup_some_of (l := kwsK E1 E2 E3 S) (n := n) ((by decide +kernel : ∀ n ∈ SN, n ∉ KN → n ∈ (["windows", "holdbacks", "groups", "replicas", "pause", "down", "store", "lookback"] : List Str)) n hn hk)
    rw [hv]; rfl
theorem df_cnT {C : Addr} (Fn : Fun K "check_named" "check_named" s_check_named f fd) (hm : mg "check_named" = some (.ref f)) (hb : Binds K fd ["part", "entries", "is_right"] []) (Z : Zb mg) (XI_BadSetup : XiOk2 P w K mg base "BadSetup" C "part" "place")
    (D_is_name : Df P w K mg base 3 "is_name" ["text"] (spD K Tb R_isn)) : DfL P w K mg base Tb 10 "check_named" (R_cn C) := df_cnL Fn hm hb Z XI_BadSetup D_is_name (by decide)
theorem ok_cnP {C : Addr} (Fn : Fun K "check_named" "check_named" s_check_named f fd) (hm : mg "check_named" = some (.ref f)) (hb : Binds K fd ["part", "entries", "is_right"] []) (Z : Zb mg) (XI_BadSetup : XiOk2 P w K mg base "BadSetup" C "part" "place")
    (D_is_name : Df P w K mg base 3 "is_name" ["text"] (spD K Tb R_isn)) (D_is_person : Df P w K mg base 1 "is_person" ["person"] (spD K Tb R_psn)) : DfX P w K mg base 10 "check_named" ["part", "entries", "is_right"] (spSX K Tb (R_cnf mg C "is_person" R_psn)) := ok_cnD Fn hm hb Z XI_BadSetup D_is_name D_is_person (by decide)
end
section
variable {P : Program} {w : World} {K : PySem.W.Frag} {mg : Str → Option Value} {base : Heap} {f : Addr} {fd : FuncData} {Tb : List Addr} {k : Nat} {C Ca : Addr}
theorem ok_freW (Fn : Fun K "free_from" "Forcing.free_from" s_Forcing_free_from f fd) (hM : Meth K C "free_from" f) (hb : Binds K fd ["self", "time"] []) (Z : Zb mg) (c : Cls K C) (n1 : NoAttr K C "_setup") (n2 : NoAttr K C "_mutes") (n3 : NoAttr K C "_slack") (n4 : NoAttr K C "_ends") (s : Cls K Ca) (n5 : NoAttr K Ca "week")
    (D_unmuted_from : Df P w K mg base 6 "unmuted_from" ["setup", "mutes", "time"] (spS K Tb (R_unm K Ca))) : MtOk P w K mg base 8 C "free_from" ["self", "time"] (DW.spF K Tb (foFm P w K C Ca) R_fre) := ok_fre Fn hM hb Z ⟨c, n1, n2, n3, n4, s, n5⟩ D_unmuted_from
theorem ok_fofW (Fn : Fun K "forced_from" "Forcing.forced_from" s_Forcing_forced_from f fd) (hM : Meth K C "forced_from" f) (hb : Binds K fd ["self", "due", "first"] []) (Z : Zb mg) (c : Cls K C) (n1 : NoAttr K C "_setup") (n2 : NoAttr K C "_mutes") (n3 : NoAttr K C "_slack") (n4 : NoAttr K C "_ends") (s : Cls K Ca) (n5 : NoAttr K Ca "week")
    (M : MtOk P w K mg base 8 C "free_from" ["self", "time"] (DW.spF K Tb (foFm P w K C Ca) R_fre)) : MtOk P w K mg base 9 C "forced_from" ["self", "due", "first"] (DW.spF K Tb (foFm P w K C Ca) R_fof) := ok_fof Fn hM hb Z ⟨c, n1, n2, n3, n4, s, n5⟩ M
theorem ok_ifoW (Fn : Fun K "is_forced" "Forcing.is_forced" s_Forcing_is_forced f fd) (hM : Meth K C "is_forced" f) (hb : Binds K fd ["self", "due", "first", "last"] []) (Z : Zb mg) (c : Cls K C) (n1 : NoAttr K C "_setup") (n2 : NoAttr K C "_mutes") (n3 : NoAttr K C "_slack") (n4 : NoAttr K C "_ends") (s : Cls K Ca) (n5 : NoAttr K Ca "week")
    (M : MtOk P w K mg base 9 C "forced_from" ["self", "due", "first"] (DW.spF K Tb (foFm P w K C Ca) R_fof)) : MtOk P w K mg base 10 C "is_forced" ["self", "due", "first", "last"] (DW.spF K Tb (foFm P w K C Ca) R_ifo) := ok_ifo Fn hM hb Z ⟨c, n1, n2, n3, n4, s, n5⟩ M
theorem mk_fi (Fn : Fun K "__init__" "Forcing.__init__" s_Forcing_init f fd) (hM : Mk K C f) (hb : Binds K fd ["self", "setup", "settings"] []) (Z : Zb mg) (hC : mg "Forcing" = some (.ref C)) (c : Cls K C) (n1 : NoAttr K C "_setup") (n2 : NoAttr K C "_mutes") (n3 : NoAttr K C "_slack") (n4 : NoAttr K C "_ends") (s : Cls K Ca) (n5 : NoAttr K Ca "week")
    (D_slack : Df P w K mg base 1 "slack" ["setup"] (spS K Tb (R_slk K Ca))) : MkM P w K mg base 2 "Forcing" C ["self", "setup", "settings"] (spFi P w K Tb C Ca) := ⟨hC, f, fd, hM, ok_fi Fn Z ⟨c, n1, n2, n3, n4, s, n5⟩ D_slack, hb⟩
theorem ok_isfW (Fn : Fun K "is_forced" "is_forced" s_is_forced f fd) (hm : mg "is_forced" = some (.ref f)) (hb : Binds K fd ["setup", "settings", "due", "first", "last"] []) (Z : Zb mg) (c : Cls K C) (n1 : NoAttr K C "_setup") (n2 : NoAttr K C "_mutes") (n3 : NoAttr K C "_slack") (n4 : NoAttr K C "_ends") (s : Cls K Ca) (n5 : NoAttr K Ca "week")
    (MK_Forcing : MkM P w K mg base 2 "Forcing" C ["self", "setup", "settings"] (spFi P w K Tb C Ca)) (M : MtOk P w K mg base 10 C "is_forced" ["self", "due", "first", "last"] (DW.spF K Tb (foFm P w K C Ca) R_ifo)) :
    Df P w K mg base 11 "is_forced" ["setup", "settings", "due", "first", "last"] (spS K Tb (R_isf K Ca)) := ok_isf Fn hm hb Z ⟨c, n1, n2, n3, n4, s, n5⟩ MK_Forcing M
end
end LT
theorem all_mk {l : PySem.W.OpenLaw} {w : World} {K : PySem.W.Frag} {h : Heap} {mg : Str → Option Value} {fa f1 f2 f3 f4 f5 f6 f7 f8 f9 f10 f11 f12 f13 f14 f15 f16 f17 f18 f19 f20 f21 f22 f23 f24 f25 f26 f27 f28 f29 f30 f31 f33 f34 f35 f36 f37 f38 f39 f40 f41 f42 f43 f44 f45 f46 f47 f48 f49 f50 f51 f52 f53 f54 f55 f56 f57 f58 K_Forcing K_Setup : Addr} {ct12_ pt12_ : Addr} {ocm12 : Value} {odm12 : Option Addr} {vsm12 : Array Value} {slm12 : Array (Option Value)} {ct17_ pt17_ : Addr} {ocm17 : Value} {odm17 : Option Addr} {vsm17 : Array Value} {slm17 : Array (Option Value)} {ct19_ pt19_ : Addr} {ocm19 : Value} {odm19 : Option Addr} {vsm19 : Array Value} {slm19 : Array (Option Value)} {ct20_ pt20_ : Addr} {ocm20 : Value} {odm20 : Option Addr} {vsm20 : Array Value} {slm20 : Array (Option Value)} {ct21_ pt21_ : Addr} {ocm21 : Value} {odm21 : Option Addr} {vsm21 : Array Value} {slm21 : Array (Option Value)} {ct22_ pt22_ : Addr} {ocm22 : Value} {odm22 : Option Addr} {vsm22 : Array Value} {slm22 : Array (Option Value)} {ct23_ pt23_ : Addr} {ocm23 : Value} {odm23 : Option Addr} {vsm23 : Array Value} {slm23 : Array (Option Value)} {ct24_ pt24_ : Addr} {ocm24 : Value} {odm24 : Option Addr} {vsm24 : Array Value} {slm24 : Array (Option Value)} {ct25_ pt25_ : Addr} {ocm25 : Value} {odm25 : Option Addr} {vsm25 : Array Value} {slm25 : Array (Option Value)} {ct33_ pt33_ : Addr} {ocm33 : Value} {odm33 : Option Addr} {vsm33 : Array Value} {slm33 : Array (Option Value)} (X : K.In h) (G : h.Ns mainGlobals mg) (hfa : mg "law" = some (.ref fa))
    {od1 an1 od2 an2 od3 an3 od4 an4 od5 an5 od6 an6 od7 an7 od8 an8 od9 an9 od10 an10 od11 an11 od12 an12 od13 an13 od14 an14 od15 an15 od16 an16 od17 an17 od18 an18 od19 an19 od20 an20 od21 an21 od22 an22 od23 an23 od24 an24 od25 an25 od26 an26 od27 an27 od28 an28 od29 an29 od30 an30 od31 an31 od33 an33 od34 an34 od35 an35 od36 an36 od37 an37 od38 an38 od39 an39 od40 an40 od41 an41 od42 an42 od43 an43 od44 an44 od45 an45 od46 an46 od47 an47 od48 an48 od49 an49 od50 an50 od51 an51 od52 an52 od53 an53 od54 an54 od55 an55 od56 an56 od57 an57 od58 an58 : Option Addr} {sl1 sl2 sl3 sl4 sl5 sl6 sl7 sl8 sl9 sl10 sl11 sl12 sl13 sl14 sl15 sl16 sl17 sl18 sl19 sl20 sl21 sl22 sl23 sl24 sl25 sl26 sl27 sl28 sl29 sl30 sl31 sl33 sl34 sl35 sl36 sl37 sl38 sl39 sl40 sl41 sl42 sl43 sl44 sl45 sl46 sl47 sl48 sl49 sl50 sl51 sl52 sl53 sl54 sl55 sl56 sl57 sl58 : Array (Option Value)} {oc1 kV1 dc1 pm1 cd1 ct1 oc2 kV2 dc2 pm2 cd2 ct2 oc3 kV3 dc3 pm3 cd3 ct3 oc4 kV4 dc4 pm4 cd4 ct4 oc5 kV5 dc5 pm5 cd5 ct5 oc6 kV6 dc6 pm6 cd6 ct6 oc7 kV7 dc7 pm7 cd7 ct7 oc8 kV8 dc8 pm8 cd8 ct8 oc9 kV9 dc9 pm9 cd9 ct9 oc10 kV10 dc10 pm10 cd10 ct10 oc11 kV11 dc11 pm11 cd11 ct11 oc12 kV12 dc12 pm12 ct12 oc13 kV13 dc13 pm13 cd13 ct13 oc14 kV14 dc14 pm14 cd14 ct14 oc15 kV15 dc15 pm15 cd15 ct15 oc16 kV16 dc16 pm16 cd16 ct16 oc17 kV17 dc17 pm17 ct17 oc18 kV18 dc18 pm18 cd18 ct18 oc19 kV19 dc19 pm19 ct19 oc20 kV20 dc20 pm20 ct20 oc21 kV21 dc21 pm21 ct21 oc22 kV22 dc22 pm22 ct22 oc23 kV23 dc23 pm23 ct23 oc24 kV24 dc24 pm24 ct24 oc25 kV25 dc25 pm25 ct25 oc26 kV26 dc26 pm26 cd26 ct26 oc27 kV27 dc27 pm27 cd27 ct27 oc28 kV28 dc28 pm28 cd28 ct28 oc29 kV29 dc29 pm29 cd29 ct29 oc30 kV30 dc30 pm30 cd30 ct30 oc31 kV31 dc31 pm31 cd31 ct31 oc33 kV33 dc33 pm33 ct33 oc34 kV34 dc34 pm34 cd34 ct34 oc35 kV35 dc35 pm35 cd35 ct35 oc36 dc36 pm36 cd36 ct36 oc37 kV37 dc37 pm37 cd37 ct37 oc38 kV38 dc38 pm38 cd38 ct38 oc39 kV39 dc39 pm39 cd39 ct39 oc40 kV40 dc40 pm40 cd40 ct40 oc41 kV41 dc41 pm41 cd41 ct41 oc42 kV42 dc42 pm42 cd42 ct42 oc43 kV43 dc43 pm43 cd43 ct43 oc44 kV44 dc44 pm44 cd44 ct44 oc45 kV45 dc45 pm45 cd45 ct45 oc46 kV46 dc46 pm46 cd46 ct46 oc47 kV47 dc47 pm47 cd47 ct47 oc48 kV48 dc48 pm48 cd48 ct48 oc49 kV49 dc49 pm49 cd49 ct49 oc50 kV50 dc50 pm50 cd50 ct50 oc51 kV51 dc51 pm51 cd51 ct51 oc52 kV52 dc52 pm52 cd52 ct52 oc53 kV53 dc53 pm53 cd53 ct53 oc54 kV54 dc54 pm54 cd54 ct54 oc55 kV55 dc55 pm55 cd55 ct55 oc56 kV56 dc56 pm56 cd56 ct56 oc57 kV57 dc57 pm57 cd57 ct57 oc58 kV58 dc58 pm58 cd58 ct58 : Value}
    (a1 : PySem.W.nsIn K mainGlobals "_law_cell" = some (some (.ref f1))) (l1 : K.lookup f1 = some ⟨oc1, od1, .func (PySem.W.fnOf "_law_cell" "_law_cell" (defArgs s_l_law_cell) (defBody s_l_law_cell) (defScope s_l_law_cell) .none kV1 dc1 pm1 an1 cd1 ct1), sl1⟩) (c1 : PySem.W.codeIn K cd1 "_law_cell" = true) (k1 : PySem.W.keepIn K (.ref f1) = true)
    (a2 : PySem.W.nsIn K mainGlobals "_law_draws" = some (some (.ref f2))) (l2 : K.lookup f2 = some ⟨oc2, od2, .func (PySem.W.fnOf "_law_draws" "_law_draws" (defArgs s_l_law_draws) (defBody s_l_law_draws) (defScope s_l_law_draws) .none kV2 dc2 pm2 an2 cd2 ct2), sl2⟩) (c2 : PySem.W.codeIn K cd2 "_law_draws" = true) (k2 : PySem.W.keepIn K (.ref f2) = true)
    (a3 : PySem.W.nsIn K mainGlobals "_law_same" = some (some (.ref f3))) (l3 : K.lookup f3 = some ⟨oc3, od3, .func (PySem.W.fnOf "_law_same" "_law_same" (defArgs s_l_law_same) (defBody s_l_law_same) (defScope s_l_law_same) .none kV3 dc3 pm3 an3 cd3 ct3), sl3⟩) (c3 : PySem.W.codeIn K cd3 "_law_same" = true) (k3 : PySem.W.keepIn K (.ref f3) = true)
    (a4 : PySem.W.nsIn K mainGlobals "_law_words" = some (some (.ref f4))) (l4 : K.lookup f4 = some ⟨oc4, od4, .func (PySem.W.fnOf "_law_words" "_law_words" (defArgs s_l_law_words) (defBody s_l_law_words) (defScope s_l_law_words) .none kV4 dc4 pm4 an4 cd4 ct4), sl4⟩) (c4 : PySem.W.codeIn K cd4 "_law_words" = true) (k4 : PySem.W.keepIn K (.ref f4) = true)
    (a5 : PySem.W.nsIn K mainGlobals "_law_worths" = some (some (.ref f5))) (l5 : K.lookup f5 = some ⟨oc5, od5, .func (PySem.W.fnOf "_law_worths" "_law_worths" (defArgs s_l_law_worths) (defBody s_l_law_worths) (defScope s_l_law_worths) .none kV5 dc5 pm5 an5 cd5 ct5), sl5⟩) (c5 : PySem.W.codeIn K cd5 "_law_worths" = true) (k5 : PySem.W.keepIn K (.ref f5) = true)
    (a6 : PySem.W.nsIn K mainGlobals "_law_labels" = some (some (.ref f6))) (l6 : K.lookup f6 = some ⟨oc6, od6, .func (PySem.W.fnOf "_law_labels" "_law_labels" (defArgs s_l_law_labels) (defBody s_l_law_labels) (defScope s_l_law_labels) .none kV6 dc6 pm6 an6 cd6 ct6), sl6⟩) (c6 : PySem.W.codeIn K cd6 "_law_labels" = true) (k6 : PySem.W.keepIn K (.ref f6) = true)
    (a7 : PySem.W.nsIn K mainGlobals "_law_matcher" = some (some (.ref f7))) (l7 : K.lookup f7 = some ⟨oc7, od7, .func (PySem.W.fnOf "_law_matcher" "_law_matcher" (defArgs s_l_law_matcher) (defBody s_l_law_matcher) (defScope s_l_law_matcher) .none kV7 dc7 pm7 an7 cd7 ct7), sl7⟩) (c7 : PySem.W.codeIn K cd7 "_law_matcher" = true) (k7 : PySem.W.keepIn K (.ref f7) = true)
    (a8 : PySem.W.nsIn K mainGlobals "_law_value" = some (some (.ref f8))) (l8 : K.lookup f8 = some ⟨oc8, od8, .func (PySem.W.fnOf "_law_value" "_law_value" (defArgs s_l_law_value) (defBody s_l_law_value) (defScope s_l_law_value) .none kV8 dc8 pm8 an8 cd8 ct8), sl8⟩) (c8 : PySem.W.codeIn K cd8 "_law_value" = true) (k8 : PySem.W.keepIn K (.ref f8) = true)
    (a9 : PySem.W.nsIn K mainGlobals "_law_matches" = some (some (.ref f9))) (l9 : K.lookup f9 = some ⟨oc9, od9, .func (PySem.W.fnOf "_law_matches" "_law_matches" (defArgs s_l_law_matches) (defBody s_l_law_matches) (defScope s_l_law_matches) .none kV9 dc9 pm9 an9 cd9 ct9), sl9⟩) (c9 : PySem.W.codeIn K cd9 "_law_matches" = true) (k9 : PySem.W.keepIn K (.ref f9) = true)
    (a10 : PySem.W.nsIn K mainGlobals "_law_way" = some (some (.ref f10))) (l10 : K.lookup f10 = some ⟨oc10, od10, .func (PySem.W.fnOf "_law_way" "_law_way" (defArgs s_l_law_way) (defBody s_l_law_way) (defScope s_l_law_way) .none kV10 dc10 pm10 an10 cd10 ct10), sl10⟩) (c10 : PySem.W.codeIn K cd10 "_law_way" = true) (k10 : PySem.W.keepIn K (.ref f10) = true)
    (a11 : PySem.W.nsIn K mainGlobals "_law_route" = some (some (.ref f11))) (l11 : K.lookup f11 = some ⟨oc11, od11, .func (PySem.W.fnOf "_law_route" "_law_route" (defArgs s_l_law_route) (defBody s_l_law_route) (defScope s_l_law_route) .none kV11 dc11 pm11 an11 cd11 ct11), sl11⟩) (c11 : PySem.W.codeIn K cd11 "_law_route" = true) (k11 : PySem.W.keepIn K (.ref f11) = true)
    (a12 : PySem.W.nsIn K mainGlobals "is_value" = some (some (.ref f12))) (l12 : K.lookup f12 = some ⟨oc12, od12, .func (PySem.W.fnOf "is_value" "is_value" (defArgs s_is_value) (defBody s_is_value) (defScope s_is_value) .none kV12 dc12 pm12 an12 (.ref ct12_) ct12), sl12⟩) (c12 : PySem.W.codeIn K (.ref ct12_) "is_value" = true) (k12 : PySem.W.keepIn K (.ref f12) = true)
    (a13 : PySem.W.nsIn K mainGlobals "is_name" = some (some (.ref f13))) (l13 : K.lookup f13 = some ⟨oc13, od13, .func (PySem.W.fnOf "is_name" "is_name" (defArgs s_is_name) (defBody s_is_name) (defScope s_is_name) .none kV13 dc13 pm13 an13 cd13 ct13), sl13⟩) (c13 : PySem.W.codeIn K cd13 "is_name" = true) (k13 : PySem.W.keepIn K (.ref f13) = true)
    (a14 : PySem.W.nsIn K mainGlobals "is_duration" = some (some (.ref f14))) (l14 : K.lookup f14 = some ⟨oc14, od14, .func (PySem.W.fnOf "is_duration" "is_duration" (defArgs s_is_duration) (defBody s_is_duration) (defScope s_is_duration) .none kV14 dc14 pm14 an14 cd14 ct14), sl14⟩) (c14 : PySem.W.codeIn K cd14 "is_duration" = true) (k14 : PySem.W.keepIn K (.ref f14) = true)
    (a15 : PySem.W.nsIn K mainGlobals "is_person" = some (some (.ref f15))) (l15 : K.lookup f15 = some ⟨oc15, od15, .func (PySem.W.fnOf "is_person" "is_person" (defArgs s_is_person) (defBody s_is_person) (defScope s_is_person) .none kV15 dc15 pm15 an15 cd15 ct15), sl15⟩) (c15 : PySem.W.codeIn K cd15 "is_person" = true) (k15 : PySem.W.keepIn K (.ref f15) = true)
    (a16 : PySem.W.nsIn K mainGlobals "is_span" = some (some (.ref f16))) (l16 : K.lookup f16 = some ⟨oc16, od16, .func (PySem.W.fnOf "is_span" "is_span" (defArgs s_is_span) (defBody s_is_span) (defScope s_is_span) .none kV16 dc16 pm16 an16 cd16 ct16), sl16⟩) (c16 : PySem.W.codeIn K cd16 "is_span" = true) (k16 : PySem.W.keepIn K (.ref f16) = true)
    (a17 : PySem.W.nsIn K mainGlobals "is_layer" = some (some (.ref f17))) (l17 : K.lookup f17 = some ⟨oc17, od17, .func (PySem.W.fnOf "is_layer" "is_layer" (defArgs s_is_layer) (defBody s_is_layer) (defScope s_is_layer) .none kV17 dc17 pm17 an17 (.ref ct17_) ct17), sl17⟩) (c17 : PySem.W.codeIn K (.ref ct17_) "is_layer" = true) (k17 : PySem.W.keepIn K (.ref f17) = true)
    (a18 : PySem.W.nsIn K mainGlobals "is_standin" = some (some (.ref f18))) (l18 : K.lookup f18 = some ⟨oc18, od18, .func (PySem.W.fnOf "is_standin" "is_standin" (defArgs s_is_standin) (defBody s_is_standin) (defScope s_is_standin) .none kV18 dc18 pm18 an18 cd18 ct18), sl18⟩) (c18 : PySem.W.codeIn K cd18 "is_standin" = true) (k18 : PySem.W.keepIn K (.ref f18) = true)
    (a19 : PySem.W.nsIn K mainGlobals "is_schedule" = some (some (.ref f19))) (l19 : K.lookup f19 = some ⟨oc19, od19, .func (PySem.W.fnOf "is_schedule" "is_schedule" (defArgs s_is_schedule) (defBody s_is_schedule) (defScope s_is_schedule) .none kV19 dc19 pm19 an19 (.ref ct19_) ct19), sl19⟩) (c19 : PySem.W.codeIn K (.ref ct19_) "is_schedule" = true) (k19 : PySem.W.keepIn K (.ref f19) = true)
    (a20 : PySem.W.nsIn K mainGlobals "is_policy" = some (some (.ref f20))) (l20 : K.lookup f20 = some ⟨oc20, od20, .func (PySem.W.fnOf "is_policy" "is_policy" (defArgs s_is_policy) (defBody s_is_policy) (defScope s_is_policy) .none kV20 dc20 pm20 an20 (.ref ct20_) ct20), sl20⟩) (c20 : PySem.W.codeIn K (.ref ct20_) "is_policy" = true) (k20 : PySem.W.keepIn K (.ref f20) = true)
    (a21 : PySem.W.nsIn K mainGlobals "is_window" = some (some (.ref f21))) (l21 : K.lookup f21 = some ⟨oc21, od21, .func (PySem.W.fnOf "is_window" "is_window" (defArgs s_is_window) (defBody s_is_window) (defScope s_is_window) .none kV21 dc21 pm21 an21 (.ref ct21_) ct21), sl21⟩) (c21 : PySem.W.codeIn K (.ref ct21_) "is_window" = true) (k21 : PySem.W.keepIn K (.ref f21) = true)
    (a22 : PySem.W.nsIn K mainGlobals "is_matcher" = some (some (.ref f22))) (l22 : K.lookup f22 = some ⟨oc22, od22, .func (PySem.W.fnOf "is_matcher" "is_matcher" (defArgs s_is_matcher) (defBody s_is_matcher) (defScope s_is_matcher) .none kV22 dc22 pm22 an22 (.ref ct22_) ct22), sl22⟩) (c22 : PySem.W.codeIn K (.ref ct22_) "is_matcher" = true) (k22 : PySem.W.keepIn K (.ref f22) = true)
    (a23 : PySem.W.nsIn K mainGlobals "are_matchers" = some (some (.ref f23))) (l23 : K.lookup f23 = some ⟨oc23, od23, .func (PySem.W.fnOf "are_matchers" "are_matchers" (defArgs s_are_matchers) (defBody s_are_matchers) (defScope s_are_matchers) .none kV23 dc23 pm23 an23 (.ref ct23_) ct23), sl23⟩) (c23 : PySem.W.codeIn K (.ref ct23_) "are_matchers" = true) (k23 : PySem.W.keepIn K (.ref f23) = true)
    (a24 : PySem.W.nsIn K mainGlobals "are_names" = some (some (.ref f24))) (l24 : K.lookup f24 = some ⟨oc24, od24, .func (PySem.W.fnOf "are_names" "are_names" (defArgs s_are_names) (defBody s_are_names) (defScope s_are_names) .none kV24 dc24 pm24 an24 (.ref ct24_) ct24), sl24⟩) (c24 : PySem.W.codeIn K (.ref ct24_) "are_names" = true) (k24 : PySem.W.keepIn K (.ref f24) = true)
    (a25 : PySem.W.nsIn K mainGlobals "are_settings" = some (some (.ref f25))) (l25 : K.lookup f25 = some ⟨oc25, od25, .func (PySem.W.fnOf "are_settings" "are_settings" (defArgs s_are_settings) (defBody s_are_settings) (defScope s_are_settings) .none kV25 dc25 pm25 an25 (.ref ct25_) ct25), sl25⟩) (c25 : PySem.W.codeIn K (.ref ct25_) "are_settings" = true) (k25 : PySem.W.keepIn K (.ref f25) = true)
    (a26 : PySem.W.nsIn K mainGlobals "is_route" = some (some (.ref f26))) (l26 : K.lookup f26 = some ⟨oc26, od26, .func (PySem.W.fnOf "is_route" "is_route" (defArgs s_is_route) (defBody s_is_route) (defScope s_is_route) .none kV26 dc26 pm26 an26 cd26 ct26), sl26⟩) (c26 : PySem.W.codeIn K cd26 "is_route" = true) (k26 : PySem.W.keepIn K (.ref f26) = true)
    (a27 : PySem.W.nsIn K mainGlobals "is_holdback" = some (some (.ref f27))) (l27 : K.lookup f27 = some ⟨oc27, od27, .func (PySem.W.fnOf "is_holdback" "is_holdback" (defArgs s_is_holdback) (defBody s_is_holdback) (defScope s_is_holdback) .none kV27 dc27 pm27 an27 cd27 ct27), sl27⟩) (c27 : PySem.W.codeIn K cd27 "is_holdback" = true) (k27 : PySem.W.keepIn K (.ref f27) = true)
    (a28 : PySem.W.nsIn K mainGlobals "is_store" = some (some (.ref f28))) (l28 : K.lookup f28 = some ⟨oc28, od28, .func (PySem.W.fnOf "is_store" "is_store" (defArgs s_is_store) (defBody s_is_store) (defScope s_is_store) .none kV28 dc28 pm28 an28 cd28 ct28), sl28⟩) (c28 : PySem.W.codeIn K cd28 "is_store" = true) (k28 : PySem.W.keepIn K (.ref f28) = true)
    (a29 : PySem.W.nsIn K mainGlobals "names_of" = some (some (.ref f29))) (l29 : K.lookup f29 = some ⟨oc29, od29, .func (PySem.W.fnOf "names_of" "names_of" (defArgs s_names_of) (defBody s_names_of) (defScope s_names_of) .none kV29 dc29 pm29 an29 cd29 ct29), sl29⟩) (c29 : PySem.W.codeIn K cd29 "names_of" = true) (k29 : PySem.W.keepIn K (.ref f29) = true)
    (a30 : PySem.W.nsIn K mainGlobals "check_alone" = some (some (.ref f30))) (l30 : K.lookup f30 = some ⟨oc30, od30, .func (PySem.W.fnOf "check_alone" "check_alone" (defArgs s_check_alone) (defBody s_check_alone) (defScope s_check_alone) .none kV30 dc30 pm30 an30 cd30 ct30), sl30⟩) (c30 : PySem.W.codeIn K cd30 "check_alone" = true) (k30 : PySem.W.keepIn K (.ref f30) = true)
    (a31 : PySem.W.nsIn K mainGlobals "check_named" = some (some (.ref f31))) (l31 : K.lookup f31 = some ⟨oc31, od31, .func (PySem.W.fnOf "check_named" "check_named" (defArgs s_check_named) (defBody s_check_named) (defScope s_check_named) .none kV31 dc31 pm31 an31 cd31 ct31), sl31⟩) (c31 : PySem.W.codeIn K cd31 "check_named" = true) (k31 : PySem.W.keepIn K (.ref f31) = true)
    (a33 : PySem.W.nsIn K mainGlobals "check_people" = some (some (.ref f33))) (l33 : K.lookup f33 = some ⟨oc33, od33, .func (PySem.W.fnOf "check_people" "check_people" (defArgs s_check_people) (defBody s_check_people) (defScope s_check_people) .none kV33 dc33 pm33 an33 (.ref ct33_) ct33), sl33⟩) (c33 : PySem.W.codeIn K (.ref ct33_) "check_people" = true) (k33 : PySem.W.keepIn K (.ref f33) = true)
    (a34 : PySem.W.nsIn K mainGlobals "check_alerts" = some (some (.ref f34))) (l34 : K.lookup f34 = some ⟨oc34, od34, .func (PySem.W.fnOf "check_alerts" "check_alerts" (defArgs s_check_alerts) (defBody s_check_alerts) (defScope s_check_alerts) .none kV34 dc34 pm34 an34 cd34 ct34), sl34⟩) (c34 : PySem.W.codeIn K cd34 "check_alerts" = true) (k34 : PySem.W.keepIn K (.ref f34) = true)
    (a35 : PySem.W.findIn K (.ref K_Setup) "__init__" = some (some (.ref f35))) (l35 : K.lookup f35 = some ⟨oc35, od35, .func (PySem.W.fnOf "__init__" "Setup.__init__" (defArgs s_Setup_init) (defBody s_Setup_init) (defScope s_Setup_init) .none kV35 dc35 pm35 an35 cd35 ct35), sl35⟩) (c35 : PySem.W.codeIn K cd35 "Setup.__init__" = true) (k35 : PySem.W.keepIn K (.ref f35) = true) (xq_f35 : PySem.W.isFn K (.ref f35) = true)
    (a36 : PySem.W.nsIn K mainGlobals "setup" = some (some (.ref f36))) (l36 : K.lookup f36 = some ⟨oc36, od36, .func (PySem.W.fnOf "setup" "setup" (defArgs s_setup) (defBody s_setup) (defScope s_setup) .none (.ref kwD_) dc36 pm36 an36 cd36 ct36), sl36⟩) (c36 : PySem.W.codeIn K cd36 "setup" = true) (k36 : PySem.W.keepIn K (.ref f36) = true)
    (a37 : PySem.W.nsIn K mainGlobals "entry_of" = some (some (.ref f37))) (l37 : K.lookup f37 = some ⟨oc37, od37, .func (PySem.W.fnOf "entry_of" "entry_of" (defArgs s_entry_of) (defBody s_entry_of) (defScope s_entry_of) .none kV37 dc37 pm37 an37 cd37 ct37), sl37⟩) (c37 : PySem.W.codeIn K cd37 "entry_of" = true) (k37 : PySem.W.keepIn K (.ref f37) = true)
    (a38 : PySem.W.nsIn K mainGlobals "window_of" = some (some (.ref f38))) (l38 : K.lookup f38 = some ⟨oc38, od38, .func (PySem.W.fnOf "window_of" "window_of" (defArgs s_window_of) (defBody s_window_of) (defScope s_window_of) .none kV38 dc38 pm38 an38 cd38 ct38), sl38⟩) (c38 : PySem.W.codeIn K cd38 "window_of" = true) (k38 : PySem.W.keepIn K (.ref f38) = true)
    (a39 : PySem.W.nsIn K mainGlobals "spans_of" = some (some (.ref f39))) (l39 : K.lookup f39 = some ⟨oc39, od39, .func (PySem.W.fnOf "spans_of" "spans_of" (defArgs s_spans_of) (defBody s_spans_of) (defScope s_spans_of) .none kV39 dc39 pm39 an39 cd39 ct39), sl39⟩) (c39 : PySem.W.codeIn K cd39 "spans_of" = true) (k39 : PySem.W.keepIn K (.ref f39) = true)
    (a40 : PySem.W.nsIn K mainGlobals "unmuted_from" = some (some (.ref f40))) (l40 : K.lookup f40 = some ⟨oc40, od40, .func (PySem.W.fnOf "unmuted_from" "unmuted_from" (defArgs s_unmuted_from) (defBody s_unmuted_from) (defScope s_unmuted_from) .none kV40 dc40 pm40 an40 cd40 ct40), sl40⟩) (c40 : PySem.W.codeIn K cd40 "unmuted_from" = true) (k40 : PySem.W.keepIn K (.ref f40) = true)
    (a41 : PySem.W.nsIn K mainGlobals "slack" = some (some (.ref f41))) (l41 : K.lookup f41 = some ⟨oc41, od41, .func (PySem.W.fnOf "slack" "slack" (defArgs s_slack) (defBody s_slack) (defScope s_slack) .none kV41 dc41 pm41 an41 cd41 ct41), sl41⟩) (c41 : PySem.W.codeIn K cd41 "slack" = true) (k41 : PySem.W.keepIn K (.ref f41) = true)
    (a42 : PySem.W.findIn K (.ref K_Forcing) "__init__" = some (some (.ref f42))) (l42 : K.lookup f42 = some ⟨oc42, od42, .func (PySem.W.fnOf "__init__" "Forcing.__init__" (defArgs s_Forcing_init) (defBody s_Forcing_init) (defScope s_Forcing_init) .none kV42 dc42 pm42 an42 cd42 ct42), sl42⟩) (c42 : PySem.W.codeIn K cd42 "Forcing.__init__" = true) (k42 : PySem.W.keepIn K (.ref f42) = true) (xq_f42 : PySem.W.isFn K (.ref f42) = true)
    (a43 : PySem.W.findIn K (.ref K_Forcing) "free_from" = some (some (.ref f43))) (l43 : K.lookup f43 = some ⟨oc43, od43, .func (PySem.W.fnOf "free_from" "Forcing.free_from" (defArgs s_Forcing_free_from) (defBody s_Forcing_free_from) (defScope s_Forcing_free_from) .none kV43 dc43 pm43 an43 cd43 ct43), sl43⟩) (c43 : PySem.W.codeIn K cd43 "Forcing.free_from" = true) (k43 : PySem.W.keepIn K (.ref f43) = true) (xq_f43 : PySem.W.isFn K (.ref f43) = true)
    (a44 : PySem.W.findIn K (.ref K_Forcing) "forced_from" = some (some (.ref f44))) (l44 : K.lookup f44 = some ⟨oc44, od44, .func (PySem.W.fnOf "forced_from" "Forcing.forced_from" (defArgs s_Forcing_forced_from) (defBody s_Forcing_forced_from) (defScope s_Forcing_forced_from) .none kV44 dc44 pm44 an44 cd44 ct44), sl44⟩) (c44 : PySem.W.codeIn K cd44 "Forcing.forced_from" = true) (k44 : PySem.W.keepIn K (.ref f44) = true) (xq_f44 : PySem.W.isFn K (.ref f44) = true)
    (a45 : PySem.W.findIn K (.ref K_Forcing) "is_forced" = some (some (.ref f45))) (l45 : K.lookup f45 = some ⟨oc45, od45, .func (PySem.W.fnOf "is_forced" "Forcing.is_forced" (defArgs s_Forcing_is_forced) (defBody s_Forcing_is_forced) (defScope s_Forcing_is_forced) .none kV45 dc45 pm45 an45 cd45 ct45), sl45⟩) (c45 : PySem.W.codeIn K cd45 "Forcing.is_forced" = true) (k45 : PySem.W.keepIn K (.ref f45) = true) (xq_f45 : PySem.W.isFn K (.ref f45) = true)
    (a46 : PySem.W.nsIn K mainGlobals "is_forced" = some (some (.ref f46))) (l46 : K.lookup f46 = some ⟨oc46, od46, .func (PySem.W.fnOf "is_forced" "is_forced" (defArgs s_is_forced) (defBody s_is_forced) (defScope s_is_forced) .none kV46 dc46 pm46 an46 cd46 ct46), sl46⟩) (c46 : PySem.W.codeIn K cd46 "is_forced" = true) (k46 : PySem.W.keepIn K (.ref f46) = true)
    (a47 : PySem.W.nsIn K mainGlobals "_law_layer" = some (some (.ref f47))) (l47 : K.lookup f47 = some ⟨oc47, od47, .func (PySem.W.fnOf "_law_layer" "_law_layer" (defArgs s_l_law_layer) (defBody s_l_law_layer) (defScope s_l_law_layer) .none kV47 dc47 pm47 an47 cd47 ct47), sl47⟩) (c47 : PySem.W.codeIn K cd47 "_law_layer" = true) (k47 : PySem.W.keepIn K (.ref f47) = true)
    (a48 : PySem.W.nsIn K mainGlobals "_law_rota" = some (some (.ref f48))) (l48 : K.lookup f48 = some ⟨oc48, od48, .func (PySem.W.fnOf "_law_rota" "_law_rota" (defArgs s_l_law_rota) (defBody s_l_law_rota) (defScope s_l_law_rota) .none kV48 dc48 pm48 an48 cd48 ct48), sl48⟩) (c48 : PySem.W.codeIn K cd48 "_law_rota" = true) (k48 : PySem.W.keepIn K (.ref f48) = true)
    (a49 : PySem.W.nsIn K mainGlobals "_law_ladder" = some (some (.ref f49))) (l49 : K.lookup f49 = some ⟨oc49, od49, .func (PySem.W.fnOf "_law_ladder" "_law_ladder" (defArgs s_l_law_ladder) (defBody s_l_law_ladder) (defScope s_l_law_ladder) .none kV49 dc49 pm49 an49 cd49 ct49), sl49⟩) (c49 : PySem.W.codeIn K cd49 "_law_ladder" = true) (k49 : PySem.W.keepIn K (.ref f49) = true)
    (a50 : PySem.W.nsIn K mainGlobals "_law_shutter" = some (some (.ref f50))) (l50 : K.lookup f50 = some ⟨oc50, od50, .func (PySem.W.fnOf "_law_shutter" "_law_shutter" (defArgs s_l_law_shutter) (defBody s_l_law_shutter) (defScope s_l_law_shutter) .none kV50 dc50 pm50 an50 cd50 ct50), sl50⟩) (c50 : PySem.W.codeIn K cd50 "_law_shutter" = true) (k50 : PySem.W.keepIn K (.ref f50) = true)
    (a51 : PySem.W.nsIn K mainGlobals "_law_holds" = some (some (.ref f51))) (l51 : K.lookup f51 = some ⟨oc51, od51, .func (PySem.W.fnOf "_law_holds" "_law_holds" (defArgs s_l_law_holds) (defBody s_l_law_holds) (defScope s_l_law_holds) .none kV51 dc51 pm51 an51 cd51 ct51), sl51⟩) (c51 : PySem.W.codeIn K cd51 "_law_holds" = true) (k51 : PySem.W.keepIn K (.ref f51) = true)
    (a52 : PySem.W.nsIn K mainGlobals "_law_setup" = some (some (.ref f52))) (l52 : K.lookup f52 = some ⟨oc52, od52, .func (PySem.W.fnOf "_law_setup" "_law_setup" (defArgs s_l_law_setup) (defBody s_l_law_setup) (defScope s_l_law_setup) .none kV52 dc52 pm52 an52 cd52 ct52), sl52⟩) (c52 : PySem.W.codeIn K cd52 "_law_setup" = true) (k52 : PySem.W.keepIn K (.ref f52) = true)
    (a53 : PySem.W.nsIn K mainGlobals "_law_world" = some (some (.ref f53))) (l53 : K.lookup f53 = some ⟨oc53, od53, .func (PySem.W.fnOf "_law_world" "_law_world" (defArgs s_l_law_world) (defBody s_l_law_world) (defScope s_l_law_world) .none kV53 dc53 pm53 an53 cd53 ct53), sl53⟩) (c53 : PySem.W.codeIn K cd53 "_law_world" = true) (k53 : PySem.W.keepIn K (.ref f53) = true)
    (a54 : PySem.W.nsIn K mainGlobals "_law_slack" = some (some (.ref f54))) (l54 : K.lookup f54 = some ⟨oc54, od54, .func (PySem.W.fnOf "_law_slack" "_law_slack" (defArgs s_l_law_slack) (defBody s_l_law_slack) (defScope s_l_law_slack) .none kV54 dc54 pm54 an54 cd54 ct54), sl54⟩) (c54 : PySem.W.codeIn K cd54 "_law_slack" = true) (k54 : PySem.W.keepIn K (.ref f54) = true)
    (a55 : PySem.W.nsIn K mainGlobals "_law_muted" = some (some (.ref f55))) (l55 : K.lookup f55 = some ⟨oc55, od55, .func (PySem.W.fnOf "_law_muted" "_law_muted" (defArgs s_l_law_muted) (defBody s_l_law_muted) (defScope s_l_law_muted) .none kV55 dc55 pm55 an55 cd55 ct55), sl55⟩) (c55 : PySem.W.codeIn K cd55 "_law_muted" = true) (k55 : PySem.W.keepIn K (.ref f55) = true)
    (a56 : PySem.W.nsIn K mainGlobals "_law_forced" = some (some (.ref f56))) (l56 : K.lookup f56 = some ⟨oc56, od56, .func (PySem.W.fnOf "_law_forced" "_law_forced" (defArgs s_l_law_forced) (defBody s_l_law_forced) (defScope s_l_law_forced) .none kV56 dc56 pm56 an56 cd56 ct56), sl56⟩) (c56 : PySem.W.codeIn K cd56 "_law_forced" = true) (k56 : PySem.W.keepIn K (.ref f56) = true)
    (a57 : PySem.W.nsIn K mainGlobals "_law_case" = some (some (.ref f57))) (l57 : K.lookup f57 = some ⟨oc57, od57, .func (PySem.W.fnOf "_law_case" "_law_case" (defArgs s_l_law_case) (defBody s_l_law_case) (defScope s_l_law_case) .none kV57 dc57 pm57 an57 cd57 ct57), sl57⟩) (c57 : PySem.W.codeIn K cd57 "_law_case" = true) (k57 : PySem.W.keepIn K (.ref f57) = true)
    (a58 : PySem.W.nsIn K mainGlobals "law" = some (some (.ref f58))) (l58 : K.lookup f58 = some ⟨oc58, od58, .func (PySem.W.fnOf "law" "law" (defArgs s_law) (defBody s_law) (defScope s_law) .none kV58 dc58 pm58 an58 cd58 ct58), sl58⟩) (c58 : PySem.W.codeIn K cd58 "law" = true) (k58 : PySem.W.keepIn K (.ref f58) = true)
    (m12 : K.lookup ct12_ = some ⟨ocm12, odm12, .fields vsm12, slm12⟩) (v12 : vsm12[11]? = some (.ref pt12_)) (n12 : K.lookup pt12_ = none)
    (m17 : K.lookup ct17_ = some ⟨ocm17, odm17, .fields vsm17, slm17⟩) (v17 : vsm17[11]? = some (.ref pt17_)) (n17 : K.lookup pt17_ = none)
    (m19 : K.lookup ct19_ = some ⟨ocm19, odm19, .fields vsm19, slm19⟩) (v19 : vsm19[11]? = some (.ref pt19_)) (n19 : K.lookup pt19_ = none)
    (m20 : K.lookup ct20_ = some ⟨ocm20, odm20, .fields vsm20, slm20⟩) (v20 : vsm20[11]? = some (.ref pt20_)) (n20 : K.lookup pt20_ = none)
    (m21 : K.lookup ct21_ = some ⟨ocm21, odm21, .fields vsm21, slm21⟩) (v21 : vsm21[11]? = some (.ref pt21_)) (n21 : K.lookup pt21_ = none)
    (m22 : K.lookup ct22_ = some ⟨ocm22, odm22, .fields vsm22, slm22⟩) (v22 : vsm22[11]? = some (.ref pt22_)) (n22 : K.lookup pt22_ = none)
    (m23 : K.lookup ct23_ = some ⟨ocm23, odm23, .fields vsm23, slm23⟩) (v23 : vsm23[11]? = some (.ref pt23_)) (n23 : K.lookup pt23_ = none)
    (m24 : K.lookup ct24_ = some ⟨ocm24, odm24, .fields vsm24, slm24⟩) (v24 : vsm24[11]? = some (.ref pt24_)) (n24 : K.lookup pt24_ = none)
    (m25 : K.lookup ct25_ = some ⟨ocm25, odm25, .fields vsm25, slm25⟩) (v25 : vsm25[11]? = some (.ref pt25_)) (n25 : K.lookup pt25_ = none)
    (m33 : K.lookup ct33_ = some ⟨ocm33, odm33, .fields vsm33, slm33⟩) (v33 : vsm33[11]? = some (.ref pt33_)) (n33 : K.lookup pt33_ = none)
    (z1 : PySem.W.nsIn K mainGlobals "len" = some none)
    (z2 : PySem.W.nsIn K mainGlobals "range" = some none)
    (z3 : PySem.W.nsIn K mainGlobals "sorted" = some none)
    (z4 : PySem.W.nsIn K mainGlobals "list" = some none)
    (z5 : PySem.W.nsIn K mainGlobals "tuple" = some none)
    (z6 : PySem.W.nsIn K mainGlobals "int" = some none)
    (z7 : PySem.W.nsIn K mainGlobals "bool" = some none)
    (z8 : PySem.W.nsIn K mainGlobals "str" = some none)
    (z9 : PySem.W.nsIn K mainGlobals "dict" = some none)
    (z10 : PySem.W.nsIn K mainGlobals "set" = some none)
    (z11 : PySem.W.nsIn K mainGlobals "isinstance" = some none)
    (z12 : PySem.W.nsIn K mainGlobals "sum" = some none)
    (z13 : PySem.W.nsIn K mainGlobals "min" = some none)
    (z14 : PySem.W.nsIn K mainGlobals "max" = some none)
    (z15 : PySem.W.nsIn K mainGlobals "enumerate" = some none)
    (z16 : PySem.W.nsIn K mainGlobals "zip" = some none)
    (z17 : PySem.W.nsIn K mainGlobals "any" = some none)
    (z18 : PySem.W.nsIn K mainGlobals "all" = some none)
    (z19 : PySem.W.nsIn K mainGlobals "abs" = some none)
    (z20 : PySem.W.nsIn K mainGlobals "reversed" = some none)
    (ne12 : pt12_ ≠ pt33_)
    (ne17 : pt17_ ≠ pt33_)
    (ne19 : pt19_ ≠ pt33_)
    (ne20 : pt20_ ≠ pt33_)
    (ne21 : pt21_ ≠ pt33_)
    (ne22 : pt22_ ≠ pt33_)
    (ne23 : pt23_ ≠ pt33_)
    (ne24 : pt24_ ≠ pt33_)
    (ne25 : pt25_ ≠ pt33_)
    {kwE1_ kwE2_ kwE3_ kwS_ : Addr} {kwo1_ kwo2_ kwo3_ kwos_ : Option Addr} {kwn1_ kwn2_ kwn3_ kwns_ : Nat} {kwl1_ kwl2_ kwl3_ kwls_ : Array (Option Value)} {kwt1_ kwt2_ kwt3_ kwt4_ kws1_ kws2_ kws3_ kws4_ : Tok}
    (kwa1 : PySem.W.nsIn K kwD_ "windows" = some (some (.ref kwE1_)))
    (kwa2 : PySem.W.nsIn K kwD_ "holdbacks" = some (some (.ref kwE2_)))
    (kwa3 : PySem.W.nsIn K kwD_ "groups" = some (some (.ref kwE3_)))
    (kwa4 : PySem.W.nsIn K kwD_ "replicas" = some (some (.int 1 kwt1_)))
    (kwa5 : PySem.W.nsIn K kwD_ "pause" = some (some (.int 0 kwt2_)))
    (kwa6 : PySem.W.nsIn K kwD_ "down" = some (some (.int 0 kwt3_)))
    (kwa7 : PySem.W.nsIn K kwD_ "store" = some (some (.ref kwS_)))
    (kwa8 : PySem.W.nsIn K kwD_ "lookback" = some (some (.int 5 kwt4_)))
    (kwb1 : K.lookup kwE1_ = some ⟨.type "tuple", kwo1_, .seq #[] kwn1_, kwl1_⟩)
    (kwb2 : K.lookup kwE2_ = some ⟨.type "tuple", kwo2_, .seq #[] kwn2_, kwl2_⟩)
    (kwb3 : K.lookup kwE3_ = some ⟨.type "tuple", kwo3_, .seq #[] kwn3_, kwl3_⟩)
    (kwb4 : K.lookup kwS_ = some ⟨.type "tuple", kwos_, .seq #[.int 0 kws1_, .int 10 kws2_, .int 2 kws3_, .int 0 kws4_] kwns_, kwls_⟩)
    {G_is_group : Addr} (ga_is_group : PySem.W.nsIn K mainGlobals "is_group" = some (some (.ref G_is_group)))
    {kc_LAST_TIME : Tok} (c_LAST_TIME : PySem.W.nsIn K mainGlobals "LAST_TIME" = some (some (.int 10000 kc_LAST_TIME)))
    {kc_LONGEST_WORD : Tok} (c_LONGEST_WORD : PySem.W.nsIn K mainGlobals "LONGEST_WORD" = some (some (.int 20 kc_LONGEST_WORD)))
    {kc_MOST_HOLDBACKS : Tok} (c_MOST_HOLDBACKS : PySem.W.nsIn K mainGlobals "MOST_HOLDBACKS" = some (some (.int 10 kc_MOST_HOLDBACKS)))
    {kc_MOST_ROUTES : Tok} (c_MOST_ROUTES : PySem.W.nsIn K mainGlobals "MOST_ROUTES" = some (some (.int 30 kc_MOST_ROUTES)))
    {kc_MOST_VALUES : Tok} (c_MOST_VALUES : PySem.W.nsIn K mainGlobals "MOST_VALUES" = some (some (.int 6 kc_MOST_VALUES)))
    {kc_CHARACTERS : Tok} (c_CHARACTERS : PySem.W.nsIn K mainGlobals "CHARACTERS" = some (some (.str (CH) kc_CHARACTERS)))
    {kc_LETTERS : Tok} (c_LETTERS : PySem.W.nsIn K mainGlobals "LETTERS" = some (some (.str (LE) kc_LETTERS)))
    {kc_RESERVED : Tok} (c_RESERVED : PySem.W.nsIn K mainGlobals "RESERVED" = some (some (.str (RSV) kc_RESERVED)))
    (wa_Forcing : PySem.W.nsIn K mainGlobals "Forcing" = some (some (.ref K_Forcing)))
    (xq_wg_Forcing : PySem.W.plainGet K K_Forcing Str.empty = true)
    (xq_wh_Forcing : PySem.W.hasDictIn K K_Forcing = true)
    (xq_wp_Forcing : PySem.W.plainOver K K_Forcing = true)
    (ws_Forcing : PySem.W.findIn K (.ref K_Forcing) "__setattr__" = some (some (.builtin "object.__setattr__")))
    (xq_wm_Forcing : PySem.W.makesIn K K_Forcing = true)
    (wk_Forcing : PySem.W.keepIn K (.ref K_Forcing) = true)
    (wa_Setup : PySem.W.nsIn K mainGlobals "Setup" = some (some (.ref K_Setup)))
    (xq_wg_Setup : PySem.W.plainGet K K_Setup Str.empty = true)
    (xq_wh_Setup : PySem.W.hasDictIn K K_Setup = true)
    (xq_wp_Setup : PySem.W.plainOver K K_Setup = true)
    (ws_Setup : PySem.W.findIn K (.ref K_Setup) "__setattr__" = some (some (.builtin "object.__setattr__")))
    (xq_wm_Setup : PySem.W.makesIn K K_Setup = true)
    (wk_Setup : PySem.W.keepIn K (.ref K_Setup) = true)
    (wn_Forcing__ends : PySem.W.findIn K (.ref K_Forcing) "_ends" = some none)
    (wn_Forcing__mutes : PySem.W.findIn K (.ref K_Forcing) "_mutes" = some none)
    (wn_Forcing__setup : PySem.W.findIn K (.ref K_Forcing) "_setup" = some none)
    (wn_Forcing__slack : PySem.W.findIn K (.ref K_Forcing) "_slack" = some none)
    (wn_Setup_down : PySem.W.findIn K (.ref K_Setup) "down" = some none)
    (wn_Setup_groups : PySem.W.findIn K (.ref K_Setup) "groups" = some none)
    (wn_Setup_holdbacks : PySem.W.findIn K (.ref K_Setup) "holdbacks" = some none)
    (wn_Setup_lookback : PySem.W.findIn K (.ref K_Setup) "lookback" = some none)
    (wn_Setup_pause : PySem.W.findIn K (.ref K_Setup) "pause" = some none)
    (wn_Setup_people : PySem.W.findIn K (.ref K_Setup) "people" = some none)
    (wn_Setup_policies : PySem.W.findIn K (.ref K_Setup) "policies" = some none)
    (wn_Setup_replicas : PySem.W.findIn K (.ref K_Setup) "replicas" = some none)
    (wn_Setup_routes : PySem.W.findIn K (.ref K_Setup) "routes" = some none)
    (wn_Setup_schedules : PySem.W.findIn K (.ref K_Setup) "schedules" = some none)
    (wn_Setup_store : PySem.W.findIn K (.ref K_Setup) "store" = some none)
    (wn_Setup_week : PySem.W.findIn K (.ref K_Setup) "week" = some none)
    (wn_Setup_windows : PySem.W.findIn K (.ref K_Setup) "windows" = some none)
    {K_BadSetup I_BadSetup K_InvalidArgument I_InvalidArgument : Addr}
    {nm_BadSetup q_BadSetup : Str} {N_BadSetup : Addr} {bs_BadSetup : List Value} {sn_BadSetup : List Str} {sub_BadSetup : List Value} {ab_BadSetup : Bool} {col_BadSetup : Option Bool} {dd_BadSetup : Option Addr} {m0_BadSetup m1_BadSetup m2_BadSetup m3_BadSetup m5_BadSetup : Option Value} {odi_BadSetup ani_BadSetup : Option Addr} {sli_BadSetup : Array (Option Value)} {oci_BadSetup kVi_BadSetup dci_BadSetup pmi_BadSetup cdi_BadSetup cti_BadSetup : Value}
    (ya_BadSetup : PySem.W.nsIn K mainGlobals "BadSetup" = some (some (.ref K_BadSetup)))
    (yL_BadSetup : K.lookup K_BadSetup = some (excClassObj nm_BadSetup q_BadSetup K_BadSetup N_BadSetup bs_BadSetup [.ref K_WatchError, .type "ValueError", .type "Exception", .type "BaseException", .type "object"] true sn_BadSetup sub_BadSetup ab_BadSetup col_BadSetup dd_BadSetup m0_BadSetup m1_BadSetup m2_BadSetup m3_BadSetup m5_BadSetup "ValueError.__new__"))
    (ys_BadSetup : PySem.W.findIn K (.ref K_BadSetup) "__setattr__" = some (some (.builtin "object.__setattr__")))
    (yn_BadSetup : PySem.W.findIn K (.ref K_BadSetup) "part" = some none)
    (yi_BadSetup : PySem.W.findIn K (.ref K_BadSetup) "__init__" = some (some (.ref I_BadSetup)))
    (yt_BadSetup : PySem.W.typeIn K (.ref I_BadSetup) = some (.type "function"))
    (yl_BadSetup : K.lookup I_BadSetup = some ⟨oci_BadSetup, odi_BadSetup, .func (PySem.W.fnOf "__init__" "BadSetup.__init__" (defArgs (s_init 3)) (defBody (s_init 3)) (defScope (s_init 3)) .none kVi_BadSetup dci_BadSetup pmi_BadSetup ani_BadSetup cdi_BadSetup cti_BadSetup), sli_BadSetup⟩)
    (yc_BadSetup : PySem.W.codeIn K cdi_BadSetup "BadSetup.__init__" = true)
    (yk_BadSetup : PySem.W.keepIn K (.ref I_BadSetup) = true)
    (yK_BadSetup : PySem.W.keepIn K (.ref K_BadSetup) = true)
    (ye_BadSetup : PySem.W.subIn K (.ref K_BadSetup) (.type "BaseException") = some true)
    (yT_BadSetup : PySem.W.typeIn K (.ref K_BadSetup) = some (.type "type"))
    (yh_BadSetup : PySem.W.findIn K (.ref K_BadSetup) "place" = some none)
    {nm_InvalidArgument q_InvalidArgument : Str} {N_InvalidArgument : Addr} {bs_InvalidArgument : List Value} {sn_InvalidArgument : List Str} {sub_InvalidArgument : List Value} {ab_InvalidArgument : Bool} {col_InvalidArgument : Option Bool} {dd_InvalidArgument : Option Addr} {m0_InvalidArgument m1_InvalidArgument m2_InvalidArgument m3_InvalidArgument m5_InvalidArgument : Option Value} {odi_InvalidArgument ani_InvalidArgument : Option Addr} {sli_InvalidArgument : Array (Option Value)} {oci_InvalidArgument kVi_InvalidArgument dci_InvalidArgument pmi_InvalidArgument cdi_InvalidArgument cti_InvalidArgument : Value}
    (ya_InvalidArgument : PySem.W.nsIn K mainGlobals "InvalidArgument" = some (some (.ref K_InvalidArgument)))
    (yL_InvalidArgument : K.lookup K_InvalidArgument = some (excClassObj nm_InvalidArgument q_InvalidArgument K_InvalidArgument N_InvalidArgument bs_InvalidArgument [.ref K_WatchError, .type "ValueError", .type "Exception", .type "BaseException", .type "object"] true sn_InvalidArgument sub_InvalidArgument ab_InvalidArgument col_InvalidArgument dd_InvalidArgument m0_InvalidArgument m1_InvalidArgument m2_InvalidArgument m3_InvalidArgument m5_InvalidArgument "ValueError.__new__"))
    (ys_InvalidArgument : PySem.W.findIn K (.ref K_InvalidArgument) "__setattr__" = some (some (.builtin "object.__setattr__")))
    (yn_InvalidArgument : PySem.W.findIn K (.ref K_InvalidArgument) "name" = some none)
    (yi_InvalidArgument : PySem.W.findIn K (.ref K_InvalidArgument) "__init__" = some (some (.ref I_InvalidArgument)))
    (yt_InvalidArgument : PySem.W.typeIn K (.ref I_InvalidArgument) = some (.type "function"))
    (yl_InvalidArgument : K.lookup I_InvalidArgument = some ⟨oci_InvalidArgument, odi_InvalidArgument, .func (PySem.W.fnOf "__init__" "InvalidArgument.__init__" (defArgs (s_init 2)) (defBody (s_init 2)) (defScope (s_init 2)) .none kVi_InvalidArgument dci_InvalidArgument pmi_InvalidArgument ani_InvalidArgument cdi_InvalidArgument cti_InvalidArgument), sli_InvalidArgument⟩)
    (yc_InvalidArgument : PySem.W.codeIn K cdi_InvalidArgument "InvalidArgument.__init__" = true)
    (yk_InvalidArgument : PySem.W.keepIn K (.ref I_InvalidArgument) = true)
    (yK_InvalidArgument : PySem.W.keepIn K (.ref K_InvalidArgument) = true)
    (ye_InvalidArgument : PySem.W.subIn K (.ref K_InvalidArgument) (.type "BaseException") = some true)
    (yT_InvalidArgument : PySem.W.typeIn K (.ref K_InvalidArgument) = some (.type "type"))
    (T12 : PySem.W.CodeHd h ct12_ pt12_ ∧ h.get? pt12_ = some (PySem.W.tabObj #[]))
    (T17 : PySem.W.CodeHd h ct17_ pt17_ ∧ h.get? pt17_ = some (PySem.W.tabObj #[]))
    (T19 : PySem.W.CodeHd h ct19_ pt19_ ∧ h.get? pt19_ = some (PySem.W.tabObj #[]))
    (T20 : PySem.W.CodeHd h ct20_ pt20_ ∧ h.get? pt20_ = some (PySem.W.tabObj #[]))
    (T21 : PySem.W.CodeHd h ct21_ pt21_ ∧ h.get? pt21_ = some (PySem.W.tabObj #[]))
    (T22 : PySem.W.CodeHd h ct22_ pt22_ ∧ h.get? pt22_ = some (PySem.W.tabObj #[]))
    (T23 : PySem.W.CodeHd h ct23_ pt23_ ∧ h.get? pt23_ = some (PySem.W.tabObj #[]))
    (T24 : PySem.W.CodeHd h ct24_ pt24_ ∧ h.get? pt24_ = some (PySem.W.tabObj #[]))
    (T25 : PySem.W.CodeHd h ct25_ pt25_ ∧ h.get? pt25_ = some (PySem.W.tabObj #[]))
    (T33 : PySem.W.CodeHd h ct33_ pt33_ ∧ h.get? pt33_ = some (PySem.W.tabObj #[])) :
    LamX.LawAtS l w K CX0 17 63 "_law_script_here" mg fa h := by
  have e := hfa.symm.trans (PySem.W.mg_of X G a58)
  cases e
  letI : LamTabs := ⟨fun a => if a = pt33_ then some (("check_people" : Str) ++ ".<locals>." ++ "<lambda>") else none⟩
  have Z : Zb mg := ⟨PySem.W.mg_none_of X G z1, PySem.W.mg_none_of X G z2, PySem.W.mg_none_of X G z3, PySem.W.mg_none_of X G z4, PySem.W.mg_none_of X G z5, PySem.W.mg_none_of X G z6, PySem.W.mg_none_of X G z7, PySem.W.mg_none_of X G z8, PySem.W.mg_none_of X G z9, PySem.W.mg_none_of X G z10, PySem.W.mg_none_of X G z11, PySem.W.mg_none_of X G z12, PySem.W.mg_none_of X G z13, PySem.W.mg_none_of X G z14, PySem.W.mg_none_of X G z15, PySem.W.mg_none_of X G z16, PySem.W.mg_none_of X G z17, PySem.W.mg_none_of X G z18, PySem.W.mg_none_of X G z19, PySem.W.mg_none_of X G z20⟩
  have F1 := fun_mk (st := s_l_law_cell) l1 c1 k1
  have b1 := F1.binds (ps := ["_law_script_here", "_law_k"]) fun _ _ _ _ _ _ us hl => match us, hl with | [_, _], _ => rfl
  have F2 := fun_mk (st := s_l_law_draws) l2 c2 k2
  have b2 := F2.binds (ps := ["_law_cell_here", "_law_many"]) fun _ _ _ _ _ _ us hl => match us, hl with | [_, _], _ => rfl
  have F3 := fun_mk (st := s_l_law_same) l3 c3 k3
  have b3 := F3.binds (ps := ["_law_told", "_law_due_here"]) fun _ _ _ _ _ _ us hl => match us, hl with | [_, _], _ => rfl
  have F4 := fun_mk (st := s_l_law_words) l4 c4 k4
  have b4 := F4.binds (ps := ["_law_cell_here", "_law_many"]) fun _ _ _ _ _ _ us hl => match us, hl with | [_, _], _ => rfl
  have F5 := fun_mk (st := s_l_law_worths) l5 c5 k5
  have b5 := F5.binds (ps := ["_law_cell_here", "_law_many"]) fun _ _ _ _ _ _ us hl => match us, hl with | [_, _], _ => rfl
  have F6 := fun_mk (st := s_l_law_labels) l6 c6 k6
  have b6 := F6.binds (ps := ["_law_draws_here", "_law_names", "_law_worths_here"]) fun _ _ _ _ _ _ us hl => match us, hl with | [_, _, _], _ => rfl
  have F7 := fun_mk (st := s_l_law_matcher) l7 c7 k7
  have b7 := F7.binds (ps := ["_law_first", "_law_second", "_law_names", "_law_worths_here"]) fun _ _ _ _ _ _ us hl => match us, hl with | [_, _, _, _], _ => rfl
  have F8 := fun_mk (st := s_l_law_value) l8 c8 k8
  have b8 := F8.binds (ps := ["_law_labels_here", "_law_name"]) fun _ _ _ _ _ _ us hl => match us, hl with | [_, _], _ => rfl
  have F9 := fun_mk (st := s_l_law_matches) l9 c9 k9
  have b9 := F9.binds (ps := ["_law_matchers", "_law_labels_here"]) fun _ _ _ _ _ _ us hl => match us, hl with | [_, _], _ => rfl
  have F10 := fun_mk (st := s_l_law_way) l10 c10 k10
  have b10 := F10.binds (ps := ["_law_tree", "_law_labels_here"]) fun _ _ _ _ _ _ us hl => match us, hl with | [_, _], _ => rfl
  have F11 := fun_mk (st := s_l_law_route) l11 c11 k11
  have b11 := F11.binds (ps := ["_law_cell_here", "_law_place", "_law_names", "_law_worths_here", "_law_ladders", "_law_shutters"]) fun _ _ _ _ _ _ us hl => match us, hl with | [_, _, _, _, _, _], _ => rfl
  have t12 : PySem.W.tabIn K "is_value" = some (ct12_, pt12_) := tab_in a12 l12 rfl m12 v12
  have F12 := fun_mk (st := s_is_value) l12 c12 k12
  have b12 := F12.binds (ps := ["text"]) fun _ _ _ _ _ _ us hl => match us, hl with | [_], _ => rfl
  have F13 := fun_mk (st := s_is_name) l13 c13 k13
  have b13 := F13.binds (ps := ["text"]) fun _ _ _ _ _ _ us hl => match us, hl with | [_], _ => rfl
  have F14 := fun_mk (st := s_is_duration) l14 c14 k14
  have b14 := F14.binds (ps := ["number"]) fun _ _ _ _ _ _ us hl => match us, hl with | [_], _ => rfl
  have F15 := fun_mk (st := s_is_person) l15 c15 k15
  have b15 := F15.binds (ps := ["person"]) fun _ _ _ _ _ _ us hl => match us, hl with | [_], _ => rfl
  have F16 := fun_mk (st := s_is_span) l16 c16 k16
  have b16 := F16.binds (ps := ["week", "span"]) fun _ _ _ _ _ _ us hl => match us, hl with | [_, _], _ => rfl
  have t17 : PySem.W.tabIn K "is_layer" = some (ct17_, pt17_) := tab_in a17 l17 rfl m17 v17
  have F17 := fun_mk (st := s_is_layer) l17 c17 k17
  have b17 := F17.binds (ps := ["week", "persons", "layer"]) fun _ _ _ _ _ _ us hl => match us, hl with | [_, _, _], _ => rfl
  have F18 := fun_mk (st := s_is_standin) l18 c18 k18
  have b18 := F18.binds (ps := ["persons", "standin"]) fun _ _ _ _ _ _ us hl => match us, hl with | [_, _], _ => rfl
  have t19 : PySem.W.tabIn K "is_schedule" = some (ct19_, pt19_) := tab_in a19 l19 rfl m19 v19
  have F19 := fun_mk (st := s_is_schedule) l19 c19 k19
  have b19 := F19.binds (ps := ["week", "persons", "schedule"]) fun _ _ _ _ _ _ us hl => match us, hl with | [_, _, _], _ => rfl
  have t20 : PySem.W.tabIn K "is_policy" = some (ct20_, pt20_) := tab_in a20 l20 rfl m20 v20
  have F20 := fun_mk (st := s_is_policy) l20 c20 k20
  have b20 := F20.binds (ps := ["schedules", "policy"]) fun _ _ _ _ _ _ us hl => match us, hl with | [_, _], _ => rfl
  have t21 : PySem.W.tabIn K "is_window" = some (ct21_, pt21_) := tab_in a21 l21 rfl m21 v21
  have F21 := fun_mk (st := s_is_window) l21 c21 k21
  have b21 := F21.binds (ps := ["week", "window"]) fun _ _ _ _ _ _ us hl => match us, hl with | [_, _], _ => rfl
  have t22 : PySem.W.tabIn K "is_matcher" = some (ct22_, pt22_) := tab_in a22 l22 rfl m22 v22
  have F22 := fun_mk (st := s_is_matcher) l22 c22 k22
  have b22 := F22.binds (ps := ["matcher"]) fun _ _ _ _ _ _ us hl => match us, hl with | [_], _ => rfl
  have t23 : PySem.W.tabIn K "are_matchers" = some (ct23_, pt23_) := tab_in a23 l23 rfl m23 v23
  have F23 := fun_mk (st := s_are_matchers) l23 c23 k23
  have b23 := F23.binds (ps := ["matchers"]) fun _ _ _ _ _ _ us hl => match us, hl with | [_], _ => rfl
  have t24 : PySem.W.tabIn K "are_names" = some (ct24_, pt24_) := tab_in a24 l24 rfl m24 v24
  have F24 := fun_mk (st := s_are_names) l24 c24 k24
  have b24 := F24.binds (ps := ["names"]) fun _ _ _ _ _ _ us hl => match us, hl with | [_], _ => rfl
  have t25 : PySem.W.tabIn K "are_settings" = some (ct25_, pt25_) := tab_in a25 l25 rfl m25 v25
  have F25 := fun_mk (st := s_are_settings) l25 c25 k25
  have b25 := F25.binds (ps := ["windows", "policies", "settings"]) fun _ _ _ _ _ _ us hl => match us, hl with | [_, _, _], _ => rfl
  have F26 := fun_mk (st := s_is_route) l26 c26 k26
  have b26 := F26.binds (ps := ["place", "windows", "policies", "route"]) fun _ _ _ _ _ _ us hl => match us, hl with | [_, _, _, _], _ => rfl
  have F27 := fun_mk (st := s_is_holdback) l27 c27 k27
  have b27 := F27.binds (ps := ["holdback"]) fun _ _ _ _ _ _ us hl => match us, hl with | [_], _ => rfl
  have F28 := fun_mk (st := s_is_store) l28 c28 k28
  have b28 := F28.binds (ps := ["store"]) fun _ _ _ _ _ _ us hl => match us, hl with | [_], _ => rfl
  have F29 := fun_mk (st := s_names_of) l29 c29 k29
  have b29 := F29.binds (ps := ["entries"]) fun _ _ _ _ _ _ us hl => match us, hl with | [_], _ => rfl
  have F30 := fun_mk (st := s_check_alone) l30 c30 k30
  have b30 := F30.binds (ps := ["part", "right"]) fun _ _ _ _ _ _ us hl => match us, hl with | [_, _], _ => rfl
  have F31 := fun_mk (st := s_check_named) l31 c31 k31
  have b31 := F31.binds (ps := ["part", "entries", "is_right"]) fun _ _ _ _ _ _ us hl => match us, hl with | [_, _, _], _ => rfl
  have t33 : PySem.W.tabIn K "check_people" = some (ct33_, pt33_) := tab_in a33 l33 rfl m33 v33
  have F33 := fun_mk (st := s_check_people) l33 c33 k33
  have b33 := F33.binds (ps := ["made"]) fun _ _ _ _ _ _ us hl => match us, hl with | [_], _ => rfl
  have F34 := fun_mk (st := s_check_alerts) l34 c34 k34
  have b34 := F34.binds (ps := ["made"]) fun _ _ _ _ _ _ us hl => match us, hl with | [_], _ => rfl
  have F35 := fun_mk (st := s_Setup_init) l35 c35 k35
  have F36 := fund_set l36 c36 k36 kwa1 kwa2 kwa3 kwa4 kwa5 kwa6 kwa7 kwa8
  have F37 := fun_mk (st := s_entry_of) l37 c37 k37
  have b37 := F37.binds (ps := ["entries", "name", "word"]) fun _ _ _ _ _ _ us hl => match us, hl with | [_, _, _], _ => rfl
  have F38 := fun_mk (st := s_window_of) l38 c38 k38
  have b38 := F38.binds (ps := ["made", "name"]) fun _ _ _ _ _ _ us hl => match us, hl with | [_, _], _ => rfl
  have F39 := fun_mk (st := s_spans_of) l39 c39 k39
  have b39 := F39.binds (ps := ["setup", "mutes"]) fun _ _ _ _ _ _ us hl => match us, hl with | [_, _], _ => rfl
  have F40 := fun_mk (st := s_unmuted_from) l40 c40 k40
  have b40 := F40.binds (ps := ["setup", "mutes", "time"]) fun _ _ _ _ _ _ us hl => match us, hl with | [_, _, _], _ => rfl
  have F41 := fun_mk (st := s_slack) l41 c41 k41
  have b41 := F41.binds (ps := ["setup"]) fun _ _ _ _ _ _ us hl => match us, hl with | [_], _ => rfl
  have F42 := fun_mk (st := s_Forcing_init) l42 c42 k42
  have b42 := F42.binds (ps := ["self", "setup", "settings"]) fun _ _ _ _ _ _ us hl => match us, hl with | [_, _, _], _ => rfl
  have F43 := fun_mk (st := s_Forcing_free_from) l43 c43 k43
  have b43 := F43.binds (ps := ["self", "time"]) fun _ _ _ _ _ _ us hl => match us, hl with | [_, _], _ => rfl
  have F44 := fun_mk (st := s_Forcing_forced_from) l44 c44 k44
  have b44 := F44.binds (ps := ["self", "due", "first"]) fun _ _ _ _ _ _ us hl => match us, hl with | [_, _, _], _ => rfl
  have F45 := fun_mk (st := s_Forcing_is_forced) l45 c45 k45
  have b45 := F45.binds (ps := ["self", "due", "first", "last"]) fun _ _ _ _ _ _ us hl => match us, hl with | [_, _, _, _], _ => rfl
  have F46 := fun_mk (st := s_is_forced) l46 c46 k46
  have b46 := F46.binds (ps := ["setup", "settings", "due", "first", "last"]) fun _ _ _ _ _ _ us hl => match us, hl with | [_, _, _, _, _], _ => rfl
  have F47 := fun_mk (st := s_l_law_layer) l47 c47 k47
  have b47 := F47.binds (ps := ["_law_part", "_law_crew", "_law_days"]) fun _ _ _ _ _ _ us hl => match us, hl with | [_, _, _], _ => rfl
  have F48 := fun_mk (st := s_l_law_rota) l48 c48 k48
  have b48 := F48.binds (ps := ["_law_cell_here", "_law_name", "_law_crew", "_law_days"]) fun _ _ _ _ _ _ us hl => match us, hl with | [_, _, _, _], _ => rfl
  have F49 := fun_mk (st := s_l_law_ladder) l49 c49 k49
  have b49 := F49.binds (ps := ["_law_draws_here", "_law_name", "_law_titles"]) fun _ _ _ _ _ _ us hl => match us, hl with | [_, _, _], _ => rfl
  have F50 := fun_mk (st := s_l_law_shutter) l50 c50 k50
  have b50 := F50.binds (ps := ["_law_draws_here", "_law_name", "_law_days"]) fun _ _ _ _ _ _ us hl => match us, hl with | [_, _, _], _ => rfl
  have F51 := fun_mk (st := s_l_law_holds) l51 c51 k51
  have b51 := F51.binds (ps := ["_law_cell_here", "_law_names", "_law_worths_here"]) fun _ _ _ _ _ _ us hl => match us, hl with | [_, _, _], _ => rfl
  have F52 := fun_mk (st := s_l_law_setup) l52 c52 k52
  have b52 := F52.binds (ps := ["_law_days", "_law_staff", "_law_rotas", "_law_ladders", "_law_shutters", "_law_tree", "_law_holds_here", "_law_books", "_law_numbers"]) fun _ _ _ _ _ _ us hl => match us, hl with | [_, _, _, _, _, _, _, _, _], _ => rfl
  have F53 := fun_mk (st := s_l_law_world) l53 c53 k53
  have b53 := F53.binds (ps := ["_law_script_here"]) fun _ _ _ _ _ _ us hl => match us, hl with | [_], _ => rfl
  have F54 := fun_mk (st := s_l_law_slack) l54 c54 k54
  have b54 := F54.binds (ps := ["_law_made"]) fun _ _ _ _ _ _ us hl => match us, hl with | [_], _ => rfl
  have F55 := fun_mk (st := s_l_law_muted) l55 c55 k55
  have b55 := F55.binds (ps := ["_law_made", "_law_mutes", "_law_time"]) fun _ _ _ _ _ _ us hl => match us, hl with | [_, _, _], _ => rfl
  have F56 := fun_mk (st := s_l_law_forced) l56 c56 k56
  have b56 := F56.binds (ps := ["_law_made", "_law_settings", "_law_due_here", "_law_first", "_law_last"]) fun _ _ _ _ _ _ us hl => match us, hl with | [_, _, _, _, _], _ => rfl
  have F57 := fun_mk (st := s_l_law_case) l57 c57 k57
  have b57 := F57.binds (ps := ["_law_script_here"]) fun _ _ _ _ _ _ us hl => match us, hl with | [_], _ => rfl
  have F58 := fun_mk (st := s_law) l58 c58 k58
  have G_BadSetup := fun_mk (st := (s_init 3)) yl_BadSetup yc_BadSetup yk_BadSetup
  have B_BadSetup := G_BadSetup.binds (ps := ["self", "part", "place"]) fun _ _ _ _ _ _ us hl => match us, hl with | [_, _, _], _ => rfl
  have T_BadSetup : OexC K K_BadSetup := ⟨⟨_, _, _, _, _, _, _, _, _, _, _, _, _, _, _, yL_BadSetup, by first | rfl | decide +kernel⟩, ys_BadSetup, ye_BadSetup, yT_BadSetup, yK_BadSetup⟩
  have G_InvalidArgument := fun_mk (st := (s_init 2)) yl_InvalidArgument yc_InvalidArgument yk_InvalidArgument
  have B_InvalidArgument := G_InvalidArgument.binds (ps := ["self", "name"]) fun _ _ _ _ _ _ us hl => match us, hl with | [_, _], _ => rfl
  have T_InvalidArgument : OexC K K_InvalidArgument := ⟨⟨_, _, _, _, _, _, _, _, _, _, _, _, _, _, _, yL_InvalidArgument, by first | rfl | decide +kernel⟩, ys_InvalidArgument, ye_InvalidArgument, yT_InvalidArgument, yK_InvalidArgument⟩
  refine ⟨PySem.W.fnOf "law" "law" (defArgs s_law) (defBody s_law) (defScope s_law) .none kV58 dc58 pm58 an58 cd58 ct58, [(ct12_, pt12_), (ct17_, pt17_), (ct19_, pt19_), (ct20_, pt20_), (ct21_, pt21_), (ct22_, pt22_), (ct23_, pt23_), (ct24_, pt24_), (ct25_, pt25_), (ct33_, pt33_)], spD K [pt12_, pt17_, pt19_, pt20_, pt21_, pt22_, pt23_, pt24_, pt25_, pt33_] R_law, (by intro p hp; simp only [List.mem_cons, List.not_mem_nil, or_false] at hp; rcases hp with rfl | rfl | rfl | rfl | rfl | rfl | rfl | rfl | rfl | rfl <;> first | exact T12.2 | exact T17.2 | exact T19.2 | exact T20.2 | exact T21.2 | exact T22.2 | exact T23.2 | exact T24.2 | exact T25.2 | exact T33.2), (by intro p hp; simp only [List.mem_cons, List.not_mem_nil, or_false] at hp; rcases hp with rfl | rfl | rfl | rfl | rfl | rfl | rfl | rfl | rfl | rfl <;> first | exact n12 | exact n17 | exact n19 | exact n20 | exact n21 | exact n22 | exact n23 | exact n24 | exact n25 | exact n33), (by intro p hp; simp only [List.mem_cons, List.not_mem_nil, or_false] at hp; rcases hp with rfl | rfl | rfl | rfl | rfl | rfl | rfl | rfl | rfl | rfl <;> first | exact T12.1 | exact T17.1 | exact T19.1 | exact T20.1 | exact T21.1 | exact T22.1 | exact T23.1 | exact T24.1 | exact T25.1 | exact T33.1), fun s v => .of_eq rfl, fun H a ns hl _ hT hS => ⟨DW.cut H, [.list (ns.map .int)], .bool true, DW.sub_cut H, ?_, DW.dp_script hS, ⟨ns, rfl, hl, rfl⟩, fun v F' H' _ hd => by cases hd; rfl⟩, fun base _ _ TBs => ?_⟩
  · intro p hp
    have hq : ∃ c, (c, p) ∈ ([(ct12_, pt12_), (ct17_, pt17_), (ct19_, pt19_), (ct20_, pt20_), (ct21_, pt21_), (ct22_, pt22_), (ct23_, pt23_), (ct24_, pt24_), (ct25_, pt25_), (ct33_, pt33_)] : List (Addr × Addr)) := by
      simp only [List.mem_cons, List.not_mem_nil, or_false] at hp
      rcases hp with rfl | rfl | rfl | rfl | rfl | rfl | rfl | rfl | rfl | rfl
      · exact ⟨ct12_, by simp⟩
      · exact ⟨ct17_, by simp⟩
      · exact ⟨ct19_, by simp⟩
      · exact ⟨ct20_, by simp⟩
      · exact ⟨ct21_, by simp⟩
      · exact ⟨ct22_, by simp⟩
      · exact ⟨ct23_, by simp⟩
      · exact ⟨ct24_, by simp⟩
      · exact ⟨ct25_, by simp⟩
      · exact ⟨ct33_, by simp⟩
    obtain ⟨c, hc⟩ := hq
    exact ⟨⟨#[], hT _ hc, by first | trivial | simp [TriplesOk] | decide⟩, fun q _ ps hps pos cv hcv => by rw [hT _ hc] at hps; cases hps; cases hcv⟩
  have D1 := ok_cell (P := l.prog) (w := w) (K := K) (mg := mg) (base := base) (Tb := [pt12_, pt17_, pt19_, pt20_, pt21_, pt22_, pt23_, pt24_, pt25_, pt33_]) F1 (PySem.W.mg_of X G a1) b1 Z 
  have D2 := ok_draws (P := l.prog) (w := w) (K := K) (mg := mg) (base := base) (Tb := [pt12_, pt17_, pt19_, pt20_, pt21_, pt22_, pt23_, pt24_, pt25_, pt33_]) F2 (PySem.W.mg_of X G a2) b2 Z 
  have D3 := WL.ok_same (P := l.prog) (w := w) (K := K) (mg := mg) (base := base) (Tb := [pt12_, pt17_, pt19_, pt20_, pt21_, pt22_, pt23_, pt24_, pt25_, pt33_]) F3 (PySem.W.mg_of X G a3) b3 Z 
  have D4 := WL.ok_words (P := l.prog) (w := w) (K := K) (mg := mg) (base := base) (Tb := [pt12_, pt17_, pt19_, pt20_, pt21_, pt22_, pt23_, pt24_, pt25_, pt33_]) F4 (PySem.W.mg_of X G a4) b4 Z 
  have D5 := WL.ok_worths (P := l.prog) (w := w) (K := K) (mg := mg) (base := base) (Tb := [pt12_, pt17_, pt19_, pt20_, pt21_, pt22_, pt23_, pt24_, pt25_, pt33_]) F5 (PySem.W.mg_of X G a5) b5 Z 
  have D6 := WL.ok_labels (P := l.prog) (w := w) (K := K) (mg := mg) (base := base) (Tb := [pt12_, pt17_, pt19_, pt20_, pt21_, pt22_, pt23_, pt24_, pt25_, pt33_]) F6 (PySem.W.mg_of X G a6) b6 Z 
  have D7 := WL.ok_matcher (P := l.prog) (w := w) (K := K) (mg := mg) (base := base) (Tb := [pt12_, pt17_, pt19_, pt20_, pt21_, pt22_, pt23_, pt24_, pt25_, pt33_]) F7 (PySem.W.mg_of X G a7) b7 Z 
  have D8 := WL.ok_value (P := l.prog) (w := w) (K := K) (mg := mg) (base := base) (Tb := [pt12_, pt17_, pt19_, pt20_, pt21_, pt22_, pt23_, pt24_, pt25_, pt33_]) F8 (PySem.W.mg_of X G a8) b8 Z 
  have D9 := WL.ok_lmatches (P := l.prog) (w := w) (K := K) (mg := mg) (base := base) (Tb := [pt12_, pt17_, pt19_, pt20_, pt21_, pt22_, pt23_, pt24_, pt25_, pt33_]) F9 (PySem.W.mg_of X G a9) b9 Z D8
  have D10 := WL.ok_lway (P := l.prog) (w := w) (K := K) (mg := mg) (base := base) (Tb := [pt12_, pt17_, pt19_, pt20_, pt21_, pt22_, pt23_, pt24_, pt25_, pt33_]) F10 (PySem.W.mg_of X G a10) b10 Z D9
  have D11 := WL.ok_route (P := l.prog) (w := w) (K := K) (mg := mg) (base := base) (Tb := [pt12_, pt17_, pt19_, pt20_, pt21_, pt22_, pt23_, pt24_, pt25_, pt33_]) F11 (PySem.W.mg_of X G a11) b11 Z D2 D7
  have D12 := ok_isv (P := l.prog) (w := w) (K := K) (mg := mg) (base := base) (Tb := [pt12_, pt17_, pt19_, pt20_, pt21_, pt22_, pt23_, pt24_, pt25_, pt33_]) F12 (PySem.W.mg_of X G a12) b12 Z a12 t12 (tab_gx (TBs (ct12_, pt12_) (by simp))) ⟨by simp, if_neg ne12⟩ ⟨_, PySem.W.mg_of X G c_LONGEST_WORD, ⟨_, rfl⟩⟩ ⟨_, PySem.W.mg_of X G c_CHARACTERS, ⟨_, rfl⟩⟩
  have D13 := ok_isn (P := l.prog) (w := w) (K := K) (mg := mg) (base := base) (Tb := [pt12_, pt17_, pt19_, pt20_, pt21_, pt22_, pt23_, pt24_, pt25_, pt33_]) F13 (PySem.W.mg_of X G a13) b13 Z ⟨_, PySem.W.mg_of X G c_LETTERS, ⟨_, rfl⟩⟩ D12
  have D14 := ok_dur (P := l.prog) (w := w) (K := K) (mg := mg) (base := base) (Tb := [pt12_, pt17_, pt19_, pt20_, pt21_, pt22_, pt23_, pt24_, pt25_, pt33_]) F14 (PySem.W.mg_of X G a14) b14 Z 
  have D15 := ok_psn (P := l.prog) (w := w) (K := K) (mg := mg) (base := base) (Tb := [pt12_, pt17_, pt19_, pt20_, pt21_, pt22_, pt23_, pt24_, pt25_, pt33_]) F15 (PySem.W.mg_of X G a15) b15 Z 
  have D16 := ok_span (P := l.prog) (w := w) (K := K) (mg := mg) (base := base) (Tb := [pt12_, pt17_, pt19_, pt20_, pt21_, pt22_, pt23_, pt24_, pt25_, pt33_]) F16 (PySem.W.mg_of X G a16) b16 Z 
  have D17 := ok_lay (P := l.prog) (w := w) (K := K) (mg := mg) (base := base) (Tb := [pt12_, pt17_, pt19_, pt20_, pt21_, pt22_, pt23_, pt24_, pt25_, pt33_]) F17 (PySem.W.mg_of X G a17) b17 Z a17 t17 (tab_gx (TBs (ct17_, pt17_) (by simp))) ⟨by simp, if_neg ne17⟩ ⟨_, PySem.W.mg_of X G c_LAST_TIME, ⟨_, rfl⟩⟩ D16
  have D18 := ok_sti (P := l.prog) (w := w) (K := K) (mg := mg) (base := base) (Tb := [pt12_, pt17_, pt19_, pt20_, pt21_, pt22_, pt23_, pt24_, pt25_, pt33_]) F18 (PySem.W.mg_of X G a18) b18 Z ⟨_, PySem.W.mg_of X G c_LAST_TIME, ⟨_, rfl⟩⟩
  have D19 := ok_sch (P := l.prog) (w := w) (K := K) (mg := mg) (base := base) (Tb := [pt12_, pt17_, pt19_, pt20_, pt21_, pt22_, pt23_, pt24_, pt25_, pt33_]) F19 (PySem.W.mg_of X G a19) b19 Z a19 t19 (tab_gx (TBs (ct19_, pt19_) (by simp))) ⟨by simp, if_neg ne19⟩ D17 D18
  have D20 := ok_pol (P := l.prog) (w := w) (K := K) (mg := mg) (base := base) (Tb := [pt12_, pt17_, pt19_, pt20_, pt21_, pt22_, pt23_, pt24_, pt25_, pt33_]) F20 (PySem.W.mg_of X G a20) b20 Z a20 t20 (tab_gx (TBs (ct20_, pt20_) (by simp))) ⟨by simp, if_neg ne20⟩
  have D21 := ok_win (P := l.prog) (w := w) (K := K) (mg := mg) (base := base) (Tb := [pt12_, pt17_, pt19_, pt20_, pt21_, pt22_, pt23_, pt24_, pt25_, pt33_]) F21 (PySem.W.mg_of X G a21) b21 Z a21 t21 (tab_gx (TBs (ct21_, pt21_) (by simp))) ⟨by simp, if_neg ne21⟩ D16
  have D22 := ok_mat (P := l.prog) (w := w) (K := K) (mg := mg) (base := base) (Tb := [pt12_, pt17_, pt19_, pt20_, pt21_, pt22_, pt23_, pt24_, pt25_, pt33_]) F22 (PySem.W.mg_of X G a22) b22 Z a22 t22 (tab_gx (TBs (ct22_, pt22_) (by simp))) ⟨by simp, if_neg ne22⟩ ⟨_, PySem.W.mg_of X G c_MOST_VALUES, ⟨_, rfl⟩⟩ D12 D13
  have D23 := ok_mts (P := l.prog) (w := w) (K := K) (mg := mg) (base := base) (Tb := [pt12_, pt17_, pt19_, pt20_, pt21_, pt22_, pt23_, pt24_, pt25_, pt33_]) F23 (PySem.W.mg_of X G a23) b23 Z a23 t23 (tab_gx (TBs (ct23_, pt23_) (by simp))) ⟨by simp, if_neg ne23⟩ ⟨_, PySem.W.mg_of X G c_RESERVED, ⟨_, rfl⟩⟩ D22
  have D24 := ok_ans (P := l.prog) (w := w) (K := K) (mg := mg) (base := base) (Tb := [pt12_, pt17_, pt19_, pt20_, pt21_, pt22_, pt23_, pt24_, pt25_, pt33_]) F24 (PySem.W.mg_of X G a24) b24 Z a24 t24 (tab_gx (TBs (ct24_, pt24_) (by simp))) ⟨by simp, if_neg ne24⟩ ⟨_, PySem.W.mg_of X G c_RESERVED, ⟨_, rfl⟩⟩ D13
  have D25 := ok_stt (P := l.prog) (w := w) (K := K) (mg := mg) (base := base) (Tb := [pt12_, pt17_, pt19_, pt20_, pt21_, pt22_, pt23_, pt24_, pt25_, pt33_]) F25 (PySem.W.mg_of X G a25) b25 Z a25 t25 (tab_gx (TBs (ct25_, pt25_) (by simp))) ⟨by simp, if_neg ne25⟩ D24 D14
  have D26 := ok_rou (P := l.prog) (w := w) (K := K) (mg := mg) (base := base) (Tb := [pt12_, pt17_, pt19_, pt20_, pt21_, pt22_, pt23_, pt24_, pt25_, pt33_]) F26 (PySem.W.mg_of X G a26) b26 Z D25 D23
  have D27 := ok_hob (P := l.prog) (w := w) (K := K) (mg := mg) (base := base) (Tb := [pt12_, pt17_, pt19_, pt20_, pt21_, pt22_, pt23_, pt24_, pt25_, pt33_]) F27 (PySem.W.mg_of X G a27) b27 Z D24 D23
  have D28 := ok_sto (P := l.prog) (w := w) (K := K) (mg := mg) (base := base) (Tb := [pt12_, pt17_, pt19_, pt20_, pt21_, pt22_, pt23_, pt24_, pt25_, pt33_]) F28 (PySem.W.mg_of X G a28) b28 Z D14
  have D29 := ok_nms (P := l.prog) (w := w) (K := K) (mg := mg) (base := base) (Tb := [pt12_, pt17_, pt19_, pt20_, pt21_, pt22_, pt23_, pt24_, pt25_, pt33_]) F29 (PySem.W.mg_of X G a29) b29 Z 
  have D30 := ok_ca (P := l.prog) (w := w) (K := K) (mg := mg) (base := base) (Tb := [pt12_, pt17_, pt19_, pt20_, pt21_, pt22_, pt23_, pt24_, pt25_, pt33_]) F30 (PySem.W.mg_of X G a30) b30 Z (xi_B (P := l.prog) (w := w) (mg := mg) (base := base) (PySem.W.mg_of X G ya_BadSetup) G_BadSetup B_BadSetup T_BadSetup yn_BadSetup yh_BadSetup yi_BadSetup yt_BadSetup)
  have D31 := df_cnT (P := l.prog) (w := w) (K := K) (mg := mg) (base := base) (Tb := [pt12_, pt17_, pt19_, pt20_, pt21_, pt22_, pt23_, pt24_, pt25_, pt33_]) F31 (PySem.W.mg_of X G a31) b31 Z (xi_B (P := l.prog) (w := w) (mg := mg) (base := base) (PySem.W.mg_of X G ya_BadSetup) G_BadSetup B_BadSetup T_BadSetup yn_BadSetup yh_BadSetup yi_BadSetup yt_BadSetup) D13
  have D32 := ok_cnP (P := l.prog) (w := w) (K := K) (mg := mg) (base := base) (Tb := [pt12_, pt17_, pt19_, pt20_, pt21_, pt22_, pt23_, pt24_, pt25_, pt33_]) F31 (PySem.W.mg_of X G a31) b31 Z (xi_B (P := l.prog) (w := w) (mg := mg) (base := base) (PySem.W.mg_of X G ya_BadSetup) G_BadSetup B_BadSetup T_BadSetup yn_BadSetup yh_BadSetup yi_BadSetup yt_BadSetup) D13 D15
  have D33 := ok_cp (P := l.prog) (w := w) (K := K) (mg := mg) (base := base) (Tb := [pt12_, pt17_, pt19_, pt20_, pt21_, pt22_, pt23_, pt24_, pt25_, pt33_]) F33 (PySem.W.mg_of X G a33) b33 Z a33 t33 (TBs (ct33_, pt33_) (by simp)) (by simp) (if_pos rfl) ⟨xq_wg_Setup, xq_wh_Setup, xq_wp_Setup, ws_Setup⟩ wn_Setup_week wn_Setup_people wn_Setup_schedules wn_Setup_policies wn_Setup_windows D31 D32 D29 (PySem.W.mg_of X G a15) D19 D20 D21
  have D34 := ok_al (P := l.prog) (w := w) (K := K) (mg := mg) (base := base) (Tb := [pt12_, pt17_, pt19_, pt20_, pt21_, pt22_, pt23_, pt24_, pt25_, pt33_]) F34 (PySem.W.mg_of X G a34) b34 Z (xi_B (P := l.prog) (w := w) (mg := mg) (base := base) (PySem.W.mg_of X G ya_BadSetup) G_BadSetup B_BadSetup T_BadSetup yn_BadSetup yh_BadSetup yi_BadSetup yt_BadSetup) ⟨_, PySem.W.mg_of X G c_MOST_ROUTES, ⟨_, rfl⟩⟩ ⟨_, PySem.W.mg_of X G c_MOST_HOLDBACKS, ⟨_, rfl⟩⟩ ⟨xq_wg_Setup, xq_wh_Setup, xq_wp_Setup, ws_Setup⟩ wn_Setup_routes wn_Setup_holdbacks wn_Setup_policies wn_Setup_windows D29 D26 D27
  have D35 := mk_suR (P := l.prog) (w := w) (K := K) (mg := mg) (base := base) (Tb := [pt12_, pt17_, pt19_, pt20_, pt21_, pt22_, pt23_, pt24_, pt25_, pt33_]) F35 ⟨xq_wm_Setup, a35, xq_f35, wk_Setup⟩ Z (PySem.W.mg_of X G wa_Setup) ⟨xq_wg_Setup, xq_wh_Setup, xq_wp_Setup, ws_Setup⟩ wn_Setup_week wn_Setup_people wn_Setup_schedules wn_Setup_policies wn_Setup_windows wn_Setup_routes wn_Setup_holdbacks wn_Setup_groups wn_Setup_replicas wn_Setup_pause wn_Setup_down wn_Setup_store wn_Setup_lookback
  have D36 := ok_setK (P := l.prog) (w := w) (K := K) (mg := mg) (base := base) (Tb := [pt12_, pt17_, pt19_, pt20_, pt21_, pt22_, pt23_, pt24_, pt25_, pt33_]) F36 (PySem.W.mg_of X G a36) Z  ⟨xq_wg_Setup, xq_wh_Setup, xq_wp_Setup, ws_Setup⟩ wn_Setup_week wn_Setup_people wn_Setup_schedules wn_Setup_policies wn_Setup_windows wn_Setup_routes wn_Setup_holdbacks wn_Setup_groups wn_Setup_replicas wn_Setup_pause wn_Setup_down wn_Setup_store wn_Setup_lookback D35 D30 D14 D28 D33 D34 D32 (PySem.W.mg_of X G ga_is_group)
  have D37 := ok_eo (P := l.prog) (w := w) (K := K) (mg := mg) (base := base) (Tb := [pt12_, pt17_, pt19_, pt20_, pt21_, pt22_, pt23_, pt24_, pt25_, pt33_]) F37 (PySem.W.mg_of X G a37) b37 Z (xi_A (P := l.prog) (w := w) (mg := mg) (base := base) (PySem.W.mg_of X G ya_InvalidArgument) G_InvalidArgument B_InvalidArgument T_InvalidArgument yn_InvalidArgument yi_InvalidArgument yt_InvalidArgument)
  have D38 := ok_wo (P := l.prog) (w := w) (K := K) (mg := mg) (base := base) (Tb := [pt12_, pt17_, pt19_, pt20_, pt21_, pt22_, pt23_, pt24_, pt25_, pt33_]) F38 (PySem.W.mg_of X G a38) b38 Z ⟨xq_wg_Setup, xq_wh_Setup, xq_wp_Setup, ws_Setup⟩ wn_Setup_windows D37
  have D39 := ok_so (P := l.prog) (w := w) (K := K) (mg := mg) (base := base) (Tb := [pt12_, pt17_, pt19_, pt20_, pt21_, pt22_, pt23_, pt24_, pt25_, pt33_]) F39 (PySem.W.mg_of X G a39) b39 Z D38
  have D40 := ok_unm (P := l.prog) (w := w) (K := K) (mg := mg) (base := base) (Tb := [pt12_, pt17_, pt19_, pt20_, pt21_, pt22_, pt23_, pt24_, pt25_, pt33_]) F40 (PySem.W.mg_of X G a40) b40 Z ⟨xq_wg_Setup, xq_wh_Setup, xq_wp_Setup, ws_Setup⟩ wn_Setup_week D39
  have D41 := ok_slk (P := l.prog) (w := w) (K := K) (mg := mg) (base := base) (Tb := [pt12_, pt17_, pt19_, pt20_, pt21_, pt22_, pt23_, pt24_, pt25_, pt33_]) F41 (PySem.W.mg_of X G a41) b41 Z ⟨xq_wg_Setup, xq_wh_Setup, xq_wp_Setup, ws_Setup⟩ wn_Setup_replicas wn_Setup_pause
  have D42 := mk_fi (P := l.prog) (w := w) (K := K) (mg := mg) (base := base) (Tb := [pt12_, pt17_, pt19_, pt20_, pt21_, pt22_, pt23_, pt24_, pt25_, pt33_]) F42 ⟨xq_wm_Forcing, a42, xq_f42, wk_Forcing⟩ b42 Z (PySem.W.mg_of X G wa_Forcing) ⟨xq_wg_Forcing, xq_wh_Forcing, xq_wp_Forcing, ws_Forcing⟩ wn_Forcing__setup wn_Forcing__mutes wn_Forcing__slack wn_Forcing__ends ⟨xq_wg_Setup, xq_wh_Setup, xq_wp_Setup, ws_Setup⟩ wn_Setup_week D41
  have D43 := ok_freW (P := l.prog) (w := w) (K := K) (mg := mg) (base := base) (Tb := [pt12_, pt17_, pt19_, pt20_, pt21_, pt22_, pt23_, pt24_, pt25_, pt33_]) F43 ⟨a43, xq_f43, k43⟩ b43 Z ⟨xq_wg_Forcing, xq_wh_Forcing, xq_wp_Forcing, ws_Forcing⟩ wn_Forcing__setup wn_Forcing__mutes wn_Forcing__slack wn_Forcing__ends ⟨xq_wg_Setup, xq_wh_Setup, xq_wp_Setup, ws_Setup⟩ wn_Setup_week D40
  have D44 := ok_fofW (P := l.prog) (w := w) (K := K) (mg := mg) (base := base) (Tb := [pt12_, pt17_, pt19_, pt20_, pt21_, pt22_, pt23_, pt24_, pt25_, pt33_]) F44 ⟨a44, xq_f44, k44⟩ b44 Z ⟨xq_wg_Forcing, xq_wh_Forcing, xq_wp_Forcing, ws_Forcing⟩ wn_Forcing__setup wn_Forcing__mutes wn_Forcing__slack wn_Forcing__ends ⟨xq_wg_Setup, xq_wh_Setup, xq_wp_Setup, ws_Setup⟩ wn_Setup_week D43
  have D45 := ok_ifoW (P := l.prog) (w := w) (K := K) (mg := mg) (base := base) (Tb := [pt12_, pt17_, pt19_, pt20_, pt21_, pt22_, pt23_, pt24_, pt25_, pt33_]) F45 ⟨a45, xq_f45, k45⟩ b45 Z ⟨xq_wg_Forcing, xq_wh_Forcing, xq_wp_Forcing, ws_Forcing⟩ wn_Forcing__setup wn_Forcing__mutes wn_Forcing__slack wn_Forcing__ends ⟨xq_wg_Setup, xq_wh_Setup, xq_wp_Setup, ws_Setup⟩ wn_Setup_week D44
  have D46 := ok_isfW (P := l.prog) (w := w) (K := K) (mg := mg) (base := base) (Tb := [pt12_, pt17_, pt19_, pt20_, pt21_, pt22_, pt23_, pt24_, pt25_, pt33_]) F46 (PySem.W.mg_of X G a46) b46 Z ⟨xq_wg_Forcing, xq_wh_Forcing, xq_wp_Forcing, ws_Forcing⟩ wn_Forcing__setup wn_Forcing__mutes wn_Forcing__slack wn_Forcing__ends ⟨xq_wg_Setup, xq_wh_Setup, xq_wp_Setup, ws_Setup⟩ wn_Setup_week D42 D45
  have D47 := ok_layer (P := l.prog) (w := w) (K := K) (mg := mg) (base := base) (Tb := [pt12_, pt17_, pt19_, pt20_, pt21_, pt22_, pt23_, pt24_, pt25_, pt33_]) F47 (PySem.W.mg_of X G a47) b47 Z 
  have D48 := ok_rota (P := l.prog) (w := w) (K := K) (mg := mg) (base := base) (Tb := [pt12_, pt17_, pt19_, pt20_, pt21_, pt22_, pt23_, pt24_, pt25_, pt33_]) F48 (PySem.W.mg_of X G a48) b48 Z D2 D47
  have D49 := ok_lad (P := l.prog) (w := w) (K := K) (mg := mg) (base := base) (Tb := [pt12_, pt17_, pt19_, pt20_, pt21_, pt22_, pt23_, pt24_, pt25_, pt33_]) F49 (PySem.W.mg_of X G a49) b49 Z 
  have D50 := ok_shu (P := l.prog) (w := w) (K := K) (mg := mg) (base := base) (Tb := [pt12_, pt17_, pt19_, pt20_, pt21_, pt22_, pt23_, pt24_, pt25_, pt33_]) F50 (PySem.W.mg_of X G a50) b50 Z 
  have D51 := ok_hol (P := l.prog) (w := w) (K := K) (mg := mg) (base := base) (Tb := [pt12_, pt17_, pt19_, pt20_, pt21_, pt22_, pt23_, pt24_, pt25_, pt33_]) F51 (PySem.W.mg_of X G a51) b51 Z D2 D7
  have D52 := ok_lse (P := l.prog) (w := w) (K := K) (mg := mg) (base := base) (Tb := [pt12_, pt17_, pt19_, pt20_, pt21_, pt22_, pt23_, pt24_, pt25_, pt33_]) F52 (PySem.W.mg_of X G a52) b52 Z (PySem.W.mg_of X G a15) ⟨⟨_, _, _, kwb1, rfl, rfl, Nat.le_of_ble_eq_true rfl, .nil⟩, ⟨_, _, _, kwb2, rfl, rfl, Nat.le_of_ble_eq_true rfl, .nil⟩, ⟨_, _, _, kwb3, rfl, rfl, Nat.le_of_ble_eq_true rfl, .nil⟩, ⟨_, _, _, kwb4, rfl, rfl, Nat.le_of_ble_eq_true rfl, .cons ⟨_, rfl⟩ (.cons ⟨_, rfl⟩ (.cons ⟨_, rfl⟩ (.cons ⟨_, rfl⟩ .nil)))⟩⟩ D36
  have D53 := ok_wld (P := l.prog) (w := w) (K := K) (mg := mg) (base := base) (Tb := [pt12_, pt17_, pt19_, pt20_, pt21_, pt22_, pt23_, pt24_, pt25_, pt33_]) F53 (PySem.W.mg_of X G a53) b53 Z D1 D2 D4 D5 D48 D49 D50 D11 D51 D52
  have D54 := ok_lsl (P := l.prog) (w := w) (K := K) (mg := mg) (base := base) (Tb := [pt12_, pt17_, pt19_, pt20_, pt21_, pt22_, pt23_, pt24_, pt25_, pt33_]) F54 (PySem.W.mg_of X G a54) b54 Z ⟨xq_wg_Setup, xq_wh_Setup, xq_wp_Setup, ws_Setup⟩ wn_Setup_replicas wn_Setup_pause
  have D55 := ok_lmu (P := l.prog) (w := w) (K := K) (mg := mg) (base := base) (Tb := [pt12_, pt17_, pt19_, pt20_, pt21_, pt22_, pt23_, pt24_, pt25_, pt33_]) F55 (PySem.W.mg_of X G a55) b55 Z ⟨xq_wg_Setup, xq_wh_Setup, xq_wp_Setup, ws_Setup⟩ wn_Setup_week wn_Setup_windows
  have D56 := ok_lfo (P := l.prog) (w := w) (K := K) (mg := mg) (base := base) (Tb := [pt12_, pt17_, pt19_, pt20_, pt21_, pt22_, pt23_, pt24_, pt25_, pt33_]) F56 (PySem.W.mg_of X G a56) b56 Z D54 D55
  have D57 := ok_cse (P := l.prog) (w := w) (K := K) (mg := mg) (base := base) (Tb := [pt12_, pt17_, pt19_, pt20_, pt21_, pt22_, pt23_, pt24_, pt25_, pt33_]) F57 (PySem.W.mg_of X G a57) b57 Z ⟨xq_wg_Setup, xq_wh_Setup, xq_wp_Setup, ws_Setup⟩ wn_Setup_routes D1 D2 D6 D10 D53
  exact ok_law (Tb := [pt12_, pt17_, pt19_, pt20_, pt21_, pt22_, pt23_, pt24_, pt25_, pt33_]) F58 Z ⟨xq_wg_Setup, xq_wh_Setup, xq_wp_Setup, ws_Setup⟩ wn_Setup_routes D2 D3 D41 D54 D56 D57 D46
end K68
open PySem PySem.W PyProof.Rows
set_option maxHeartbeats 0 in
theorem PySem.Challenge.cw_watchfloor_k68_analysis_forced_by_ticks_holds : PySem.Challenge.rw_watchfloor_k68_analysis_forced_by_ticks.Holds := by
  w_on; o_law; k_head; (case hw => w_witness2)
  k_fill
  refine LamX.walk_ofTop (l := PySem.Challenge.rw_watchfloor_k68_analysis_forced_by_ticks) (n := 63) (k := 17) (x := "_law_script_here") (CX := fun _ => L2.CX0) rfl (by decide) rfl ⟨rfl, by decide, by decide⟩ (fun w h Y => by first | exact PySem.W.kIn_of Y | exact PySem.W.km_in_of Y) ?F (fun _ _ _ _ _ h => h)
  case F =>
    intro w mg fa h Y KX G hmg TT
    letI iLT : DW.LamTabs := ⟨fun _ => none⟩
    refine' K68.all_mk KX G hmg ?a1 ?l1 ?c1 ?k1 ?a2 ?l2 ?c2 ?k2 ?a3 ?l3 ?c3 ?k3 ?a4 ?l4 ?c4 ?k4 ?a5 ?l5 ?c5 ?k5 ?a6 ?l6 ?c6 ?k6 ?a7 ?l7 ?c7 ?k7 ?a8 ?l8 ?c8 ?k8 ?a9 ?l9 ?c9 ?k9 ?a10 ?l10 ?c10 ?k10 ?a11 ?l11 ?c11 ?k11 ?a12 ?l12 ?c12 ?k12 ?a13 ?l13 ?c13 ?k13 ?a14 ?l14 ?c14 ?k14 ?a15 ?l15 ?c15 ?k15 ?a16 ?l16 ?c16 ?k16 ?a17 ?l17 ?c17 ?k17 ?a18 ?l18 ?c18 ?k18 ?a19 ?l19 ?c19 ?k19 ?a20 ?l20 ?c20 ?k20 ?a21 ?l21 ?c21 ?k21 ?a22 ?l22 ?c22 ?k22 ?a23 ?l23 ?c23 ?k23 ?a24 ?l24 ?c24 ?k24 ?a25 ?l25 ?c25 ?k25 ?a26 ?l26 ?c26 ?k26 ?a27 ?l27 ?c27 ?k27 ?a28 ?l28 ?c28 ?k28 ?a29 ?l29 ?c29 ?k29 ?a30 ?l30 ?c30 ?k30 ?a31 ?l31 ?c31 ?k31 ?a33 ?l33 ?c33 ?k33 ?a34 ?l34 ?c34 ?k34 ?a35 ?l35 ?c35 ?k35 ?xq_f35 ?a36 ?l36 ?c36 ?k36 ?a37 ?l37 ?c37 ?k37 ?a38 ?l38 ?c38 ?k38 ?a39 ?l39 ?c39 ?k39 ?a40 ?l40 ?c40 ?k40 ?a41 ?l41 ?c41 ?k41 ?a42 ?l42 ?c42 ?k42 ?xq_f42 ?a43 ?l43 ?c43 ?k43 ?xq_f43 ?a44 ?l44 ?c44 ?k44 ?xq_f44 ?a45 ?l45 ?c45 ?k45 ?xq_f45 ?a46 ?l46 ?c46 ?k46 ?a47 ?l47 ?c47 ?k47 ?a48 ?l48 ?c48 ?k48 ?a49 ?l49 ?c49 ?k49 ?a50 ?l50 ?c50 ?k50 ?a51 ?l51 ?c51 ?k51 ?a52 ?l52 ?c52 ?k52 ?a53 ?l53 ?c53 ?k53 ?a54 ?l54 ?c54 ?k54 ?a55 ?l55 ?c55 ?k55 ?a56 ?l56 ?c56 ?k56 ?a57 ?l57 ?c57 ?k57 ?a58 ?l58 ?c58 ?k58 ?m12 ?v12 ?n12 ?m17 ?v17 ?n17 ?m19 ?v19 ?n19 ?m20 ?v20 ?n20 ?m21 ?v21 ?n21 ?m22 ?v22 ?n22 ?m23 ?v23 ?n23 ?m24 ?v24 ?n24 ?m25 ?v25 ?n25 ?m33 ?v33 ?n33 ?z1 ?z2 ?z3 ?z4 ?z5 ?z6 ?z7 ?z8 ?z9 ?z10 ?z11 ?z12 ?z13 ?z14 ?z15 ?z16 ?z17 ?z18 ?z19 ?z20 ?ne12 ?ne17 ?ne19 ?ne20 ?ne21 ?ne22 ?ne23 ?ne24 ?ne25 ?kwa1 ?kwa2 ?kwa3 ?kwa4 ?kwa5 ?kwa6 ?kwa7 ?kwa8 ?kwb1 ?kwb2 ?kwb3 ?kwb4 ?ga_is_group ?c_LAST_TIME ?c_LONGEST_WORD ?c_MOST_HOLDBACKS ?c_MOST_ROUTES ?c_MOST_VALUES ?c_CHARACTERS ?c_LETTERS ?c_RESERVED ?wa_Forcing ?xq_wg_Forcing ?xq_wh_Forcing ?xq_wp_Forcing ?ws_Forcing ?xq_wm_Forcing ?wk_Forcing ?wa_Setup ?xq_wg_Setup ?xq_wh_Setup ?xq_wp_Setup ?ws_Setup ?xq_wm_Setup ?wk_Setup ?wn_Forcing__ends ?wn_Forcing__mutes ?wn_Forcing__setup ?wn_Forcing__slack ?wn_Setup_down ?wn_Setup_groups ?wn_Setup_holdbacks ?wn_Setup_lookback ?wn_Setup_pause ?wn_Setup_people ?wn_Setup_policies ?wn_Setup_replicas ?wn_Setup_routes ?wn_Setup_schedules ?wn_Setup_store ?wn_Setup_week ?wn_Setup_windows ?ya_BadSetup ?yL_BadSetup ?ys_BadSetup ?yn_BadSetup ?yi_BadSetup ?yt_BadSetup ?yl_BadSetup ?yc_BadSetup ?yk_BadSetup ?yK_BadSetup ?ye_BadSetup ?yT_BadSetup ?yh_BadSetup ?ya_InvalidArgument ?yL_InvalidArgument ?ys_InvalidArgument ?yn_InvalidArgument ?yi_InvalidArgument ?yt_InvalidArgument ?yl_InvalidArgument ?yc_InvalidArgument ?yk_InvalidArgument ?yK_InvalidArgument ?ye_InvalidArgument ?yT_InvalidArgument (TT _ "is_value" _ _ ?r12 (DW.tab_in ?a12 ?l12 rfl ?m12 ?v12)) (TT _ "is_layer" _ _ ?r17 (DW.tab_in ?a17 ?l17 rfl ?m17 ?v17)) (TT _ "is_schedule" _ _ ?r19 (DW.tab_in ?a19 ?l19 rfl ?m19 ?v19)) (TT _ "is_policy" _ _ ?r20 (DW.tab_in ?a20 ?l20 rfl ?m20 ?v20)) (TT _ "is_window" _ _ ?r21 (DW.tab_in ?a21 ?l21 rfl ?m21 ?v21)) (TT _ "is_matcher" _ _ ?r22 (DW.tab_in ?a22 ?l22 rfl ?m22 ?v22)) (TT _ "are_matchers" _ _ ?r23 (DW.tab_in ?a23 ?l23 rfl ?m23 ?v23)) (TT _ "are_names" _ _ ?r24 (DW.tab_in ?a24 ?l24 rfl ?m24 ?v24)) (TT _ "are_settings" _ _ ?r25 (DW.tab_in ?a25 ?l25 rfl ?m25 ?v25)) (TT _ "check_people" _ _ ?r33 (DW.tab_in ?a33 ?l33 rfl ?m33 ?v33))
    (case wa_Forcing => k_is); (case wa_Setup => k_is); (case a1 => k_is); (case l1 => k_is); (case c1 => k_is); (case k1 => k_is); (case a2 => k_is); (case l2 => k_is); (case c2 => k_is); (case k2 => k_is); (case a3 => k_is); (case l3 => k_is); (case c3 => k_is); (case k3 => k_is); (case a4 => k_is); (case l4 => k_is); (case c4 => k_is); (case k4 => k_is); (case a5 => k_is); (case l5 => k_is); (case c5 => k_is); (case k5 => k_is); (case a6 => k_is); (case l6 => k_is); (case c6 => k_is); (case k6 => k_is); (case a7 => k_is); (case l7 => k_is); (case c7 => k_is); (case k7 => k_is); (case a8 => k_is); (case l8 => k_is); (case c8 => k_is); (case k8 => k_is); (case a9 => k_is); (case l9 => k_is); (case c9 => k_is); (case k9 => k_is); (case a10 => k_is); (case l10 => k_is); (case c10 => k_is); (case k10 => k_is); (case a11 => k_is); (case l11 => k_is); (case c11 => k_is); (case k11 => k_is); (case a12 => k_is); (case l12 => k_is); (case c12 => k_is); (case k12 => k_is); (case a13 => k_is); (case l13 => k_is); (case c13 => k_is); (case k13 => k_is); (case a14 => k_is); (case l14 => k_is); (case c14 => k_is); (case k14 => k_is); (case a15 => k_is); (case l15 => k_is); (case c15 => k_is); (case k15 => k_is); (case a16 => k_is); (case l16 => k_is); (case c16 => k_is); (case k16 => k_is); (case a17 => k_is); (case l17 => k_is); (case c17 => k_is); (case k17 => k_is); (case a18 => k_is); (case l18 => k_is); (case c18 => k_is); (case k18 => k_is); (case a19 => k_is); (case l19 => k_is); (case c19 => k_is); (case k19 => k_is); (case a20 => k_is); (case l20 => k_is); (case c20 => k_is); (case k20 => k_is); (case a21 => k_is); (case l21 => k_is); (case c21 => k_is); (case k21 => k_is); (case a22 => k_is); (case l22 => k_is); (case c22 => k_is); (case k22 => k_is); (case a23 => k_is); (case l23 => k_is); (case c23 => k_is); (case k23 => k_is); (case a24 => k_is); (case l24 => k_is); (case c24 => k_is); (case k24 => k_is); (case a25 => k_is); (case l25 => k_is); (case c25 => k_is); (case k25 => k_is); (case a26 => k_is); (case l26 => k_is); (case c26 => k_is); (case k26 => k_is); (case a27 => k_is); (case l27 => k_is); (case c27 => k_is); (case k27 => k_is); (case a28 => k_is); (case l28 => k_is); (case c28 => k_is); (case k28 => k_is); (case a29 => k_is); (case l29 => k_is); (case c29 => k_is); (case k29 => k_is); (case a30 => k_is); (case l30 => k_is); (case c30 => k_is); (case k30 => k_is); (case a31 => k_is); (case l31 => k_is); (case c31 => k_is); (case k31 => k_is); (case a33 => k_is); (case l33 => k_is); (case c33 => k_is); (case k33 => k_is); (case a34 => k_is); (case l34 => k_is); (case c34 => k_is); (case k34 => k_is); (case a35 => k_is); (case l35 => k_is); (case c35 => k_is); (case k35 => k_is); (case xq_f35 => first | kernel_rfl | rfl | k_is); (case a36 => k_is); (case l36 => k_is); (case c36 => k_is); (case k36 => k_is); (case a37 => k_is); (case l37 => k_is); (case c37 => k_is); (case k37 => k_is); (case a38 => k_is); (case l38 => k_is); (case c38 => k_is); (case k38 => k_is); (case a39 => k_is); (case l39 => k_is); (case c39 => k_is); (case k39 => k_is); (case a40 => k_is); (case l40 => k_is); (case c40 => k_is); (case k40 => k_is); (case a41 => k_is); (case l41 => k_is); (case c41 => k_is); (case k41 => k_is); (case a42 => k_is); (case l42 => k_is); (case c42 => k_is); (case k42 => k_is); (case xq_f42 => first | kernel_rfl | rfl | k_is); (case a43 => k_is); (case l43 => k_is); (case c43 => k_is); (case k43 => k_is); (case xq_f43 => first | kernel_rfl | rfl | k_is); (case a44 => k_is); (case l44 => k_is); (case c44 => k_is); (case k44 => k_is); (case xq_f44 => first | kernel_rfl | rfl | k_is); (case a45 => k_is); (case l45 => k_is); (case c45 => k_is); (case k45 => k_is); (case xq_f45 => first | kernel_rfl | rfl | k_is); (case a46 => k_is); (case l46 => k_is); (case c46 => k_is); (case k46 => k_is); (case a47 => k_is); (case l47 => k_is); (case c47 => k_is); (case k47 => k_is); (case a48 => k_is); (case l48 => k_is); (case c48 => k_is); (case k48 => k_is); (case a49 => k_is); (case l49 => k_is); (case c49 => k_is); (case k49 => k_is); (case a50 => k_is); (case l50 => k_is); (case c50 => k_is); (case k50 => k_is); (case a51 => k_is); (case l51 => k_is); (case c51 => k_is); (case k51 => k_is); (case a52 => k_is); (case l52 => k_is); (case c52 => k_is); (case k52 => k_is); (case a53 => k_is); (case l53 => k_is); (case c53 => k_is); (case k53 => k_is); (case a54 => k_is); (case l54 => k_is); (case c54 => k_is); (case k54 => k_is); (case a55 => k_is); (case l55 => k_is); (case c55 => k_is); (case k55 => k_is); (case a56 => k_is); (case l56 => k_is); (case c56 => k_is); (case k56 => k_is); (case a57 => k_is); (case l57 => k_is); (case c57 => k_is); (case k57 => k_is); (case a58 => k_is); (case l58 => k_is); (case c58 => k_is); (case k58 => k_is); (case m12 => k_is); (case v12 => first | rfl | k_is); (case n12 => first | rfl | kernel_rfl); (case m17 => k_is); (case v17 => first | rfl | k_is); (case n17 => first | rfl | kernel_rfl); (case m19 => k_is); (case v19 => first | rfl | k_is); (case n19 => first | rfl | kernel_rfl); (case m20 => k_is); (case v20 => first | rfl | k_is); (case n20 => first | rfl | kernel_rfl); (case m21 => k_is); (case v21 => first | rfl | k_is); (case n21 => first | rfl | kernel_rfl); (case m22 => k_is); (case v22 => first | rfl | k_is); (case n22 => first | rfl | kernel_rfl); (case m23 => k_is); (case v23 => first | rfl | k_is); (case n23 => first | rfl | kernel_rfl); (case m24 => k_is); (case v24 => first | rfl | k_is); (case n24 => first | rfl | kernel_rfl); (case m25 => k_is); (case v25 => first | rfl | k_is); (case n25 => first | rfl | kernel_rfl); (case m33 => k_is); (case v33 => first | rfl | k_is); (case n33 => first | rfl | kernel_rfl); (case z1 => k_is); (case z2 => k_is); (case z3 => k_is); (case z4 => k_is); (case z5 => k_is); (case z6 => k_is); (case z7 => k_is); (case z8 => k_is); (case z9 => k_is); (case z10 => k_is); (case z11 => k_is); (case z12 => k_is); (case z13 => k_is); (case z14 => k_is); (case z15 => k_is); (case z16 => k_is); (case z17 => k_is); (case z18 => k_is); (case z19 => k_is); (case z20 => k_is); (case ne12 => first | decide | k_is); (case ne17 => first | decide | k_is); (case ne19 => first | decide | k_is); (case ne20 => first | decide | k_is); (case ne21 => first | decide | k_is); (case ne22 => first | decide | k_is); (case ne23 => first | decide | k_is); (case ne24 => first | decide | k_is); (case ne25 => first | decide | k_is); (case kwa1 => k_is); (case kwa2 => k_is); (case kwa3 => k_is); (case kwa4 => k_is); (case kwa5 => k_is); (case kwa6 => k_is); (case kwa7 => k_is); (case kwa8 => k_is); (case kwb1 => k_is); (case kwb2 => k_is); (case kwb3 => k_is); (case kwb4 => k_is); (case ga_is_group => k_is); (case c_LAST_TIME => k_is); (case c_LONGEST_WORD => k_is); (case c_MOST_HOLDBACKS => k_is); (case c_MOST_ROUTES => k_is); (case c_MOST_VALUES => k_is); (case c_CHARACTERS => k_is); (case c_LETTERS => k_is); (case c_RESERVED => k_is); (case xq_wg_Forcing => first | kernel_rfl | rfl | k_is); (case xq_wh_Forcing => first | kernel_rfl | rfl | k_is); (case xq_wp_Forcing => first | kernel_rfl | rfl | k_is); (case ws_Forcing => k_is); (case xq_wm_Forcing => first | kernel_rfl | rfl | k_is); (case wk_Forcing => k_is); (case xq_wg_Setup => first | kernel_rfl | rfl | k_is); (case xq_wh_Setup => first | kernel_rfl | rfl | k_is); (case xq_wp_Setup => first | kernel_rfl | rfl | k_is); (case ws_Setup => k_is); (case xq_wm_Setup => first | kernel_rfl | rfl | k_is); (case wk_Setup => k_is); (case wn_Forcing__ends => k_is); (case wn_Forcing__mutes => k_is); (case wn_Forcing__setup => k_is); (case wn_Forcing__slack => k_is); (case wn_Setup_down => k_is); (case wn_Setup_groups => k_is); (case wn_Setup_holdbacks => k_is); (case wn_Setup_lookback => k_is); (case wn_Setup_pause => k_is); (case wn_Setup_people => k_is); (case wn_Setup_policies => k_is); (case wn_Setup_replicas => k_is); (case wn_Setup_routes => k_is); (case wn_Setup_schedules => k_is); (case wn_Setup_store => k_is); (case wn_Setup_week => k_is); (case wn_Setup_windows => k_is); (case ya_BadSetup => k_is); (case yL_BadSetup => k_is); (case ys_BadSetup => k_is); (case yn_BadSetup => k_is); (case yi_BadSetup => k_is); (case yt_BadSetup => k_is); (case yl_BadSetup => k_is); (case yc_BadSetup => k_is); (case yk_BadSetup => k_is); (case yK_BadSetup => k_is); (case ye_BadSetup => k_is); (case yT_BadSetup => k_is); (case yh_BadSetup => k_is); (case ya_InvalidArgument => k_is); (case yL_InvalidArgument => k_is); (case ys_InvalidArgument => k_is); (case yn_InvalidArgument => k_is); (case yi_InvalidArgument => k_is); (case yt_InvalidArgument => k_is); (case yl_InvalidArgument => k_is); (case yc_InvalidArgument => k_is); (case yk_InvalidArgument => k_is); (case yK_InvalidArgument => k_is); (case ye_InvalidArgument => k_is); (case yT_InvalidArgument => k_is)
    (case r12 => first | rfl | k_is | decide)
    (case r17 => first | rfl | k_is | decide)
    (case r19 => first | rfl | k_is | decide)
    (case r20 => first | rfl | k_is | decide)
    (case r21 => first | rfl | k_is | decide)
    (case r22 => first | rfl | k_is | decide)
    (case r23 => first | rfl | k_is | decide)
    (case r24 => first | rfl | k_is | decide)
    (case r25 => first | rfl | k_is | decide)
    (case r33 => first | rfl | k_is | decide)
