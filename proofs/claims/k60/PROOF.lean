import PyProof.Rows.All
import HandS.ForMost
import HandS.ForExc
import HandS.StrMore
import HandS.FStr
import HandS.IsInst
import HandS.Wide
import HandS.TupLe
import HandS.ExcIs
import HandS.TryOnly
import HandS.TryMany
import KE.SortCalls
import KE.SortData
import HandS.SortRule
import HandS.More
import HandS.HotCalls
import HandS.DictTup
import HandS.Deep
import HandS.Conv
import PyProof.DictMoreH
import HandS.Flow
import HandS.SortKw
import KE.DatumOrd
import KE.DataFind
import KE.DataCmp
import HandS.TupAny
import HandS.SetTxt0
import HandS.SetFor
import HandS.Strs
import PyProof.Rows.SortShellAny
import HandS.SuiteRaise
import HandS.RaiseFrom
import HandS.ReplaceLit
import HandS.ReplaceList
import HandS.Zip
import HandS.StrSplit
import HandS.RaiseMore
import KE.KExcRaise
import HandS.DictComp
import PySem.Challenge.RW_lethe_k60_letters_read_back
set_option Elab.async false
set_option linter.all false
set_option maxRecDepth 100000
set_option maxHeartbeats 2000000
namespace DL
open PySem PySem.Spec PyProof.Rows L2

/-! ## data that stands, and cells that change -/
theorem same_t {K : PySem.W.Frag} {H H' : Hp} {a : Addr} {xs : List V} (e : Same H H') (h : SqT K H a xs) : SqT K H' a xs := by
  rcases h with (h | ⟨o, h⟩) | h
  · exact .inl (.inl (e _ _ h))
  · exact .inl (.inr ⟨o, e _ _ h⟩)
  · exact .inr h
/-- a tuple that stands: tracked, or a constant of the module -/
def TupAt (K : PySem.W.Frag) (H : Hp) (a : Addr) (xs : List V) : Prop := H a = some (.tup xs) ∨ ∃ (o : Obj) (its : Array Value) (n : Nat), K.lookup a = some o ∧ o.cls = .type "tuple" ∧ o.data = .seq its n ∧ its.size ≤ sizeLine ∧ Vals xs its.toList
theorem TupAt.sq {K : PySem.W.Frag} {H : Hp} {a : Addr} {xs : List V} (h : TupAt K H a xs) : SqT K H a xs := h.elim SqT.of .inr
theorem TupAt.mono {K : PySem.W.Frag} {H H' : Hp} {a : Addr} {xs : List V} (h : TupAt K H a xs) (e : Same H H') : TupAt K H' a xs := h.imp (e _ _) id
mutual
/-- data at a value; its lists are tracked plainly -/
inductive Dq (K : PySem.W.Frag) (H : Hp) : V → PyData → Prop
  | non : Dq K H .non .none
  | bl (b : Bool) : Dq K H (.bl b) (.bool b)
  | int (i : Int) : Dq K H (.int i) (.int i)
  | str (x : Str) : Dq K H (.str x) (.str x)
  | lst {a : Addr} {xs : List V} {ds : List PyData} : H a = some (.lst xs) → DqAll K H xs ds → Dq K H (.ref a) (.list ds)
  | tup {a : Addr} {xs : List V} {ds : List PyData} : TupAt K H a xs → DqAll K H xs ds → Dq K H (.ref a) (.tuple ds)
inductive DqAll (K : PySem.W.Frag) (H : Hp) : List V → List PyData → Prop
  | nil : DqAll K H [] []
  | cons {v : V} {vs : List V} {d : PyData} {ds : List PyData} : Dq K H v d → DqAll K H vs ds → DqAll K H (v :: vs) (d :: ds)
end
mutual
theorem dq_dp {K : PySem.W.Frag} {H : Hp} : ∀ {d : PyData} {v : V}, Dq K H v d → Dp K H v d
  | .none, _, h => by cases h; exact .non
  | .bool b, _, h => by cases h; exact .bl b
  | .int i, _, h => by cases h; exact .int i
  | .str x, _, h => by cases h; exact .str x
  | .list ds, _, h => by
    cases h with
    | lst hs ha => exact .lst (SqL.of hs) (dqa_dpa ha)
  | .tuple ds, _, h => by
    cases h with
    | tup hs ha => exact .tup hs.sq (dqa_dpa ha)
  | .dict _, _, h => by cases h
theorem dqa_dpa {K : PySem.W.Frag} {H : Hp} : ∀ {ds : List PyData} {vs : List V}, DqAll K H vs ds → DpAll K H vs ds
  | [], _, h => by cases h; exact .nil
  | d :: ds, _, h => by
    cases h with
    | cons h1 h2 => exact .cons (dq_dp h1) (dqa_dpa h2)
end
mutual
theorem dp_mono {K : PySem.W.Frag} {H H' : Hp} (e : Same H H') : ∀ {d : PyData} {v : V}, Dq K H v d → Dq K H' v d
  | .none, _, h => by cases h; exact .non
  | .bool b, _, h => by cases h; exact .bl b
  | .int i, _, h => by cases h; exact .int i
  | .str x, _, h => by cases h; exact .str x
  | .list ds, _, h => by
    cases h with
    | lst hs ha => exact .lst (e _ _ hs) (dpa_mono e ha)
  | .tuple ds, _, h => by
    cases h with
    | tup hs ha => exact .tup (hs.mono e) (dpa_mono e ha)
  | .dict _, _, h => by cases h
theorem dpa_mono {K : PySem.W.Frag} {H H' : Hp} (e : Same H H') : ∀ {ds : List PyData} {vs : List V}, DqAll K H vs ds → DqAll K H' vs ds
  | [], _, h => by cases h; exact .nil
  | d :: ds, _, h => by
    cases h with
    | cons h1 h2 => exact .cons (dp_mono e h1) (dpa_mono e h2)
end

/-- what a slot holds: data, or a cell's address -/
inductive W where
  | d (p : PyData)
  | o (a : Addr)
  | x (v : V)
  | sc (ns : List Int)
abbrev wi (i : Int) : W := .d (.int i)
abbrev wb (b : Bool) : W := .d (.bool b)
abbrev ws (s : Str) : W := .d (.str s)
abbrev wn : W := .d .none
abbrev wl (ds : List PyData) : W := .d (.list ds)
abbrev wt (ds : List PyData) : W := .d (.tuple ds)
def RW (K : PySem.W.Frag) (M : Hp) (v : V) : W → Prop
  | .d p => Dq K M v p
  | .o a => v = .ref a
  | .x u => v = u
  | .sc ns => ∃ a, v = .ref a ∧ SqL K M a (ns.map V.int)
theorem RW.mono {K : PySem.W.Frag} {M M' : Hp} (e : Same M M') {v : V} : ∀ {w : W}, RW K M v w → RW K M' v w
  | .d _, h => dp_mono e h
  | .o _, h => h
  | .x _, h => h
  | .sc _, ⟨a, h, q⟩ => ⟨a, h, e.seq q⟩
inductive RWs (K : PySem.W.Frag) (M : Hp) : List V → List W → Prop
  | nil : RWs K M [] []
  | cons {v : V} {vs : List V} {w : W} {ws : List W} : RW K M v w → RWs K M vs ws → RWs K M (v :: vs) (w :: ws)
theorem RWs.mono {K : PySem.W.Frag} {M M' : Hp} (e : Same M M') {vs : List V} {ws : List W} (h : RWs K M vs ws) : RWs K M' vs ws := by
  induction h with
  | nil => exact .nil
  | cons h _ ih => exact .cons (h.mono e) ih
theorem RWs.len {K : PySem.W.Frag} {M : Hp} {vs : List V} {ws : List W} (h : RWs K M vs ws) : vs.length = ws.length := by
  induction h with
  | nil => rfl
  | cons _ _ ih => simp [ih]
theorem RWs.get {K : PySem.W.Frag} {M : Hp} {vs : List V} {ws : List W} (h : RWs K M vs ws) : ∀ {i : Nat} {w : W}, ws[i]? = some w → ∃ v, vs[i]? = some v ∧ RW K M v w := by
  induction h with
  | nil => intro i w e; simp at e
  | cons h _ ih =>
    intro i w e
    cases i with
    | zero => simp at e; subst e; exact ⟨_, rfl, h⟩
    | succ i => simp at e; obtain ⟨v, e1, r⟩ := ih e; exact ⟨v, by simpa using e1, r⟩
theorem RWs.getv {K : PySem.W.Frag} {M : Hp} {vs : List V} {ws : List W} (h : RWs K M vs ws) : ∀ {i : Nat} {v : V}, vs[i]? = some v → ∃ w, ws[i]? = some w ∧ RW K M v w := by
  induction h with
  | nil => intro i w e; simp at e
  | cons h _ ih =>
    intro i w e
    cases i with
    | zero => simp at e; subst e; exact ⟨_, rfl, h⟩
    | succ i => simp at e; obtain ⟨v, e1, r⟩ := ih e; exact ⟨v, by simpa using e1, r⟩
theorem RWs.append {K : PySem.W.Frag} {M : Hp} {vs us : List V} {ws xs : List W} (h : RWs K M vs ws) (g : RWs K M us xs) : RWs K M (vs ++ us) (ws ++ xs) := by
  induction h with
  | nil => exact g
  | cons h _ ih => exact .cons h ih
theorem RWs.set {K : PySem.W.Frag} {M : Hp} {vs : List V} {ws : List W} {u : V} {x : W} (r : RW K M u x) (h : RWs K M vs ws) : ∀ i, RWs K M (vs.set i u) (ws.set i x) := by
  induction h with
  | nil => intro i; simp; exact .nil
  | cons h g ih =>
    intro i
    cases i with
    | zero => exact .cons r g
    | succ i => exact .cons h (ih i)
theorem RWs.take {K : PySem.W.Frag} {M : Hp} {vs : List V} {ws : List W} (h : RWs K M vs ws) : ∀ i, RWs K M (vs.take i) (ws.take i) := by
  induction h with
  | nil => intro i; simp; exact .nil
  | cons h g ih =>
    intro i
    cases i with
    | zero => exact .nil
    | succ i => exact .cons h (ih i)
theorem RWs.drop {K : PySem.W.Frag} {M : Hp} {vs : List V} {ws : List W} (h : RWs K M vs ws) : ∀ i, RWs K M (vs.drop i) (ws.drop i) := by
  induction h with
  | nil => intro i; simp; exact .nil
  | cons h g ih =>
    intro i
    cases i with
    | zero => exact .cons h g
    | succ i => exact ih i
theorem dpa_rws {K : PySem.W.Frag} {M : Hp} : ∀ {vs : List V} {ds : List PyData}, DqAll K M vs ds → RWs K M vs (ds.map .d)
  | _, [], h => by cases h; exact .nil
  | _, d :: ds, h => by
    cases h with
    | cons h1 h2 => exact .cons h1 (dpa_rws h2)
theorem rws_dpa {K : PySem.W.Frag} {M : Hp} : ∀ {vs : List V} {ds : List PyData}, RWs K M vs (ds.map .d) → DqAll K M vs ds
  | _, [], h => by cases h; exact .nil
  | _, d :: ds, h => by
    cases h with
    | cons h1 h2 => exact .cons h1 (rws_dpa h2)

inductive Cell where
  | lst (ws : List W)
  | dic (kvs : List (Key × W))
  | dit (kvs : List (List Key × W))
  | obj (C : Addr) (fs : List (Str × W))
  | fz (u : HO) (kvs : List (Key × W))
  | ext (φ : Heap → Prop)
def RC (K : PySem.W.Frag) (M : Hp) (o : Option HO) : Cell → Prop
  | .lst ws => ∃ vs, o = some (.lst vs) ∧ RWs K M vs ws
  | .dic kvs => ∃ vs : List (Key × V), o = some (.dK vs) ∧ vs.map (·.1) = kvs.map (·.1) ∧ RWs K M (vs.map (·.2)) (kvs.map (·.2))
  | .dit kvs => ∃ vs : List (List Key × V), o = some (.dT vs) ∧ vs.map (·.1) = kvs.map (·.1) ∧ RWs K M (vs.map (·.2)) (kvs.map (·.2))
  | .obj C fs => ∃ dx, ∃ vs : List (Str × V), o = some (.ins C dx vs) ∧ vs.map (·.1) = fs.map (·.1) ∧ RWs K M (vs.map (·.2)) (fs.map (·.2))
  | .fz u kvs => o = some u ∧ ∃ od, ∃ vs : List (Key × V), u = .frz od (.dK vs) ∧ vs.map (·.1) = kvs.map (·.1) ∧ RWs K M (vs.map (·.2)) (kvs.map (·.2))
  | .ext φ => o = some (.ext φ)
theorem RC.mono {K : PySem.W.Frag} {M M' : Hp} (e : Same M M') {o : Option HO} : ∀ {c : Cell}, RC K M o c → RC K M' o c
  | .lst _, ⟨vs, h, r⟩ => ⟨vs, h, r.mono e⟩
  | .dic _, ⟨vs, h, k, r⟩ => ⟨vs, h, k, r.mono e⟩
  | .dit _, ⟨vs, h, k, r⟩ => ⟨vs, h, k, r.mono e⟩
  | .obj _ _, ⟨dx, vs, h, k, r⟩ => ⟨dx, vs, h, k, r.mono e⟩
  | .fz _ _, ⟨h, od, vs, e1, k, r⟩ => ⟨h, od, vs, e1, k, r.mono e⟩
  | .ext _, h => h
theorem RC.some {K : PySem.W.Frag} {M : Hp} {o : Option HO} : ∀ {c : Cell}, RC K M o c → ∃ u, o = .some u
  | .lst _, ⟨vs, h, _⟩ => ⟨_, h⟩
  | .dic _, ⟨vs, h, _⟩ => ⟨_, h⟩
  | .dit _, ⟨vs, h, _⟩ => ⟨_, h⟩
  | .obj _ _, ⟨dx, vs, h, _⟩ => ⟨_, h⟩
  | .fz _ _, ⟨h, _⟩ => ⟨_, h⟩
  | .ext _, h => ⟨_, h⟩

theorem RC.notup {K : PySem.W.Frag} {M : Hp} {xs : List V} : ∀ {c : Cell}, ¬ RC K M (.some (.tup xs)) c
  | .lst _, ⟨_, h, _⟩ => by cases h
  | .dic _, ⟨_, h, _⟩ => by cases h
  | .dit _, ⟨_, h, _⟩ => by cases h
  | .obj _ _, ⟨_, _, h, _⟩ => by cases h
  | .fz _ _, ⟨h, _, _, e, _⟩ => by cases h; cases e
  | .ext _, h => by cases h
abbrev Del := List (Addr × Cell)
abbrev Gam := List (Option W)
def ads (Δ : Del) : List Addr := Δ.map (·.1)
def msk (H : Hp) (A : List Addr) : Hp := fun b => if b ∈ A then none else H b
theorem msk_in {H : Hp} {A : List Addr} {b : Addr} (h : b ∈ A) : msk H A b = none := if_pos h
theorem msk_out {H : Hp} {A : List Addr} {b : Addr} (h : b ∉ A) : msk H A b = H b := if_neg h
theorem msk_some {H : Hp} {A : List Addr} {b : Addr} {o : HO} (h : msk H A b = some o) : b ∉ A ∧ H b = some o := by
  by_cases e : b ∈ A
  · rw [msk_in e] at h; cases h
  · rw [msk_out e] at h; exact ⟨e, h⟩
theorem msk_same {H H' : Hp} {A : List Addr} (e : Same H H') : Same (msk H A) (msk H' A) := fun b o h => by
  obtain ⟨n, h⟩ := msk_some h
  rw [msk_out n]; exact e b o h
theorem msk_sub {H : Hp} {A : List Addr} : Same (msk H A) H := fun b o h => (msk_some h).2
theorem msk_less {H : Hp} {A A' : List Addr} (h : ∀ b, b ∈ A' → b ∈ A) : Same (msk H A) (msk H A') := fun b o e => by
  obtain ⟨n, e⟩ := msk_some e
  rw [msk_out (fun z => n (h b z))]; exact e

/-- the cells stand; B are further ones that none of the data may lean on -/
structure SatH (K : PySem.W.Frag) (B : List Addr) (Δ : Del) (H : Hp) : Prop where
  cell : ∀ p ∈ Δ, RC K (msk H (ads Δ ++ B)) (H p.1) p.2
  nd : (ads Δ).Nodup
  bt : ∀ b ∈ B, H b ≠ none
  db : ∀ b ∈ B, b ∉ ads Δ
  nt : ∀ b ∈ B, ∀ xs, H b ≠ some (.tup xs)
def SatG (K : PySem.W.Frag) (M : Hp) (Γ : Gam) (σ : L2.St) : Prop := σ.length = Γ.length ∧ ∀ (i : Nat) (w : W), Γ[i]? = some (some w) → ∃ v, σ[i]? = some (some v) ∧ RW K M v w
structure S where
  g : Gam
  h : Del
structure Sat (K : PySem.W.Frag) (B : List Addr) (s : S) (σ : L2.St) (H : Hp) : Prop where
  hh : SatH K B s.h H
  gg : SatG K (msk H (ads s.h ++ B)) s.g σ
/-- what a step leaves alone -/
def Fr (Δ : Del) (H : Hp) (Δ' : Del) (H' : Hp) : Prop := ∀ b o, b ∉ ads Δ → H b = some o → b ∉ ads Δ' ∧ H' b = some o
theorem Fr.refl {Δ : Del} {H : Hp} : Fr Δ H Δ H := fun _ _ n h => ⟨n, h⟩
theorem Fr.trans {Δ Δ1 Δ2 : Del} {H H1 H2 : Hp} (a : Fr Δ H Δ1 H1) (b : Fr Δ1 H1 Δ2 H2) : Fr Δ H Δ2 H2 := fun c o n h => by
  obtain ⟨n1, h1⟩ := a c o n h
  exact b c o n1 h1
theorem Fr.of {Δ : Del} {H H' : Hp} (e : Same H H') : Fr Δ H Δ H' := fun b o n h => ⟨n, e b o h⟩
theorem Fr.msk {Δ Δ' : Del} {H H' : Hp} {B : List Addr} (f : Fr Δ H Δ' H') : Same (msk H (ads Δ ++ B)) (DL.msk H' (ads Δ' ++ B)) := fun b o h => by
  obtain ⟨n, h⟩ := msk_some h
  have nA : b ∉ ads Δ := fun z => n (List.mem_append_left _ z)
  have nB : b ∉ B := fun z => n (List.mem_append_right _ z)
  obtain ⟨n', h'⟩ := f b o nA h
  rw [msk_out (fun z => (List.mem_append.mp z).elim n' nB)]
  exact h'
section
variable {K : PySem.W.Frag} {B : List Addr} {Δ Δ' : Del} {H H' : Hp} {s s' : S} {σ σ' : L2.St}
theorem SatH.tracked (h : SatH K B Δ H) {b : Addr} (hb : b ∈ ads Δ) : ∃ o, H b = some o := by
  obtain ⟨p, hp, rfl⟩ := List.mem_map.mp hb
  exact (h.cell p hp).some
theorem SatH.out (h : SatH K B Δ H) {p : Addr} (hp : H p = none) : p ∉ ads Δ ++ B := fun z => by
  rcases List.mem_append.mp z with z | z
  · obtain ⟨o, e⟩ := h.tracked z
    rw [hp] at e; cases e
  · exact h.bt p z hp
theorem SatH.mono (h : SatH K B Δ H) (e : Same H H') : SatH K B Δ H' := by
  refine ⟨fun p hp => ?_, h.nd, fun b hb => ?_, h.db, fun b hb xs z => ?_⟩
  rotate_right
  · cases q : H b with
    | none => exact h.bt b hb q
    | some o =>
      rw [e _ _ q] at z
      cases z
      exact h.nt b hb xs q
  · obtain ⟨o, ho⟩ := (h.cell p hp).some
    have q := h.cell p hp
    rw [ho] at q
    rw [e _ _ ho]
    exact q.mono (msk_same e)
  · cases q : H b with
    | none => exact absurd q (h.bt b hb)
    | some o => rw [e _ _ q]; exact fun z => nomatch z
theorem SatG.mono {M M' : Hp} {Γ : Gam} (h : SatG K M Γ σ) (e : Same M M') : SatG K M' Γ σ := ⟨h.1, fun i w q => by
  obtain ⟨v, a, r⟩ := h.2 i w q
  exact ⟨v, a, r.mono e⟩⟩
theorem Sat.mono (h : Sat K B s σ H) (e : Same H H') : Sat K B s σ H' := ⟨h.hh.mono e, h.gg.mono (msk_same e)⟩
theorem SatG.set {M : Hp} {Γ : Gam} (h : SatG K M Γ σ) {v : V} {w : W} (r : RW K M v w) (i : Nat) : SatG K M (Γ.set i (some w)) (σ.set i (some v)) := by
  refine ⟨by simp [h.1], fun j x q => ?_⟩
  by_cases e : i = j
  · subst e
    have hj : i < Γ.length := by
      have := (List.getElem?_eq_some_iff.mp q).1
      simpa using this
    rw [List.getElem?_set_self hj] at q
    cases q
    exact ⟨v, List.getElem?_set_self (by rw [h.1]; exact hj), r⟩
  · rw [List.getElem?_set_ne e] at q
    rw [List.getElem?_set_ne e]
    exact h.2 j x q
end
/-- some slots are forgotten -/
inductive Le : Gam → Gam → Prop
  | nil : Le [] []
  | same {x : Option W} {a b : Gam} : Le a b → Le (x :: a) (x :: b)
  | drop {x : Option W} {a b : Gam} : Le a b → Le (none :: a) (x :: b)
theorem Le.refl : ∀ (a : Gam), Le a a
  | [] => .nil
  | _ :: a => .same (Le.refl a)
theorem Le.sat {K : PySem.W.Frag} {M : Hp} {a b : Gam} (l : Le a b) : ∀ {σ : L2.St}, SatG K M b σ → SatG K M a σ := by
  induction l with
  | nil => exact fun h => h
  | @same x a b _ ih =>
    intro σ h
    cases σ with
    | nil => exact absurd h.1 (by simp)
    | cons v σ =>
      have g := ih (σ := σ) ⟨by simpa using h.1, fun i w q => h.2 (i + 1) w (by simpa using q)⟩
      refine ⟨by simp [g.1], fun i w q => ?_⟩
      cases i with
      | zero => exact h.2 0 w q
      | succ i => exact g.2 i w (by simpa using q)
  | @drop x a b _ ih =>
    intro σ h
    cases σ with
    | nil => exact absurd h.1 (by simp)
    | cons v σ =>
      have g := ih (σ := σ) ⟨by simpa using h.1, fun i w q => h.2 (i + 1) w (by simpa using q)⟩
      refine ⟨by simp [g.1], fun i w q => ?_⟩
      cases i with
      | zero => simp at q
      | succ i => exact g.2 i w (by simpa using q)
end DL

namespace DL
open PySem PySem.Spec PyProof.Rows L2

section
variable (K : PySem.W.Frag)
def Ev (te : TE) (s : S) (w : W) : Prop := ∀ (B : List Addr) (σ : L2.St) (H : Hp) (Q : VK), Sat K B s σ H → (∀ v H', Same H H' → RW K (msk H' (ads s.h ++ B)) v w → Q v H') → te σ H Q
def EvT (tt : TT) (s : S) (b : Bool) : Prop := ∀ (B : List Addr) (σ : L2.St) (H : Hp) (Q : Bool → Hp → Prop), Sat K B s σ H → (∀ H', Same H H' → Q b H') → tt σ H Q
def EvA (ta : TA) (s : S) (xs : List W) : Prop := ∀ (B : List Addr) (σ : L2.St) (H : Hp) (Q : List V → Hp → Prop), Sat K B s σ H → (∀ vs H', Same H H' → RWs K (msk H' (ads s.h ++ B)) vs xs → Q vs H') → ta σ H Q
def EvO (to : TO) (s : S) (o : Option Int) : Prop := ∀ (B : List Addr) (σ : L2.St) (H : Hp) (Q : Option Int → Hp → Prop), Sat K B s σ H → (∀ H', Same H H' → Q o H') → to σ H Q
/-- a new list -/
def EvF (te : TE) (s : S) (xs : List W) : Prop := ∀ (B : List Addr) (σ : L2.St) (H : Hp) (Q : VK), Sat K B s σ H →
  (∀ a vs H', Same H H' → H a = none → H' a = some (.lst vs) → RWs K (msk H' (a :: (ads s.h ++ B))) vs xs → Q (.ref a) H') → te σ H Q
def RVs (s : S) (r : R2) (x y z : W) : Prop := ∀ (B : List Addr) (σ : L2.St) (H : Hp) (v u : V) (Q : VK), Sat K B s σ H → RW K (msk H (ads s.h ++ B)) v x → RW K (msk H (ads s.h ++ B)) u y →
  (∀ t H', Same H H' → RW K (msk H' (ads s.h ++ B)) t z → Q t H') → r v u H Q
def RVF (s : S) (r : R2) (x y : W) (xs : List W) : Prop := ∀ (B : List Addr) (σ : L2.St) (H : Hp) (v u : V) (Q : VK), Sat K B s σ H → RW K (msk H (ads s.h ++ B)) v x → RW K (msk H (ads s.h ++ B)) u y →
  (∀ a vs H', Same H H' → H a = none → H' a = some (.lst vs) → RWs K (msk H' (a :: (ads s.h ++ B))) vs xs → Q (.ref a) H') → r v u H Q
def RUs (s : S) (r : V → Hp → VK → Prop) (x z : W) : Prop := ∀ (B : List Addr) (σ : L2.St) (H : Hp) (v : V) (Q : VK), Sat K B s σ H → RW K (msk H (ads s.h ++ B)) v x →
  (∀ t H', Same H H' → RW K (msk H' (ads s.h ++ B)) t z → Q t H') → r v H Q
def RCs (s : S) (r : List V → Hp → VK → Prop) (xs : List W) (z : W) : Prop := ∀ (B : List Addr) (σ : L2.St) (H : Hp) (vs : List V) (Q : VK), Sat K B s σ H → RWs K (msk H (ads s.h ++ B)) vs xs →
  (∀ t H', Same H H' → RW K (msk H' (ads s.h ++ B)) t z → Q t H') → r vs H Q
def RCF (s : S) (r : List V → Hp → VK → Prop) (xs : List W) (zs : List W) : Prop := ∀ (B : List Addr) (σ : L2.St) (H : Hp) (vs : List V) (Q : VK), Sat K B s σ H → RWs K (msk H (ads s.h ++ B)) vs xs →
  (∀ a vs H', Same H H' → H a = none → H' a = some (.lst vs) → RWs K (msk H' (a :: (ads s.h ++ B))) vs zs → Q (.ref a) H') → r vs H Q
def RMs (s : S) (r : V → List V → Hp → VK → Prop) (x : W) (xs : List W) (z : W) : Prop := ∀ (B : List Addr) (σ : L2.St) (H : Hp) (v : V) (vs : List V) (Q : VK), Sat K B s σ H → RW K (msk H (ads s.h ++ B)) v x → RWs K (msk H (ads s.h ++ B)) vs xs →
  (∀ t H', Same H H' → RW K (msk H' (ads s.h ++ B)) t z → Q t H') → r v vs H Q
def RMF (s : S) (r : V → List V → Hp → VK → Prop) (x : W) (xs : List W) (zs : List W) : Prop := ∀ (B : List Addr) (σ : L2.St) (H : Hp) (v : V) (vs : List V) (Q : VK), Sat K B s σ H → RW K (msk H (ads s.h ++ B)) v x → RWs K (msk H (ads s.h ++ B)) vs xs →
  (∀ a vs H', Same H H' → H a = none → H' a = some (.lst vs) → RWs K (msk H' (a :: (ads s.h ++ B))) vs zs → Q (.ref a) H') → r v vs H Q
/-- the value of a slot or of a cell, seen as a list of values -/
def LV (s : S) (w : W) (xs : List W) : Prop := (∃ ds, w = .d (.list ds) ∧ xs = ds.map .d) ∨ (∃ a, w = .o a ∧ (a, Cell.lst xs) ∈ s.h) ∨ ∃ ns : List Int, w = .sc ns ∧ xs = ns.map fun n => .d (.int n)
/-- .. as a list or a tuple -/
def QV (s : S) (w : W) (xs : List W) : Prop := LV s w xs ∨ ∃ ds, w = .d (.tuple ds) ∧ xs = ds.map .d
def TyW (s : S) (T : String) (w : W) : Prop := (∃ x, w = .d (.str x) ∧ T = "str") ∨ (T = "list" ∧ ∃ xs, LV s w xs)
end

section
variable {K : PySem.W.Frag} {s : S} {ta tb te : TE} {x y z w : W} {r : R2} {B : List Addr} {H H' : Hp} {σ : L2.St}
theorem same_refl {H : Hp} : Same H H := fun _ _ h => h
theorem rw_i {M : Hp} {v : V} {i : Int} (h : RW K M v (wi i)) : v = .int i := by cases h; rfl
theorem rw_b {M : Hp} {v : V} {i : Bool} (h : RW K M v (wb i)) : v = .bl i := by cases h; rfl
theorem rw_s {M : Hp} {v : V} {i : Str} (h : RW K M v (ws i)) : v = .str i := by cases h; rfl
theorem rw_n {M : Hp} {v : V} (h : RW K M v wn) : v = .non := by cases h; rfl
theorem ri {M : Hp} {i : Int} : RW K M (.int i) (wi i) := Dq.int i
theorem rb {M : Hp} {i : Bool} : RW K M (.bl i) (wb i) := Dq.bl i
theorem rs {M : Hp} {i : Str} : RW K M (.str i) (ws i) := Dq.str i
theorem rn {M : Hp} : RW K M .non wn := Dq.non
theorem sc_vals {M : Hp} : ∀ (ns : List Int), RWs K M (ns.map V.int) (ns.map fun n => W.d (.int n))
  | [] => .nil
  | _ :: ns => .cons ri (sc_vals ns)
theorem LV.get (h : LV s w xs) (S : Sat K B s σ H) {v : V} (q : RW K (msk H (ads s.h ++ B)) v w) : ∃ a vs, v = .ref a ∧ SqL K H a vs ∧ RWs K (msk H (ads s.h ++ B)) vs xs := by
  rcases h with ⟨ds, rfl, rfl⟩ | ⟨a, rfl, m⟩ | ⟨ns, rfl, rfl⟩
  · cases q with
    | lst hs ha => exact ⟨_, _, rfl, SqL.of (msk_sub _ _ hs), dpa_rws ha⟩
  · cases q
    obtain ⟨vs, e, r⟩ := S.hh.cell _ m
    exact ⟨a, vs, rfl, SqL.of e, r⟩
  · obtain ⟨a, rfl, q⟩ := q
    exact ⟨a, _, rfl, msk_sub.seq q, sc_vals ns⟩
theorem QV.get (h : QV s w xs) (S : Sat K B s σ H) {v : V} (q : RW K (msk H (ads s.h ++ B)) v w) : ∃ a vs, v = .ref a ∧ (SqL K H a vs ∨ SqT K H a vs) ∧ RWs K (msk H (ads s.h ++ B)) vs xs := by
  rcases h with h | ⟨ds, rfl, rfl⟩
  · obtain ⟨a, vs, e, g, r⟩ := h.get S q
    exact ⟨a, vs, e, .inl g, r⟩
  · cases q with
    | tup hs ha => exact ⟨_, _, rfl, .inr ((hs.mono msk_sub).sq), dpa_rws ha⟩
theorem lv_d {ds : List PyData} : LV s (wl ds) (ds.map .d) := .inl ⟨ds, rfl, rfl⟩
theorem lv_o {a : Addr} {xs : List W} (n : Nat) (h : s.h[n]? = some (a, .lst xs)) : LV s (.o a) xs := .inr (.inl ⟨a, rfl, List.mem_of_getElem? h⟩)
theorem lv_sc {ns : List Int} : LV s (.sc ns) (ns.map fun n => .d (.int n)) := .inr (.inr ⟨ns, rfl, rfl⟩)
theorem qv_l {xs : List W} (h : LV s w xs) : QV s w xs := .inl h
theorem qv_t {ds : List PyData} : QV s (wt ds) (ds.map .d) := .inr ⟨ds, rfl, rfl⟩
theorem EvF.ev {ds : List PyData} (h : EvF K te s (ds.map .d)) : Ev K te s (wl ds) := fun B σ H Q S q => h B σ H Q S fun a vs H' e n ha r => by
  have no := S.hh.out n
  refine q _ _ e (Dq.lst ?_ (rws_dpa (r.mono (msk_less fun b hb => List.mem_cons_of_mem _ hb))))
  rw [msk_out no]
  exact ha
theorem ev_is (h : Ev K te s x) (e : x = y) : Ev K te s y := e ▸ h
theorem ev_var {i : Nat} (h : s.g[i]? = some (some w)) : Ev K (tVar i) s w := fun B σ H Q S q => by
  obtain ⟨v, e, r⟩ := S.gg.2 i w h
  exact ⟨v, e, q v H same_refl r⟩
theorem ev_c {v : V} (h : ∀ M : Hp, RW K M v w) : Ev K (tC v) s w := fun B σ H Q S q => q v H same_refl (h _)
theorem ev_ci {i : Int} : Ev K (tC (.int i)) s (wi i) := ev_c fun _ => ri
theorem ev_cb {i : Bool} : Ev K (tC (.bl i)) s (wb i) := ev_c fun _ => rb
theorem ev_cs {i : Str} : Ev K (tC (.str i)) s (ws i) := ev_c fun _ => rs
theorem ev_cn : Ev K (tC .non) s wn := ev_c fun _ => rn
theorem ev_cx {v : V} : Ev K (tC v) s (.x v) := ev_c fun _ => rfl
theorem ev_op (ha : Ev K ta s x) (hb : Ev K tb s y) (hr : RVs K s r x y z) : Ev K (tOp r ta tb) s z := fun B σ H Q S q =>
  ha B σ H _ S fun v H1 e1 r1 => hb B σ H1 _ (S.mono e1) fun u H2 e2 r2 => hr B σ H2 v u Q (S.mono (e1.trans e2)) (r1.mono (msk_same e2)) r2 fun t H3 e3 r3 => q t H3 ((e1.trans e2).trans e3) r3
theorem evf_op {xs : List W} (ha : Ev K ta s x) (hb : Ev K tb s y) (hr : RVF K s r x y xs) : EvF K (tOp r ta tb) s xs := fun B σ H Q S q =>
  ha B σ H _ S fun v H1 e1 r1 => hb B σ H1 _ (S.mono e1) fun u H2 e2 r2 => hr B σ H2 v u Q (S.mono (e1.trans e2)) (r1.mono (msk_same e2)) r2 fun a vs H3 e3 n ha r3 => q a vs H3 ((e1.trans e2).trans e3) ((e1.trans e2).free n) ha r3
theorem ev_un {ru : V → Hp → VK → Prop} (ha : Ev K ta s x) (hr : RUs K s ru x z) : Ev K (tUn ru ta) s z := fun B σ H Q S q =>
  ha B σ H _ S fun v H1 e1 r1 => hr B σ H1 v Q (S.mono e1) r1 fun t H3 e3 r3 => q t H3 (e1.trans e3) r3
theorem ea_nil : EvA K tNil s [] := fun B σ H Q S q => q [] H same_refl .nil
theorem ea_cons {tr : TA} {xs : List W} (h : Ev K te s x) (hr : EvA K tr s xs) : EvA K (tCons te tr) s (x :: xs) := fun B σ H Q S q =>
  h B σ H _ S fun v H1 e1 r1 => hr B σ H1 _ (S.mono e1) fun vs H2 e2 r2 => q (v :: vs) H2 (e1.trans e2) (.cons (r1.mono (msk_same e2)) r2)
theorem evf_lst {tr : TA} {xs : List W} (h : EvA K tr s xs) (hl : xs.length ≤ sizeLine) : EvF K (tLst tr) s xs := fun B σ H Q S q =>
  h B σ H _ S fun vs H1 e1 r1 => ⟨by rw [r1.len]; exact hl, fun p np => q p vs _ (e1.trans (fun b o e => by rw [upd_ne (ne_of_none e np)]; exact e)) (e1.free np) upd_same
    (r1.mono fun b o e => by
      obtain ⟨n, e⟩ := msk_some e
      have hb : b ≠ p := ne_of_none e np
      rw [msk_out (fun z => (List.mem_cons.mp z).elim hb n), upd_ne hb]
      exact e)⟩
theorem ev_tup {tr : TA} {ds : List PyData} (h : EvA K tr s (ds.map .d)) (hl : ds.length ≤ sizeLine) : Ev K (tTup tr) s (wt ds) := fun B σ H Q S q =>
  h B σ H _ S fun vs H1 e1 r1 => ⟨by rw [r1.len]; simpa using hl, fun p np => by
    have e2 : Same H1 (upd H1 p (.tup vs)) := fun b o e => by rw [upd_ne (ne_of_none e np)]; exact e
    have no := (S.mono e1).hh.out np
    refine q _ _ (e1.trans e2) (Dq.tup (xs := vs) (.inl ?_) (rws_dpa (r1.mono (msk_same e2))))
    rw [msk_out no]
    exact upd_same⟩
theorem ev_cb' {rr : List V → Hp → VK → Prop} {tr : TA} {xs : List W} (h : EvA K tr s xs) (hr : RCs K s rr xs z) : Ev K (tCB rr tr) s z := fun B σ H Q S q =>
  h B σ H _ S fun vs H1 e1 r1 => hr B σ H1 vs Q (S.mono e1) r1 fun t H2 e2 r2 => q t H2 (e1.trans e2) r2
theorem evf_cb {rr : List V → Hp → VK → Prop} {tr : TA} {xs zs : List W} (h : EvA K tr s xs) (hr : RCF K s rr xs zs) : EvF K (tCB rr tr) s zs := fun B σ H Q S q =>
  h B σ H _ S fun vs H1 e1 r1 => hr B σ H1 vs Q (S.mono e1) r1 fun a vs H2 e2 n ha r2 => q a vs H2 (e1.trans e2) (e1.free n) ha r2
theorem tyw_v {T : String} (t : TyW s T x) (S : Sat K B s σ H) {v : V} (r : RW K (msk H (ads s.h ++ B)) v x) : tyV K T v H := by
  rcases t with ⟨y, rfl, rfl⟩ | ⟨rfl, xs, l⟩
  · cases rw_s r; exact rfl
  · obtain ⟨a, vs, rfl, g, _⟩ := l.get S r
    exact .inl ⟨rfl, vs, g⟩
theorem tyw_s {y : Str} : TyW s "str" (ws y) := .inl ⟨y, rfl, rfl⟩
theorem tyw_l {xs : List W} (l : LV s x xs) : TyW s "list" x := .inr ⟨rfl, xs, l⟩
theorem ev_bm {T : String} {rm : V → List V → Hp → VK → Prop} {tr : TA} {xs : List W} (ho : Ev K ta s x) (t : TyW s T x) (h : EvA K tr s xs) (hr : RMs K s rm x xs z) : Ev K (tBM K T rm ta tr) s z := fun B σ H Q S q =>
  ho B σ H _ S fun v H1 e1 r1 => ⟨tyw_v t (S.mono e1) r1, h B σ H1 _ (S.mono e1) fun vs H2 e2 r2 => hr B σ H2 v vs Q (S.mono (e1.trans e2)) (r1.mono (msk_same e2)) r2 fun t H3 e3 r3 => q t H3 ((e1.trans e2).trans e3) r3⟩
theorem ev_bm0 {T : String} {rm : V → List V → Hp → VK → Prop} (ho : Ev K ta s x) (t : TyW s T x) (hr : RMs K s rm x [] z) : Ev K (tBM0 K T rm ta) s z := fun B σ H Q S q =>
  ho B σ H _ S fun v H1 e1 r1 => ⟨tyw_v t (S.mono e1) r1, hr B σ H1 v [] Q (S.mono e1) r1 .nil fun t H3 e3 r3 => q t H3 (e1.trans e3) r3⟩
theorem evf_bm {T : String} {rm : V → List V → Hp → VK → Prop} {tr : TA} {xs zs : List W} (ho : Ev K ta s x) (t : TyW s T x) (h : EvA K tr s xs) (hr : RMF K s rm x xs zs) : EvF K (tBM K T rm ta tr) s zs := fun B σ H Q S q =>
  ho B σ H _ S fun v H1 e1 r1 => ⟨tyw_v t (S.mono e1) r1, h B σ H1 _ (S.mono e1) fun vs H2 e2 r2 => hr B σ H2 v vs Q (S.mono (e1.trans e2)) (r1.mono (msk_same e2)) r2 fun a vs H3 e3 n ha r3 => q a vs H3 ((e1.trans e2).trans e3) ((e1.trans e2).free n) ha r3⟩
theorem evf_bm0 {T : String} {rm : V → List V → Hp → VK → Prop} {zs : List W} (ho : Ev K ta s x) (t : TyW s T x) (hr : RMF K s rm x [] zs) : EvF K (tBM0 K T rm ta) s zs := fun B σ H Q S q =>
  ho B σ H _ S fun v H1 e1 r1 => ⟨tyw_v t (S.mono e1) r1, hr B σ H1 v [] Q (S.mono e1) r1 .nil fun a vs H3 e3 n ha r3 => q a vs H3 (e1.trans e3) (e1.free n) ha r3⟩
/-! ### slices -/
theorem eo_none : EvO K tNoPart s none := fun B σ H Q S q => q H same_refl
theorem eo_some {i : Int} (h : Ev K te s (wi i)) : EvO K (tPart te) s (some i) := fun B σ H Q S q => h B σ H _ S fun v H1 e1 r1 => ⟨i, rw_i r1, q H1 e1⟩
def rSlU (K : PySem.W.Frag) : V → Option Int → Option Int → Hp → VK → Prop := fun x lo hi H Q => rSlL K x lo hi H Q ∨ rSlS x lo hi H Q
theorem sl_u {X : Cx} : SlR X (rSlU X.K) := sl_list.or sl_str
theorem ev_slS {tl th : TO} {lo hi : Option Int} {z : Str} (h : Ev K te s (ws z)) (hl : EvO K tl s lo) (hh : EvO K th s hi) (hz : z.length ≤ sizeLine) : Ev K (tSl (rSlU K) te tl th) s (ws (cutS z lo hi)) := fun B σ H Q S q =>
  h B σ H _ S fun v H1 e1 r1 => hl B σ H1 _ (S.mono e1) fun H2 e2 => hh B σ H2 _ (S.mono (e1.trans e2)) fun H3 e3 => by
    cases rw_s r1
    exact .inr ⟨z, rfl, hz, q _ H3 ((e1.trans e2).trans e3) rs⟩
theorem new_l {vs : List V} {xs : List W} {A : List Addr} {p : Addr} (r : RWs K (msk H A) vs xs) (np : H p = none) : RWs K (msk (upd H p (.lst vs)) (p :: A)) vs xs :=
  r.mono fun b o e => by
    obtain ⟨n, e⟩ := msk_some e
    have hb : b ≠ p := ne_of_none e np
    rw [msk_out (fun z => (List.mem_cons.mp z).elim hb n), upd_ne hb]
    exact e
theorem new_l' {us vs : List V} {xs : List W} {A : List Addr} {p : Addr} (r : RWs K (msk H A) vs xs) (np : H p = none) : RWs K (msk (upd H p (.lst us)) (p :: A)) vs xs :=
  r.mono fun b o e => by
    obtain ⟨n, e⟩ := msk_some e
    have hb : b ≠ p := ne_of_none e np
    rw [msk_out (fun z => (List.mem_cons.mp z).elim hb n), upd_ne hb]
    exact e
theorem same_new {o : HO} {p : Addr} (np : H p = none) : Same H (upd H p o) := fun b o e => by rw [upd_ne (ne_of_none e np)]; exact e
def cutW {α : Type} (xs : List α) (lo hi : Option Int) : List α := (xs.drop (HT.sIx xs.length 0 lo)).take (HT.sIx xs.length xs.length hi - HT.sIx xs.length 0 lo)
theorem evf_slL {tl th : TO} {lo hi : Option Int} {xs : List W} (h : Ev K te s x) (l : LV s x xs) (hl : EvO K tl s lo) (hh : EvO K th s hi) : EvF K (tSl (rSlU K) te tl th) s (cutW xs lo hi) := fun B σ H Q S q =>
  h B σ H _ S fun v H1 e1 r1 => hl B σ H1 _ (S.mono e1) fun H2 e2 => hh B σ H2 _ (S.mono (e1.trans e2)) fun H3 e3 => by
    obtain ⟨a, vs, rfl, g, rr⟩ := l.get (S.mono ((e1.trans e2).trans e3)) (r1.mono (msk_same (e2.trans e3)))
    refine .inl ⟨a, vs, rfl, g, fun p np => q p _ _ (((e1.trans e2).trans e3).trans (same_new np)) (((e1.trans e2).trans e3).free np) upd_same (new_l ?_ np)⟩
    unfold cutV cutW
    rw [← rr.len]
    exact (rr.drop _).take _
/-! ### tests -/
theorem et_test {b : Bool} (h : Ev K te s (wb b)) : EvT K (tTest te) s b := fun B σ H Q S q => h B σ H _ S fun v H1 e1 r1 => ⟨b, rw_b r1, q H1 e1⟩
theorem et_B {b : Bool} (h : Ev K te s (wb b)) : EvT K (tB te) s b := fun B σ H Q S q => h B σ H _ S fun v H1 e1 r1 => ⟨b, rw_b r1, q H1 e1⟩
variable {t u : TT}
theorem et_and {a b : Bool} (h1 : EvT K t s a) (h2 : a = true → EvT K u s b) : EvT K (tAnd t u) s (a && b) := fun B σ H Q S q => h1 B σ H _ S fun H1 e1 => by
  cases a with
  | true => exact iteT (h2 rfl B σ H1 Q (S.mono e1) fun H2 e2 => q H2 (e1.trans e2))
  | false => exact iteF (q H1 e1)
theorem et_or {a b : Bool} (h1 : EvT K t s a) (h2 : a = false → EvT K u s b) : EvT K (tOr t u) s (a || b) := fun B σ H Q S q => h1 B σ H _ S fun H1 e1 => by
  cases a with
  | true => exact iteT (q H1 e1)
  | false => exact iteF (h2 rfl B σ H1 Q (S.mono e1) fun H2 e2 => q H2 (e1.trans e2))
theorem et_not {a : Bool} (h1 : EvT K t s a) : EvT K (tNot t) s (!a) := fun B σ H Q S q => h1 B σ H _ S fun H1 e1 => q H1 e1
theorem et_yes : EvT K tYes s true := fun B σ H Q S q => q H same_refl
theorem et_is {a b : Bool} (h : EvT K t s a) (e : a = b) : EvT K t s b := e ▸ h
def tTruthU (K : PySem.W.Frag) (ta : TE) : TT := fun σ H Q => ta σ H fun x H' => ∃ k, TruV K x H' k ∧ Q k H'
theorem et_tb {b : Bool} (h : Ev K te s (wb b)) : EvT K (tTruthU K te) s b := fun B σ H Q S q => h B σ H _ S fun v H1 e1 r1 => by
  cases rw_b r1
  exact ⟨b, rfl, q H1 e1⟩
theorem ev_andV {a b : Bool} (h1 : Ev K ta s (wb a)) (h2 : a = true → Ev K tb s (wb b)) : Ev K (tAndV ta tb) s (wb (a && b)) := fun B σ H Q S q => h1 B σ H _ S fun v H1 e1 r1 => ⟨a, rw_b r1, by
  cases a with
  | true => exact iteT (h2 rfl B σ H1 Q (S.mono e1) fun v H2 e2 r2 => q v H2 (e1.trans e2) r2)
  | false => exact iteF (q _ H1 e1 rb)⟩
theorem ev_orV {a b : Bool} (h1 : Ev K ta s (wb a)) (h2 : a = false → Ev K tb s (wb b)) : Ev K (tOrV ta tb) s (wb (a || b)) := fun B σ H Q S q => h1 B σ H _ S fun v H1 e1 r1 => ⟨a, rw_b r1, by
  cases a with
  | true => exact iteT (q _ H1 e1 rb)
  | false => exact iteF (h2 rfl B σ H1 Q (S.mono e1) fun v H2 e2 r2 => q v H2 (e1.trans e2) r2)⟩
theorem ev_notV {a : Bool} (h1 : Ev K ta s (wb a)) : Ev K (tNotV ta) s (wb (!a)) := fun B σ H Q S q => h1 B σ H _ S fun v H1 e1 r1 => ⟨a, rw_b r1, q _ H1 e1 rb⟩
theorem ev_if {b : Bool} (h : EvT K t s b) (h1 : b = true → Ev K ta s x) (h2 : b = false → Ev K tb s x) : Ev K (tIf t ta tb) s x := fun B σ H Q S q => h B σ H _ S fun H1 e1 => by
  cases b with
  | true => exact iteT (h1 rfl B σ H1 Q (S.mono e1) fun v H2 e2 r2 => q v H2 (e1.trans e2) r2)
  | false => exact iteF (h2 rfl B σ H1 Q (S.mono e1) fun v H2 e2 r2 => q v H2 (e1.trans e2) r2)
end
end DL

namespace DL
open PySem PySem.Spec PyProof.Rows L2
section
variable {K : PySem.W.Frag} {s : S} {ta tb te : TE} {x y z w : W} {r : R2} {B : List Addr} {H H' : Hp} {σ : L2.St} {X : Cx}
/-! ### operators -/
def rAddU : R2 := fun x y H Q => (rI0 fun i j => .int (i + j)) x y H Q ∨ ((∃ i j, x = .str i ∧ y = .str j ∧ i.length + j.length ≤ sizeLine ∧ Q (.str (i ++ j)) H) ∨ rCat x y H Q)
theorem op_addU : OpR X (binaryOp .Add) rAddU := op_add.or (op_add_str.or op_cat)
theorem rv_addI {i j : Int} : RVs K s rAddU (wi i) (wi j) (wi (i + j)) := fun B σ H v u Q S a b q => by
  cases rw_i a; cases rw_i b
  exact .inl ⟨i, j, rfl, rfl, q _ H same_refl ri⟩
theorem rv_addS {i j : Str} (h : i.length + j.length ≤ sizeLine) : RVs K s rAddU (ws i) (ws j) (ws (i ++ j)) := fun B σ H v u Q S a b q => by
  cases rw_s a; cases rw_s b
  exact .inr (.inl ⟨i, j, rfl, rfl, h, q _ H same_refl rs⟩)
def rMulU : R2 := fun x y H Q => rI CMul (fun i j => .int (i * j)) x y H Q ∨ rRep x y H Q
theorem op_mulU : OpR X (binaryOp .Mult) rMulU := op_mul.or op_rep
theorem rv_mulI {i j : Int} (h : CMul i j) : RVs K s rMulU (wi i) (wi j) (wi (i * j)) := fun B σ H v u Q S a b q => by
  cases rw_i a; cases rw_i b
  exact .inl ⟨i, j, rfl, rfl, h, q _ H same_refl ri⟩
abbrev rSubI : R2 := rI0 fun i j => .int (i - j)
theorem rv_sub {i j : Int} : RVs K s rSubI (wi i) (wi j) (wi (i - j)) := fun B σ H v u Q S a b q => by
  cases rw_i a; cases rw_i b
  exact ⟨i, j, rfl, rfl, q _ H same_refl ri⟩
abbrev rModI : R2 := rI (fun _ j => 0 < j) fun i j => .int (i % j)
theorem rv_mod {i j : Int} (h : 0 < j) : RVs K s rModI (wi i) (wi j) (wi (i % j)) := fun B σ H v u Q S a b q => by
  cases rw_i a; cases rw_i b
  exact ⟨i, j, rfl, rfl, h, q _ H same_refl ri⟩
abbrev rDivI : R2 := rI CDiv fun i j => .int (i / j)
theorem rv_div {i j : Int} (h : CDiv i j) : RVs K s rDivI (wi i) (wi j) (wi (i / j)) := fun B σ H v u Q S a b q => by
  cases rw_i a; cases rw_i b
  exact ⟨i, j, rfl, rfl, h, q _ H same_refl ri⟩
abbrev rPowI : R2 := rI CPow fun i j => .int (i ^ j.toNat)
theorem rv_pow {i j : Int} (h : CPow i j) : RVs K s rPowI (wi i) (wi j) (wi (i ^ j.toNat)) := fun B σ H v u Q S a b q => by
  cases rw_i a; cases rw_i b
  exact ⟨i, j, rfl, rfl, h, q _ H same_refl ri⟩
theorem ru_neg {i : Int} : RUs K s (rU fun i => .int (-i)) (wi i) (wi (-i)) := fun B σ H v Q S a q => by
  cases rw_i a
  exact ⟨i, rfl, q _ H same_refl ri⟩
abbrev rCmpI (p : Int → Int → Bool) : R2 := rI0 fun i j => .bl (p i j)
theorem rv_cmp {p : Int → Int → Bool} {i j : Int} : RVs K s (rI0 fun i j => .bl (p i j)) (wi i) (wi j) (wb (p i j)) := fun B σ H v u Q S a b q => by
  cases rw_i a; cases rw_i b
  exact ⟨i, j, rfl, rfl, q _ H same_refl rb⟩
def rLtU : R2 := fun x y H Q => (rI0 fun i j => .bl (decide (i < j))) x y H Q ∨ ∃ i j, x = .str i ∧ y = .str j ∧ Q (.bl (decide (i.cps.toList < j.cps.toList))) H
theorem op_ltU : OpR X (compareOp .Lt) rLtU := op_lt.or op_lt_str
def rGtU : R2 := fun x y H Q => (rI0 fun i j => .bl (decide (j < i))) x y H Q ∨ ∃ i j, x = .str i ∧ y = .str j ∧ Q (.bl (decide (j.cps.toList < i.cps.toList))) H
theorem op_gtU : OpR X (compareOp .Gt) rGtU := op_gt.or op_gt_str
def rLeU : R2 := fun x y H Q => (rI0 fun i j => .bl (decide (i ≤ j))) x y H Q ∨ ∃ i j, x = .str i ∧ y = .str j ∧ Q (.bl (!decide (j.cps.toList < i.cps.toList))) H
theorem op_leU : OpR X (compareOp .LtE) rLeU := op_le.or op_le_str
def rGeU : R2 := fun x y H Q => (rI0 fun i j => .bl (decide (j ≤ i))) x y H Q ∨ ∃ i j, x = .str i ∧ y = .str j ∧ Q (.bl (!decide (i.cps.toList < j.cps.toList))) H
theorem op_geU : OpR X (compareOp .GtE) rGeU := op_ge.or op_ge_str
theorem rv_ltI {i j : Int} : RVs K s rLtU (wi i) (wi j) (wb (decide (i < j))) := fun B σ H v u Q S a b q => .inl (rv_cmp (p := fun i j => decide (i < j)) B σ H v u Q S a b q)
theorem rv_gtI {i j : Int} : RVs K s rGtU (wi i) (wi j) (wb (decide (j < i))) := fun B σ H v u Q S a b q => .inl (rv_cmp (p := fun i j => decide (j < i)) B σ H v u Q S a b q)
theorem rv_leI {i j : Int} : RVs K s rLeU (wi i) (wi j) (wb (decide (i ≤ j))) := fun B σ H v u Q S a b q => .inl (rv_cmp (p := fun i j => decide (i ≤ j)) B σ H v u Q S a b q)
theorem rv_geI {i j : Int} : RVs K s rGeU (wi i) (wi j) (wb (decide (j ≤ i))) := fun B σ H v u Q S a b q => .inl (rv_cmp (p := fun i j => decide (j ≤ i)) B σ H v u Q S a b q)
theorem rv_ltS {i j : Str} : RVs K s rLtU (ws i) (ws j) (wb (decide (i.cps.toList < j.cps.toList))) := fun B σ H v u Q S a b q => by
  cases rw_s a; cases rw_s b
  exact .inr ⟨i, j, rfl, rfl, q _ H same_refl rb⟩
theorem rv_gtS {i j : Str} : RVs K s rGtU (ws i) (ws j) (wb (decide (j.cps.toList < i.cps.toList))) := fun B σ H v u Q S a b q => by
  cases rw_s a; cases rw_s b
  exact .inr ⟨i, j, rfl, rfl, q _ H same_refl rb⟩
def rEqU (K : PySem.W.Frag) : R2 := fun x y H Q => rEq x y H Q ∨ rEqD K x y H Q
def rNeU (K : PySem.W.Frag) : R2 := fun x y H Q => rNe x y H Q ∨ rNeD K x y H Q
theorem op_eqU (hu : X.A.units + 64 < cLine) : OpR X (compareOp .Eq) (rEqU X.K) := op_eq.or (op_eqD hu)
theorem op_neU (hu : X.A.units + 64 < cLine) : OpR X (compareOp .NotEq) (rNeU X.K) := op_ne.or (op_neD hu)
theorem rv_eqI {i j : Int} : RVs K s (rEqU K) (wi i) (wi j) (wb (decide (i = j))) := fun B σ H v u Q S a b q => by
  cases rw_i a; cases rw_i b
  refine .inl ⟨rfl, ?_⟩
  rw [show decide (V.int i = V.int j) = decide (i = j) by simp]
  exact q _ H same_refl rb
theorem rv_neI {i j : Int} : RVs K s (rNeU K) (wi i) (wi j) (wb (!decide (i = j))) := fun B σ H v u Q S a b q => by
  cases rw_i a; cases rw_i b
  refine .inl ⟨rfl, ?_⟩
  rw [show decide (V.int i = V.int j) = decide (i = j) by simp]
  exact q _ H same_refl rb
theorem rv_eqS {i j : Str} : RVs K s (rEqU K) (ws i) (ws j) (wb (decide (i = j))) := fun B σ H v u Q S a b q => by
  cases rw_s a; cases rw_s b
  refine .inl ⟨rfl, ?_⟩
  rw [show decide (V.str i = V.str j) = decide (i = j) by simp]
  exact q _ H same_refl rb
theorem rv_neS {i j : Str} : RVs K s (rNeU K) (ws i) (ws j) (wb (!decide (i = j))) := fun B σ H v u Q S a b q => by
  cases rw_s a; cases rw_s b
  refine .inl ⟨rfl, ?_⟩
  rw [show decide (V.str i = V.str j) = decide (i = j) by simp]
  exact q _ H same_refl rb
theorem rv_eqB {i j : Bool} : RVs K s (rEqU K) (wb i) (wb j) (wb (decide (i = j))) := fun B σ H v u Q S a b q => by
  cases rw_b a; cases rw_b b
  refine .inl ⟨rfl, ?_⟩
  rw [show decide (V.bl i = V.bl j) = decide (i = j) by simp]
  exact q _ H same_refl rb
theorem rv_neB {i j : Bool} : RVs K s (rNeU K) (wb i) (wb j) (wb (!decide (i = j))) := fun B σ H v u Q S a b q => by
  cases rw_b a; cases rw_b b
  refine .inl ⟨rfl, ?_⟩
  rw [show decide (V.bl i = V.bl j) = decide (i = j) by simp]
  exact q _ H same_refl rb
/-- a value seen as data in the whole heap: what has no further changes while it is looked at -/
def DV (s : S) (w : W) (d : PyData) : Prop := w = .d d ∨ (∃ a ds, w = .o a ∧ d = .list ds ∧ (a, Cell.lst (ds.map .d)) ∈ s.h) ∨ ∃ ns : List Int, w = .sc ns ∧ d = .list (ns.map .int)
theorem dv_d {d : PyData} : DV s (.d d) d := .inl rfl
theorem dv_o {a : Addr} {ds : List PyData} (n : Nat) (h : s.h[n]? = some (a, .lst (ds.map .d))) : DV s (.o a) (.list ds) := .inr (.inl ⟨a, ds, rfl, rfl, List.mem_of_getElem? h⟩)
theorem sc_dp {M : Hp} : ∀ ns : List Int, DpAll K M (ns.map V.int) (ns.map PyData.int)
  | [] => .nil
  | _ :: ns => .cons (.int _) (sc_dp ns)
theorem DV.get {d : PyData} (h : DV s w d) (S : Sat K B s σ H) {v : V} (q : RW K (msk H (ads s.h ++ B)) v w) : Dp K H v d := by
  rcases h with rfl | ⟨a, ds, rfl, rfl, m⟩ | ⟨ns, rfl, rfl⟩
  · exact dq_dp (dp_mono msk_sub q)
  · cases q
    obtain ⟨vs, e, r⟩ := S.hh.cell _ m
    exact .lst (SqL.of e) (dqa_dpa (dpa_mono msk_sub (rws_dpa r)))
  · obtain ⟨a, rfl, q⟩ := q
    exact .lst (msk_sub.seq q) (sc_dp ns)
theorem rv_eqD {d e : PyData} (hx : DV s x d) (hy : DV s y e) (h1 : SeqAt.shaped d = true) (h2 : SeqAt.shaped e = true) : RVs K s (rEqU K) x y (wb (PyData.eqv d e)) := fun B σ H v u Q S a b q =>
  .inr ⟨d, e, hx.get S a, hy.get S b, h1, h2, q _ H same_refl rb⟩
theorem rv_neD {d e : PyData} (hx : DV s x d) (hy : DV s y e) (h1 : SeqAt.shaped d = true) (h2 : SeqAt.shaped e = true) : RVs K s (rNeU K) x y (wb (!PyData.eqv d e)) := fun B σ H v u Q S a b q =>
  .inr ⟨d, e, hx.get S a, hy.get S b, h1, h2, q _ H same_refl rb⟩
/-- is None -/
def rIsN : R2 := fun x y H Q => y = .non ∧ Q (.bl (decide (x = .non))) H
def rNotN : R2 := fun x y H Q => y = .non ∧ Q (.bl (!decide (x = .non))) H
theorem op_isN1 : OpR X (compareOp .Is) rIsN := op_isN
theorem op_notN1 : OpR X (compareOp .IsNot) rNotN := op_notN
theorem rv_isn {b : Bool} (h : ∀ (M : Hp) v, RW K M v x → decide (v = .non) = b) : RVs K s rIsN x wn (wb b) := fun B σ H v u Q S a c q => by
  cases rw_n c
  refine ⟨rfl, ?_⟩
  rw [h _ _ a]
  exact q _ H same_refl rb
theorem rv_notn {b : Bool} (h : ∀ (M : Hp) v, RW K M v x → decide (v = .non) = b) : RVs K s rNotN x wn (wb (!b)) := fun B σ H v u Q S a c q => by
  cases rw_n c
  refine ⟨rfl, ?_⟩
  rw [h _ _ a]
  exact q _ H same_refl rb
/-! ### items -/
theorem atI_rw {M : Hp} {vs : List V} {xs : List W} (h : RWs K M vs xs) {i : Int} (e : atI xs i = some w) : ∃ v, atI vs i = some v ∧ RW K M v w := by
  unfold atI at e ⊢
  rw [h.len]
  cases q : ixN xs.length i with
  | none => rw [q] at e; cases e
  | some j =>
    rw [q] at e
    exact h.get (i := j) e
theorem rv_ixL {i : Int} {xs : List W} (l : LV s x xs) (e : atI xs i = some z) : RVs K s (rIx K) x (wi i) z := fun B σ H v u Q S a b q => by
  cases rw_i b
  obtain ⟨p, vs, rfl, g, rr⟩ := l.get S a
  obtain ⟨t, e2, rt⟩ := atI_rw rr e
  exact .inl ⟨p, vs, i, t, rfl, rfl, g, e2, q _ H same_refl rt⟩
theorem rv_ixT {i : Int} {ds : List PyData} {d : PyData} (e : atI ds i = some d) : RVs K s (rIx K) (wt ds) (wi i) (.d d) := fun B σ H v u Q S a b q => by
  cases rw_i b
  cases a with
  | tup hs ha =>
    obtain ⟨t, e2, rt⟩ := atI_rw (dpa_rws ha) (i := i) (w := .d d) (by
      unfold atI at e ⊢
      rw [List.length_map]
      cases q : ixN ds.length i with
      | none => rw [q] at e; cases e
      | some j =>
        rw [q] at e
        show (ds.map W.d)[j]? = _
        rw [List.getElem?_map]
        show Option.map _ (ds[j]?) = _
        rw [show ds[j]? = some d from e]
        rfl)
    exact .inr (.inl ⟨_, _, i, t, rfl, rfl, (hs.mono msk_sub).sq, e2, q _ H same_refl rt⟩)
theorem rv_ixS {i : Int} {y : Str} {c : Nat} (hz : y.length ≤ sizeLine) (e : atI y.cps.toList i = some c) : RVs K s (rIx K) (ws y) (wi i) (ws ⟨#[c]⟩) := fun B σ H v u Q S a b q => by
  cases rw_s a; cases rw_i b
  exact .inr (.inr ⟨y, i, c, rfl, rfl, hz, e, q _ H same_refl rs⟩)
/-! ### built-ins -/
theorem rc_lenS {y : Str} (hz : y.length ≤ sizeLine) : RCs K s (fun xs H Q => ∃ x n, xs = [x] ∧ LenV K x H n ∧ Q (.int n) H) [ws y] (wi y.length) := fun B σ H vs Q S a q => by
  cases a with
  | cons a1 a2 =>
    cases a2; cases rw_s a1
    exact ⟨_, _, rfl, ⟨hz, rfl⟩, q _ H same_refl ri⟩
theorem rc_lenL {xs : List W} (l : QV s x xs) : RCs K s (fun xs H Q => ∃ x n, xs = [x] ∧ LenV K x H n ∧ Q (.int n) H) [x] (wi xs.length) := fun B σ H vs Q S a q => by
  cases a with
  | cons a1 a2 =>
    cases a2
    obtain ⟨p, vs, rfl, g, rr⟩ := l.get S a1
    refine ⟨_, vs.length, rfl, ?_, ?_⟩
    · rcases g with g | g
      · exact .inl ⟨vs, g, rfl⟩
      · exact .inr ⟨vs, g, rfl⟩
    · rw [rr.len]
      exact q _ H same_refl ri
theorem rc_intI {i : Int} : RCs K s (fun xs H Q => (∃ i, xs = [.int i] ∧ Q (.int i) H) ∨ ∃ k, xs = [.bl k] ∧ Q (.int (if k then 1 else 0)) H) [wi i] (wi i) := fun B σ H vs Q S a q => by
  cases a with
  | cons a1 a2 =>
    cases a2; cases rw_i a1
    exact .inl ⟨i, rfl, q _ H same_refl ri⟩
theorem rc_intB {b : Bool} : RCs K s (fun xs H Q => (∃ i, xs = [.int i] ∧ Q (.int i) H) ∨ ∃ k, xs = [.bl k] ∧ Q (.int (if k then 1 else 0)) H) [wb b] (wi (if b then 1 else 0)) := fun B σ H vs Q S a q => by
  cases a with
  | cons a1 a2 =>
    cases a2; cases rw_b a1
    exact .inr ⟨b, rfl, q _ H same_refl ri⟩
theorem rc_strI {i : Int} (h : i.natAbs.log2 < 1920) : RCs K s (fun xs H Q => ∃ i, xs = [.int i] ∧ i.natAbs.log2 < 1920 ∧ Q (.str (toString i)) H) [wi i] (ws (toString i)) := fun B σ H vs Q S a q => by
  cases a with
  | cons a1 a2 =>
    cases a2; cases rw_i a1
    exact ⟨i, rfl, h, q _ H same_refl rs⟩
theorem rc_abs {i : Int} : RCs K s (fun xs H Q => ∃ i, xs = [.int i] ∧ Q (.int (if i < 0 then -i else i)) H) [wi i] (wi (if i < 0 then -i else i)) := fun B σ H vs Q S a q => by
  cases a with
  | cons a1 a2 =>
    cases a2; cases rw_i a1
    exact ⟨i, rfl, q _ H same_refl ri⟩
theorem rc_max {i j : Int} : RCs K s (fun xs H Q => ∃ i j, xs = [.int i, .int j] ∧ Q (.int (if j > i then j else i)) H) [wi i, wi j] (wi (if j > i then j else i)) := fun B σ H vs Q S a q => by
  cases a with
  | cons a1 a2 =>
    cases a2 with
    | cons a2 a3 =>
      cases a3; cases rw_i a1; cases rw_i a2
      exact ⟨i, j, rfl, q _ H same_refl ri⟩
theorem rc_min {i j : Int} : RCs K s (fun xs H Q => ∃ i j, xs = [.int i, .int j] ∧ Q (.int (if j < i then j else i)) H) [wi i, wi j] (wi (if j < i then j else i)) := fun B σ H vs Q S a q => by
  cases a with
  | cons a1 a2 =>
    cases a2 with
    | cons a2 a3 =>
      cases a3; cases rw_i a1; cases rw_i a2
      exact ⟨i, j, rfl, q _ H same_refl ri⟩
theorem rc_ord {c : Nat} : RCs K s (fun xs H Q => ∃ x, xs = [.str x] ∧ x.length = 1 ∧ Q (.int (x.cps.getD 0 0 : Nat)) H) [ws ⟨#[c]⟩] (wi (c : Int)) := fun B σ H vs Q S a q => by
  cases a with
  | cons a1 a2 =>
    cases a2; cases rw_s a1
    exact ⟨_, rfl, rfl, q _ H same_refl ri⟩
/-- isinstance of a value of a built-in class -/
def clsW : W → String
  | .d .none => "NoneType"
  | .d (.bool _) => "bool"
  | .d (.int _) => "int"
  | .d (.str _) => "str"
  | .d (.list _) => "list"
  | .d (.tuple _) => "tuple"
  | .o _ => "list"
  | _ => "?"
theorem rc_isi {T : String} {b : Bool} (x : W) (hx : match x with | .d (.dict _) => False | .d .none => False | .d _ => True | .o a => ∃ xs, (a, Cell.lst xs) ∈ s.h | _ => False) (h : kitB (clsW x) T = some b) :
    RCs K s (rIsi K) [x, .x (.ty T)] (wb b) := fun B σ H vs Q S a q => by
  cases a with
  | cons a1 a2 =>
    cases a2 with
    | cons a2 a3 =>
      cases a3
      cases (show _ = V.ty T from a2)
      refine ⟨_, _, .type (clsW x), .type T, b, rfl, .ty T, ?_, kit_ty h, q _ H same_refl rb⟩
      cases x with
      | d p =>
        cases p with
        | none => exact hx.elim
        | bool c => cases rw_b a1; exact .base (.bl c)
        | int c => cases rw_i a1; exact .base (.int c)
        | str c => cases rw_s a1; exact .base (.str c)
        | list ds =>
          cases a1 with
          | lst hs ha => exact .base (.lst (msk_sub _ _ hs))
        | tuple ds =>
          cases a1 with
          | tup hs ha =>
            rcases (hs.mono msk_sub).sq with (g | ⟨o, g⟩) | ⟨o, its, n, hk, hc, _⟩
            · exact .base (.tup g)
            · exact .fTuple g
            · exact .kTuple hk hc
        | dict _ => exact hx.elim
      | o a =>
        obtain ⟨xs, m⟩ := hx
        obtain ⟨vs, e, _⟩ := S.hh.cell _ m
        cases (show _ = V.ref a from a1)
        exact .base (.lst e)
      | x _ => exact hx.elim
      | sc _ => exact hx.elim
/-! ### methods of texts -/
theorem rm_find {a b : Str} : RMs K s (fun x xs H Q => ∃ a b, x = .str a ∧ xs = [.str b] ∧ Q (.int (Txt.find a b)) H) (ws a) [ws b] (wi (Txt.find a b)) := fun B σ H v vs Q S h1 h2 q => by
  cases rw_s h1
  cases h2 with
  | cons h2 h3 =>
    cases h3; cases rw_s h2
    exact ⟨a, b, rfl, rfl, q _ H same_refl ri⟩
theorem dqa_strs {M : Hp} : ∀ {ys : List Str} {vs : List V}, DqAll K M vs (ys.map .str) → vs = ys.map V.str
  | [], _, h => by cases h; rfl
  | y :: ys, _, h => by
    cases h with
    | cons h1 h2 => cases h1; rw [dqa_strs h2]; rfl
theorem rm_join {a : Str} {ys : List Str} (hz : (ys.map (·.length)).sum + ys.length * a.length ≤ 16777216) :
    RMs K s (fun x xs H Q => ∃ a p, ∃ ys : List Str, x = .str a ∧ xs = [.ref p] ∧ (SqL K H p (ys.map V.str) ∨ SqT K H p (ys.map V.str)) ∧ (ys.map (·.length)).sum + ys.length * a.length ≤ 16777216 ∧ Q (.str (Txt.join a ys)) H)
      (ws a) [wl (ys.map .str)] (ws (Txt.join a ys)) := fun B σ H v vs Q S h1 h2 q => by
  cases rw_s h1
  cases h2 with
  | cons h2 h3 =>
    cases h3
    cases h2 with
    | lst hs ha =>
      have e := dqa_strs ha
      subst e
      exact ⟨a, _, ys, rfl, rfl, .inl (SqL.of (msk_sub _ _ hs)), hz, q _ H same_refl rs⟩
end
end DL

namespace DL
open PySem PySem.Spec PyProof.Rows L2
section
variable {K : PySem.W.Frag} {s : S} {ta tb te tl : TE} {tt : TT} {x y z w : W} {r : R2} {B : List Addr} {H H' : Hp} {σ : L2.St} {X : Cx}
/-! ### comprehensions -/
def wipeG (Γ : Gam) : List Nat → Gam
  | [] => Γ
  | v :: vs => (wipeG Γ vs).set v none
theorem wipeG_len (Γ : Gam) : ∀ vs, (wipeG Γ vs).length = Γ.length
  | [] => rfl
  | v :: vs => by unfold wipeG; rw [List.length_set, wipeG_len Γ vs]
theorem wipe_sat {M : Hp} {Γ : Gam} (h : SatG K M Γ σ) : ∀ vs, SatG K M (wipeG Γ vs) (wipe σ vs)
  | [] => h
  | v :: vs => by
    have g := wipe_sat h vs
    unfold wipe wipeG
    refine ⟨by simp [g.1], fun j u q => ?_⟩
    by_cases e : v = j
    · subst e
      by_cases hj : v < (wipeG Γ vs).length
      · rw [List.getElem?_set_self hj] at q; cases q
      · rw [List.getElem?_eq_none (by simpa using hj)] at q; cases q
    · rw [List.getElem?_set_ne e] at q
      rw [List.getElem?_set_ne e]
      exact g.2 j u q
theorem wipe_set {σ : L2.St} {j : Nat} {u : Option V} : ∀ {vs : List Nat}, j ∈ vs → wipe ((wipe σ vs).set j u) vs = wipe σ vs := by
  intro vs hj
  refine List.ext_getElem? fun i => ?_
  have key : ∀ (τ : L2.St) (ws : List Nat), (wipe τ ws)[i]? = if i ∈ ws ∧ i < τ.length then some none else τ[i]? := by
    intro τ ws
    induction ws with
    | nil => simp [wipe]
    | cons a ws ih =>
      unfold wipe
      rw [List.getElem?_set, wipe_length, ih]
      by_cases e : a = i
      · subst e
        by_cases hl : a < τ.length
        · simp [hl]
        · simp [hl]
      · simp only [e, if_false, List.mem_cons, Ne.symm e, false_or]
  rw [key, key, List.length_set, wipe_length, List.getElem?_set, wipe_length, key]
  by_cases hi : i ∈ vs
  · by_cases hl : i < σ.length
    · simp [hi, hl]
    · have : ¬ (j = i ∧ j < σ.length) := fun ⟨a, b⟩ => hl (a ▸ b)
      simp [hi, hl]
      intro e1
      omega
  · have : j ≠ i := fun e => hi (e ▸ hj)
    simp [hi, this]
/-- the state within a comprehension that fills D -/
def CW (K : PySem.W.Frag) (B : List Addr) (s : S) (σ : L2.St) (H1 : Hp) (D : Addr) (out : List W) (H : Hp) : Prop :=
  Same H1 H ∧ ∃ acc, H D = some (.lst acc) ∧ RWs K (msk H (D :: (ads s.h ++ B))) acc out
theorem cw_sat (S : Sat K B s σ H) {D : Addr} (nD : H D = none) {H' : Hp} (e : Same H H') (hD : ∃ xs, H' D = some (.lst xs)) : Sat K (D :: B) s σ H' := by
  have S' := S.mono e
  have nA : D ∉ ads s.h := fun z => S.hh.out nD (List.mem_append_left _ z)
  have sub : Same (msk H (ads s.h ++ B)) (msk H' (ads s.h ++ D :: B)) := fun b o q => by
    obtain ⟨n, q⟩ := msk_some q
    rw [msk_out ?_]
    · exact e _ _ q
    · intro z
      rcases List.mem_append.mp z with z | z
      · exact n (List.mem_append_left _ z)
      · rcases List.mem_cons.mp z with z | z
        · rw [z, nD] at q; cases q
        · exact n (List.mem_append_right _ z)
  refine ⟨⟨fun p hp => ?_, S.hh.nd, fun b hb => ?_, fun b hb => ?_, fun b hb xs z => ?_⟩, S.gg.mono sub⟩
  rotate_right
  · rcases List.mem_cons.mp hb with rfl | hb
    · obtain ⟨ys, hD⟩ := hD
      rw [hD] at z; cases z
    · exact S'.hh.nt b hb xs z
  · have q := S.hh.cell p hp
    obtain ⟨o, ho⟩ := q.some
    rw [ho] at q
    rw [e _ _ ho]
    exact q.mono sub
  · rcases List.mem_cons.mp hb with rfl | hb
    · obtain ⟨ys, hD⟩ := hD
      rw [hD]; exact fun z => nomatch z
    · exact S'.hh.bt b hb
  · rcases List.mem_cons.mp hb with rfl | hb
    · exact nA
    · exact S.hh.db b hb
theorem cw_start {D : Addr} (nD : H D = none) : CW K B s σ H D [] (upd H D (.lst [])) := ⟨same_new nD, [], upd_same, .nil⟩
theorem cw_end {out : List W} {D : Addr} {Q : VK} (c : CW K B s σ H D out H')
    (q : ∀ a vs H2, Same H H2 → H2 a = some (.lst vs) → a = D → RWs K (msk H2 (a :: (ads s.h ++ B))) vs out → Q (.ref a) H2) : Q (.ref D) H' := by
  obtain ⟨e, acc, h, r⟩ := c
  exact q D acc H' e h rfl r
/-- one turn -/
theorem cw_turn {S1 : S} {b : Bool} {w : W} {out : List W} {D : Addr} {σ2 : L2.St} {Nx : Hp → Prop} (c : CW K B s σ H D out H') (S3 : Sat K (D :: B) S1 σ2 H') (nD : H D = none) (hh : S1.h = s.h) (hz : out.length < sizeLine) (ht : EvT K tt S1 b) (he : b = true → Ev K te S1 w)
    (hy : b = true → ∀ H2, CW K B s σ H D (out ++ [w]) H2 → Nx H2) (hn : b = false → ∀ H2, CW K B s σ H D out H2 → Nx H2) :
    tt σ2 H' fun b H3 => if b = true then te σ2 H3 fun y H4 => ∃ acc, H4 D = some (.lst acc) ∧ acc.length < sizeLine ∧ Nx (upd H4 D (.lst (acc ++ [y]))) else Nx H3 := by
  obtain ⟨e, acc, hD, r⟩ := c
  have sw1 : ∀ H : Hp, Same (msk H (D :: (ads s.h ++ B))) (msk H (ads s.h ++ D :: B)) := fun H => msk_less fun b hb => by
    rcases List.mem_append.mp hb with z | z
    · exact List.mem_cons_of_mem _ (List.mem_append_left _ z)
    · rcases List.mem_cons.mp z with z | z
      · exact z ▸ List.mem_cons_self
      · exact List.mem_cons_of_mem _ (List.mem_append_right _ z)
  have sw2 : ∀ H : Hp, Same (msk H (ads s.h ++ D :: B)) (msk H (D :: (ads s.h ++ B))) := fun H => msk_less fun b hb => by
    rcases List.mem_cons.mp hb with z | z
    · exact List.mem_append_right _ (z ▸ List.mem_cons_self)
    · rcases List.mem_append.mp z with z | z
      · exact List.mem_append_left _ z
      · exact List.mem_append_right _ (List.mem_cons_of_mem _ z)
  refine ht (D :: B) σ2 H' _ S3 fun H3 e3 => ?_
  cases b with
  | false => exact iteF (hn rfl _ ⟨e.trans e3, acc, e3 _ _ hD, r.mono (msk_same e3)⟩)
  | true =>
    refine iteT (he rfl (D :: B) σ2 H3 _ (S3.mono e3) fun y H4 e4 ry => ⟨acc, e4 _ _ (e3 _ _ hD), by rw [r.len]; exact hz, hy rfl _ ⟨fun b o q => ?_, acc ++ [y], upd_same, ?_⟩⟩)
    · have nb : b ≠ D := ne_of_none q nD
      rw [upd_ne nb]
      exact e4 _ _ (e3 _ _ (e _ _ q))
    · have m : ∀ A, D ∈ A → Same (msk H4 A) (msk (upd H4 D (.lst (acc ++ [y]))) A) := fun A hA b o q => by
        obtain ⟨n, q⟩ := msk_some q
        have nb : b ≠ D := fun z => n (z ▸ hA)
        rw [msk_out n, upd_ne nb]
        exact q
      refine ((r.mono (msk_same (e3.trans e4))).append (.cons ?_ .nil)).mono (m _ List.mem_cons_self)
      rw [hh] at ry
      exact ry.mono (sw2 _)
/-- the results of a comprehension: kept ones among n -/
def outs (n : Nat) (f : Nat → Bool) (v : Nat → W) : List W := ((List.range n).filter f).map v
theorem outs_yes {n : Nat} {f : Nat → Bool} {v : Nat → W} (h : f n = true) : outs (n + 1) f v = outs n f v ++ [v n] := by
  unfold outs
  rw [List.range_succ, List.filter_append, List.map_append]
  simp [List.filter, h]
theorem outs_no {n : Nat} {f : Nat → Bool} {v : Nat → W} (h : f n = false) : outs (n + 1) f v = outs n f v := by
  unfold outs
  rw [List.range_succ, List.filter_append, List.map_append]
  simp [List.filter, h]
theorem outs_len (n : Nat) (f : Nat → Bool) (v : Nat → W) : (outs n f v).length ≤ n := by
  unfold outs
  rw [List.length_map]
  have h := List.length_filter_le f (List.range n)
  rw [List.length_range] at h
  exact h
theorem outs_all (n : Nat) (v : Nat → W) : outs n (fun _ => true) v = (List.range n).map v := by
  unfold outs
  rw [List.filter_eq_self.mpr (fun _ _ => rfl)]
/-- the block's slots -/
abbrev inB (s : S) (vs : List Nat) (j : Nat) (w : W) : S := ⟨(wipeG s.g vs).set j (some w), s.h⟩
theorem evf_lcR {tr : TA} {j : Nat} {vs : List Nat} {n : Int} (f : Nat → Bool) (v : Nat → W) (h : EvA K tr s [wi n]) (hn : n ≤ 16000000) (hj : j ∈ vs)
    (ht : ∀ i : Nat, (i : Int) < n → EvT K tt (inB s vs j (wi (i : Int))) (f i)) (he : ∀ i : Nat, (i : Int) < n → f i = true → Ev K te (inB s vs j (wi (i : Int))) (v i)) (h0 : -(2 ^ 62) ≤ n) :
    EvF K (tLc (iRng1 tr) (gName j) tt te vs) s (outs n.toNat f v) := fun B σ H Q S q =>
  h B σ H _ S fun us H1 e1 r1 => by
    cases r1 with
    | cons r1 r2 =>
      cases r2; cases rw_i r1
      refine ⟨n, rfl, h0, by omega, fun D nD => ?_⟩
      have S1 := S.mono e1
      refine lc_range (lo := 0) (n := n.toNat) (fun i H' => CW K B s σ H1 D (outs i f v) H') (cw_start nD) (fun i H' hi c => ?_) (fun H' c => cw_end c fun a us H2 e2 ha ea rr => q a us H2 (e1.trans e2) (by rw [ea]; exact e1.free nD) ha rr)
      refine ⟨wipe_set hj, ?_⟩
      have e0 : (0 : Int) + (i : Int) = (i : Int) := Int.zero_add _
      have hlt : (i : Int) < n := by omega
      rw [e0]
      have hz : (outs i f v).length < sizeLine := Nat.lt_of_le_of_lt (outs_len i f v) (by rw [sizeLine_eq]; omega)
      obtain ⟨e, acc, hD, r⟩ := c
      have S2 := cw_sat S1 nD e ⟨_, hD⟩
      have S3 : Sat K (D :: B) (inB s vs j (wi (i : Int))) ((wipe σ vs).set j (some (.int (i : Int)))) H' := ⟨S2.hh, (wipe_sat S2.gg vs).set ri j⟩
      exact cw_turn ⟨e, acc, hD, r⟩ S3 nD rfl hz (ht i hlt) (he i hlt) (fun hb H2 c2 => by rw [outs_yes hb]; exact c2) (fun hb H2 c2 => by rw [outs_no hb]; exact c2)
theorem evf_lcL {j : Nat} {vs : List Nat} {xs : List W} (f : Nat → Bool) (v : Nat → W) (h : Ev K tl s x) (l : LV s x xs) (hl : xs.length ≤ 16000000) (hj : j ∈ vs)
    (ht : ∀ (i : Nat) (u : W), xs[i]? = some u → EvT K tt (inB s vs j u) (f i)) (he : ∀ (i : Nat) (u : W), xs[i]? = some u → f i = true → Ev K te (inB s vs j u) (v i)) :
    EvF K (tLc (iList K tl) (gName j) tt te vs) s (outs xs.length f v) := fun B σ H Q S q =>
  h B σ H _ S fun u H1 e1 r1 => by
    have S1 := S.mono e1
    obtain ⟨a, us, rfl, g, rr⟩ := l.get S1 r1
    refine ⟨a, rfl, ⟨us, g⟩, fun D nD => ?_⟩
    refine lc_list (xs := us) (fun i H' => CW K B s σ H1 D (outs i f v) H') (cw_start nD) (fun i H' _ c => c.1.seq g) (fun i y H' hi c => ?_) (fun H' c => cw_end (by rw [rr.len] at c; exact c) fun a us H2 e2 ha ea rr => q a us H2 (e1.trans e2) (by rw [ea]; exact e1.free nD) ha rr)
    obtain ⟨u, hu, ru⟩ := rr.getv hi
    have hlt : i < xs.length := (List.getElem?_eq_some_iff.mp hu).1
    refine ⟨wipe_set hj, ?_⟩
    have hz : (outs i f v).length < sizeLine := Nat.lt_of_le_of_lt (outs_len i f v) (by rw [sizeLine_eq]; omega)
    -- the item is data of the heap at the start
    have S2 : Sat K B ⟨(wipeG s.g vs).set j (some u), s.h⟩ ((wipe σ vs).set j (some y)) H1 := ⟨S1.hh, (wipe_sat S1.gg vs).set ru j⟩
    obtain ⟨e, acc, hD, r⟩ := c
    have S3 := cw_sat S2 nD e ⟨_, hD⟩
    exact cw_turn ⟨e, acc, hD, r⟩ S3 nD rfl hz (ht i u hu) (he i u hu) (fun hb H2 c2 => by rw [outs_yes hb]; exact c2) (fun hb H2 c2 => by rw [outs_no hb]; exact c2)
/-- over the signs of a text -/
theorem lc_str {x : Str} {g : TG} {tb : TT} {te : TE} {vs : List Nat} {σ : L2.St} {H1 : Hp} {D : Addr} {Qd : Hp → Prop} (Pv : Nat → Hp → Prop) (h0 : Pv 0 (upd H1 D (.lst [])))
    (hs : ∀ i c H, x.cps[i]? = some c → Pv i H → g (.str ⟨#[c]⟩) (wipe σ vs) H fun σ2 H2 => wipe σ2 vs = wipe σ vs ∧ tb σ2 H2 fun b H3 =>
      if b = true then te σ2 H3 fun y H4 => ∃ acc, H4 D = some (.lst acc) ∧ acc.length < sizeLine ∧ Pv (i + 1) (upd H4 D (.lst (acc ++ [y]))) else Pv (i + 1) H3) (hd : ∀ H, Pv x.cps.size H → Qd H) :
    ∃ W : Nat → Nat → Hp → Prop, (∃ m, W 0 m (upd H1 D (.lst []))) ∧ ∀ i m H, W i m H →
      ((Its x).stop i H ∧ Qd H) ∨ ((Its x).go i H ∧ ∃ Nx : Hp → Prop, (∀ H', Nx H' → ∃ m', m' < m ∧ W (i + 1) m' H') ∧ ∀ y H', (Its x).yld i H y H' → g y (wipe σ vs) H' fun σ2 H2 => wipe σ2 vs = wipe σ vs ∧ tb σ2 H2 fun b H3 =>
        if b = true then te σ2 H3 fun y H4 => ∃ acc, H4 D = some (.lst acc) ∧ acc.length < sizeLine ∧ Nx (upd H4 D (.lst (acc ++ [y]))) else Nx H3) := by
  refine ⟨fun i m H => m = x.cps.size - i ∧ i ≤ x.cps.size ∧ Pv i H, ⟨x.cps.size, by simp, Nat.zero_le _, h0⟩, ?_⟩
  rintro i m H ⟨rfl, hi, p⟩
  by_cases hlt : i < x.cps.size
  · refine .inr ⟨hlt, Pv (i + 1), fun H' p' => ⟨x.cps.size - (i + 1), by omega, rfl, hlt, p'⟩, fun y H' z => ?_⟩
    obtain ⟨e, c, hc, ey⟩ := z
    subst e ey
    exact hs i c _ hc p
  · have e : i = x.cps.size := by omega
    subst e
    exact .inl ⟨Nat.le_refl _, hd H p⟩
theorem evf_lcS {j : Nat} {vs : List Nat} {y : Str} (f : Nat → Bool) (v : Nat → W) (h : Ev K tl s (ws y)) (hl : y.length ≤ 16000000) (hj : j ∈ vs)
    (ht : ∀ (i c : Nat), y.cps[i]? = some c → EvT K tt (inB s vs j (ws ⟨#[c]⟩)) (f i)) (he : ∀ (i c : Nat), y.cps[i]? = some c → f i = true → Ev K te (inB s vs j (ws ⟨#[c]⟩)) (v i)) :
    EvF K (tLc (iStr tl) (gName j) tt te vs) s (outs y.length f v) := fun B σ H Q S q =>
  h B σ H _ S fun u H1 e1 r1 => by
    have S1 := S.mono e1
    cases rw_s r1
    refine ⟨y, rfl, fun D nD => ?_⟩
    refine lc_str (x := y) (fun i H' => CW K B s σ H1 D (outs i f v) H') (cw_start nD) (fun i ch H' hi c => ?_) (fun H' c => cw_end c fun a us H2 e2 ha ea rr => q a us H2 (e1.trans e2) (by rw [ea]; exact e1.free nD) ha rr)
    have hlt : i < y.cps.size := (Array.getElem?_eq_some_iff.mp hi).1
    refine ⟨wipe_set hj, ?_⟩
    have hz : (outs i f v).length < sizeLine := Nat.lt_of_le_of_lt (outs_len i f v) (by rw [sizeLine_eq]; have : y.length = y.cps.size := rfl; omega)
    obtain ⟨e, acc, hD, r⟩ := c
    have S2 := cw_sat S1 nD e ⟨_, hD⟩
    have S3 : Sat K (D :: B) (inB s vs j (ws ⟨#[ch]⟩)) ((wipe σ vs).set j (some (.str ⟨#[ch]⟩))) H' := ⟨S2.hh, (wipe_sat S2.gg vs).set rs j⟩
    exact cw_turn ⟨e, acc, hD, r⟩ S3 nD rfl hz (ht i ch hi) (he i ch hi) (fun hb H2 c2 => by rw [outs_yes hb]; exact c2) (fun hb H2 c2 => by rw [outs_no hb]; exact c2)
end
end DL

namespace DL
open PySem PySem.Spec PyProof.Rows L2
/-- where a block may end -/
structure Out where
  n : S → Prop := fun _ => False
  r : W → Del → Prop := fun _ _ => False
  b : S → Prop := fun _ => False
  c : S → Prop := fun _ => False
  x : Value → S → Prop := fun _ _ => False
/-- up to slots that are forgotten -/
def Wk (P : S → Prop) : S → Prop := fun s => ∃ G, P ⟨G, s.h⟩ ∧ Le G s.g
theorem wk_of {P : S → Prop} {s : S} (h : P s) : Wk P s := ⟨s.g, h, Le.refl _⟩
section
variable (K : PySem.W.Frag)
structure Got (B : List Addr) (E : L2.St → XK) (O : Out) (Δ : Del) (H : Hp) (D : Ends) : Prop where
  n : ∀ s' σ' H', O.n s' → Sat K B s' σ' H' → Fr Δ H s'.h H' → D.nx σ' H'
  r : ∀ w Δ' v H', O.r w Δ' → SatH K B Δ' H' → Fr Δ H Δ' H' → RW K (msk H' (ads Δ' ++ B)) v w → D.rt v H'
  b : ∀ s' σ' H', O.b s' → Sat K B s' σ' H' → Fr Δ H s'.h H' → D.bk σ' H'
  c : ∀ s' σ' H', O.c s' → Sat K B s' σ' H' → Fr Δ H s'.h H' → D.ct σ' H'
  x : ∀ c s' σ' H', O.x c s' → Sat K B s' σ' H' → Fr Δ H s'.h H' → E σ' c none H'
def HS (E : L2.St → XK) (ts : TS) (s : S) (O : Out) : Prop := ∀ (B : List Addr) (σ : L2.St) (H : Hp) (D : Ends), Sat K B s σ H → Got K B E O s.h H D → ts D σ H
/-- a store to a target -/
def GS (g : TG) (w : W) (s s' : S) : Prop := ∀ (B : List Addr) (σ : L2.St) (H : Hp) (v : V) (Q : L2.St → Hp → Prop), Sat K B s σ H → RW K (msk H (ads s.h ++ B)) v w →
  (∀ σ' H', Sat K B s' σ' H' → Fr s.h H s'.h H' → Q σ' H') → g v σ H Q
end
section
variable {K : PySem.W.Frag} {s s1 s' : S} {ta tb te tl : TE} {tt : TT} {x y z w : W} {B : List Addr} {H H' : Hp} {σ : L2.St} {X : Cx} {E : L2.St → XK} {O : Out} {t1 t2 tz tu tw : TS} {g : TG}
theorem Got.step {Δ Δ' : Del} {D : Ends} (g : Got K B E O Δ H D) (f : Fr Δ H Δ' H') : Got K B E O Δ' H' D :=
  ⟨fun s σ H h S e => g.n s σ H h S (f.trans e), fun w Δ v H h S e r => g.r w Δ v H h S (f.trans e) r, fun s σ H h S e => g.b s σ H h S (f.trans e), fun s σ H h S e => g.c s σ H h S (f.trans e), fun c s σ H h S e => g.x c s σ H h S (f.trans e)⟩
theorem hs_seq {M : S → Prop} (h1 : HS K E t1 s { O with n := M }) (h2 : ∀ s', M s' → HS K E t2 s' O) : HS K E (tSeq t1 t2) s O := fun B σ H D S g =>
  h1 B σ H { D with nx := t2 D } S ⟨fun s' σ' H' m S' f => h2 s' m B σ' H' D S' (g.step f), g.r, g.b, g.c, g.x⟩
/-- forgetting slots -/
theorem hs_le {G : Gam} (l : Le G s.g) (h : HS K E t1 ⟨G, s.h⟩ O) : HS K E t1 s O := fun B σ H D S g => h B σ H D ⟨S.hh, l.sat S.gg⟩ g
theorem hs_next {G : Gam} (l : Le G s.g) (h : O.n ⟨G, s.h⟩) : HS K E tNext s O := fun B σ H D S g => g.n _ σ H h ⟨S.hh, l.sat S.gg⟩ Fr.refl
theorem hs_brk {G : Gam} (l : Le G s.g) (h : O.b ⟨G, s.h⟩) : HS K E tBreak s O := fun B σ H D S g => g.b _ σ H h ⟨S.hh, l.sat S.gg⟩ Fr.refl
theorem hs_cont {G : Gam} (l : Le G s.g) (h : O.c ⟨G, s.h⟩) : HS K E tCont s O := fun B σ H D S g => g.c _ σ H h ⟨S.hh, l.sat S.gg⟩ Fr.refl
theorem hs_wk (h : HS K E t1 s { O with n := Wk O.n, b := Wk O.b, c := Wk O.c }) : HS K E t1 s O := fun B σ H D S q =>
  h B σ H D S ⟨fun s' σ' H' ⟨G, m, l⟩ S' f => q.n _ σ' H' m ⟨S'.hh, l.sat S'.gg⟩ f, q.r, fun s' σ' H' ⟨G, m, l⟩ S' f => q.b _ σ' H' m ⟨S'.hh, l.sat S'.gg⟩ f, fun s' σ' H' ⟨G, m, l⟩ S' f => q.c _ σ' H' m ⟨S'.hh, l.sat S'.gg⟩ f, q.x⟩
theorem hs_wk0 {P : S → Prop} (h : Wk P s) (k : ∀ s', P s' → HS K E t1 s' O) : HS K E t1 s O := by
  obtain ⟨G, p, l⟩ := h
  exact hs_le l (k _ p)
theorem hs_never (h : False) : HS K E tNever s O := h.elim
theorem gs_name {j : Nat} : GS K (gName j) w s ⟨s.g.set j (some w), s.h⟩ := fun B σ H v Q S r q => q _ H ⟨S.hh, S.gg.set r j⟩ Fr.refl
theorem gs_tup2 {d1 d2 : PyData} {g1 g2 : TG} (h1 : GS K g1 (.d d1) s s1) (h2 : GS K g2 (.d d2) s1 s') : GS K (gTup K 2 (gCons g1 (gCons g2 gNil))) (wt [d1, d2]) s s' := fun B σ H v Q S r q => by
  cases r with
  | tup hs ha =>
    cases ha with
    | cons a1 a2 =>
      cases a2 with
      | cons a2 a3 =>
        cases a3
        exact ⟨_, _, rfl, (hs.mono msk_sub).sq, rfl, _, _, rfl, h1 B σ H _ _ S a1 fun σ1 H1 S1 f1 => ⟨_, _, rfl, h2 B σ1 H1 _ _ S1 (dp_mono f1.msk a2) fun σ2 H2 S2 f2 => ⟨rfl, q σ2 H2 S2 (f1.trans f2)⟩⟩⟩
theorem hs_asgG (h : Ev K te s w) (hg : GS K g w s s1) (h2 : O.n s1) : HS K E (tAsg te g) s O := fun B σ H D S q =>
  h B σ H _ S fun v H1 e1 r1 => hg B σ H1 v _ (S.mono e1) r1 fun σ2 H2 S2 f2 => q.n _ σ2 H2 h2 S2 ((Fr.of e1).trans f2)
theorem hq_asgG (h : Ev K te s w) (hg : GS K g w s s1) (h2 : HS K E tz s1 O) : HS K E (tSeq (tAsg te g) tz) s O := fun B σ H D S q =>
  h B σ H _ S fun v H1 e1 r1 => hg B σ H1 v _ (S.mono e1) r1 fun σ2 H2 S2 f2 => h2 B σ2 H2 D S2 (q.step ((Fr.of e1).trans f2))
theorem hs_asg {j : Nat} (h : Ev K te s w) (h2 : O.n ⟨s.g.set j (some w), s.h⟩) : HS K E (tAsg te (gName j)) s O := hs_asgG h gs_name h2
theorem hq_asg {j : Nat} (h : Ev K te s w) (h2 : HS K E tz ⟨s.g.set j (some w), s.h⟩ O) : HS K E (tSeq (tAsg te (gName j)) tz) s O := hq_asgG h gs_name h2
theorem hq_aug {j : Nat} {f : Int → Int → Int} {a b : Int} (hx : s.g[j]? = some (some (wi a))) (h : Ev K te s (wi b)) (h2 : HS K E tz ⟨s.g.set j (some (wi (f a b))), s.h⟩ O) : HS K E (tSeq (tAug j te (ipI f)) tz) s O := fun B σ H D S q => by
  obtain ⟨v, e, r⟩ := S.gg.2 j _ hx
  refine ⟨v, e, h B σ H _ S fun u H1 e1 r1 => ⟨a, b, rw_i r, rw_i r1, ?_⟩⟩
  exact h2 B _ H1 D ⟨(S.mono e1).hh, (S.mono e1).gg.set ri j⟩ (q.step (Fr.of e1))
theorem hs_aug {j : Nat} {f : Int → Int → Int} {a b : Int} (hx : s.g[j]? = some (some (wi a))) (h : Ev K te s (wi b)) (h2 : O.n ⟨s.g.set j (some (wi (f a b))), s.h⟩) : HS K E (tAug j te (ipI f)) s O := fun B σ H D S q => by
  obtain ⟨v, e, r⟩ := S.gg.2 j _ hx
  refine ⟨v, e, h B σ H _ S fun u H1 e1 r1 => ⟨a, b, rw_i r, rw_i r1, ?_⟩⟩
  exact q.n _ _ H1 h2 ⟨(S.mono e1).hh, (S.mono e1).gg.set ri j⟩ (Fr.of e1)
theorem cell_new {xs : List W} {vs : List V} (S : Sat K B s σ H) {a : Addr} (e : Same H H') (n : H a = none) (ha : H' a = some (.lst vs)) (r : RWs K (msk H' (a :: (ads s.h ++ B))) vs xs) : SatH K B ((a, .lst xs) :: s.h) H' ∧ Fr s.h H ((a, .lst xs) :: s.h) H' ∧ Same (msk H (ads s.h ++ B)) (msk H' (ads ((a, Cell.lst xs) :: s.h) ++ B)) := by
  have nA : a ∉ ads s.h := fun z => S.hh.out n (List.mem_append_left _ z)
  have nB : a ∉ B := fun z => S.hh.out n (List.mem_append_right _ z)
  have f : Fr s.h H ((a, .lst xs) :: s.h) H' := fun b o hb e2 => ⟨fun z => (List.mem_cons.mp z).elim (ne_of_none e2 n) hb, e _ _ e2⟩
  refine ⟨⟨fun p hp => ?_, List.nodup_cons.mpr ⟨nA, S.hh.nd⟩, fun b hb => (S.mono e).hh.bt b hb, fun b hb z => ?_, (S.mono e).hh.nt⟩, f, f.msk⟩
  · rcases List.mem_cons.mp hp with rfl | hp
    · exact ⟨vs, ha, r⟩
    · have q := S.hh.cell p hp
      obtain ⟨o, ho⟩ := q.some
      rw [ho] at q
      rw [e _ _ ho]
      exact q.mono f.msk
  · rcases List.mem_cons.mp z with z | z
    · have z : b = a := z
      exact nB (z ▸ hb)
    · exact S.hh.db b hb z
/-- a new list that will change -/
theorem hq_new {j : Nat} {xs : List W} (h : EvF K te s xs) (h2 : ∀ a, a ∉ ads s.h → HS K E tz ⟨s.g.set j (some (.o a)), (a, .lst xs) :: s.h⟩ O) : HS K E (tSeq (tAsg te (gName j)) tz) s O := fun B σ H D S q =>
  h B σ H _ S fun a vs H' e n ha r => by
    obtain ⟨c1, c2, c3⟩ := cell_new S e n ha r
    refine h2 a (fun z => S.hh.out n (List.mem_append_left _ z)) B _ H' D ⟨c1, ?_⟩ (q.step c2)
    exact (S.gg.mono c3).set (w := .o a) rfl j
/-- a cell turns -/
theorem cell_set {n : Nat} {a : Addr} {c c' : Cell} {o : HO} (S : Sat K B s σ H) (hn : s.h[n]? = some (a, c)) (hc : RC K (msk H (ads s.h ++ B)) (some o) c') :
    Sat K B ⟨s.g, s.h.set n (a, c')⟩ σ (upd H a o) ∧ Fr s.h H (s.h.set n (a, c')) (upd H a o) := by
  have hads : ads (s.h.set n (a, c')) = ads s.h := by
    unfold ads
    rw [List.map_set]
    refine List.ext_getElem? fun i => ?_
    rw [List.getElem?_set]
    by_cases e : n = i
    · subst e
      have hl : n < s.h.length := (List.getElem?_eq_some_iff.mp hn).1
      have hn' : Option.map (fun p : Addr × Cell => p.1) s.h[n]? = some a := by rw [hn]; rfl
      rw [if_pos rfl, if_pos (by simpa using hl), List.getElem?_map, hn']
    · simp [e]
  have mem : a ∈ ads s.h := List.mem_map.mpr ⟨_, List.mem_of_getElem? hn, rfl⟩
  have mm : msk (upd H a o) (ads s.h ++ B) = msk H (ads s.h ++ B) := by
    funext b
    unfold msk
    by_cases hb : b ∈ ads s.h ++ B
    · rw [if_pos hb, if_pos hb]
    · have : b ≠ a := fun e => hb (e ▸ List.mem_append_left _ mem)
      rw [if_neg hb, if_neg hb, upd_ne this]
  have nt' : ∀ b ∈ B, ∀ xs, upd H a o b ≠ some (.tup xs) := fun b hb xs z => by
    have hba : b ≠ a := fun e => S.hh.db b hb (by rw [e]; exact mem)
    rw [upd_ne hba] at z
    exact S.hh.nt b hb xs z
  refine ⟨⟨⟨fun p hp => ?_, ?_, fun b hb => ?_, fun b hb => ?_, nt'⟩, ?_⟩, fun b u nb e => ⟨?_, ?_⟩⟩
  · show RC K (msk (upd H a o) (ads (s.h.set n (a, c')) ++ B)) (upd H a o p.1) p.2
    rw [hads, mm]
    obtain ⟨i, hi⟩ := List.getElem?_of_mem hp
    rw [List.getElem?_set] at hi
    by_cases e : n = i
    · subst e
      have hl : n < s.h.length := (List.getElem?_eq_some_iff.mp hn).1
      simp [hl] at hi
      subst hi
      show RC K _ (upd H a o a) c'
      rw [upd_same]
      exact hc
    · simp [e] at hi
      have hne : p.1 ≠ a := fun z => by
        have h1 : (ads s.h)[i]? = some p.1 := by unfold ads; rw [List.getElem?_map, hi]; rfl
        have h2 : (ads s.h)[n]? = some a := by unfold ads; rw [List.getElem?_map, hn]; rfl
        rw [z] at h1
        exact e (nd_ix S.hh.nd h2 h1)
      rw [upd_ne hne]
      exact S.hh.cell p (List.mem_of_getElem? hi)
  · show (ads (s.h.set n (a, c'))).Nodup
    rw [hads]; exact S.hh.nd
  · by_cases e : b = a
    · rw [e, upd_same]; exact fun z => nomatch z
    · rw [upd_ne e]; exact S.hh.bt b hb
  · show b ∉ ads (s.h.set n (a, c'))
    rw [hads]; exact S.hh.db b hb
  · show SatG K (msk (upd H a o) (ads (s.h.set n (a, c')) ++ B)) s.g σ
    rw [hads, mm]; exact S.gg
  · rw [hads]; exact nb
  · have nba : b ≠ a := fun z => nb (by rw [z]; exact mem)
    rw [upd_ne nba]; exact e
theorem app_core {n : Nat} {a : Addr} {xs : List W} {Q : Hp → Prop} (hn : s.h[n]? = some (a, .lst xs)) (ho : Ev K ta s (.o a)) (h : Ev K te s w) (hz : xs.length < sizeLine) (S : Sat K B s σ H)
    (q : ∀ H', Sat K B ⟨s.g, s.h.set n (a, .lst (xs ++ [w]))⟩ σ H' → Fr s.h H (s.h.set n (a, .lst (xs ++ [w]))) H' → Q H') : tBM K "list" rAppend ta (tCons te tNil) σ H fun _ H1 => Q H1 :=
  ho B σ H _ S fun v H1 e1 r1 => by
    cases (show v = V.ref a from r1)
    have S1 := S.mono e1
    refine ⟨tyw_v (tyw_l (lv_o n hn)) S1 r1, h B σ H1 _ S1 fun u H2 e2 r2 => ?_⟩
    have S2 := S1.mono e2
    obtain ⟨vs, hv, rv⟩ := S2.hh.cell _ (List.mem_of_getElem? hn)
    have k := cell_set (c' := .lst (xs ++ [w])) (o := .lst (vs ++ [u])) S2 hn ⟨_, rfl, rv.append (.cons r2 .nil)⟩
    exact ⟨a, vs, u, rfl, rfl, hv, by rw [rv.len]; exact hz, q _ k.1 ((Fr.of (e1.trans e2)).trans k.2)⟩
/-- xs.append(e) -/
theorem hs_app {n : Nat} {a : Addr} {xs : List W} (hn : s.h[n]? = some (a, .lst xs)) (ho : Ev K ta s (.o a)) (h : Ev K te s w) (hz : xs.length < sizeLine) (h2 : O.n ⟨s.g, s.h.set n (a, .lst (xs ++ [w]))⟩) :
    HS K E (tDrop (tBM K "list" rAppend ta (tCons te tNil))) s O := fun B σ H D S q => app_core hn ho h hz S fun H' S' f => q.n _ σ H' h2 S' f
theorem hq_app {n : Nat} {a : Addr} {xs : List W} (hn : s.h[n]? = some (a, .lst xs)) (ho : Ev K ta s (.o a)) (h : Ev K te s w) (hz : xs.length < sizeLine) (h2 : HS K E tz ⟨s.g, s.h.set n (a, .lst (xs ++ [w]))⟩ O) :
    HS K E (tSeq (tDrop (tBM K "list" rAppend ta (tCons te tNil))) tz) s O := fun B σ H D S q => app_core hn ho h hz S fun H' S' f => h2 B σ H' D S' (q.step f)
/-- xs[i] = e -/
theorem gs_set {n j : Nat} {a : Addr} {xs : List W} {i : Int} (hn : s.h[n]? = some (a, .lst xs)) (ho : Ev K ta s (.o a)) (hi : Ev K tb s (wi i)) (hj : ixN xs.length i = some j) : GS K (gSub ta tb rSetL) w s ⟨s.g, s.h.set n (a, .lst (xs.set j w))⟩ := fun B σ H v Q S r q =>
  ho B σ H _ S fun u H1 e1 r1 => hi B σ H1 _ (S.mono e1) fun t H2 e2 r2 => by
    cases (show u = V.ref a from r1)
    have S2 := S.mono (e1.trans e2)
    obtain ⟨vs, hv, rv⟩ := S2.hh.cell _ (List.mem_of_getElem? hn)
    have k := cell_set (c' := .lst (xs.set j w)) (o := .lst (vs.set j v)) S2 hn ⟨_, rfl, rv.set (r.mono (msk_same (e1.trans e2))) j⟩
    exact ⟨a, vs, i, j, rfl, rw_i r2, hv, by rw [rv.len]; exact hj, q _ _ k.1 ((Fr.of (e1.trans e2)).trans k.2)⟩
theorem hs_drop' (h : Ev K te s w) (h2 : O.n s) : HS K E (tDrop te) s O := fun B σ H D S q => h B σ H _ S fun v H1 e1 _ => q.n _ σ H1 h2 (S.mono e1) (Fr.of e1)
theorem hq_drop' (h : Ev K te s w) (h2 : HS K E tz s O) : HS K E (tSeq (tDrop te) tz) s O := fun B σ H D S q => h B σ H _ S fun v H1 e1 _ => h2 B σ H1 D (S.mono e1) (q.step (Fr.of e1))
theorem hs_ret (h : Ev K te s w) (h2 : O.r w s.h) : HS K E (tRet te) s O := fun B σ H D S q => h B σ H _ S fun v H1 e1 r1 => q.r w s.h v H1 h2 (S.mono e1).hh (Fr.of e1) r1
theorem sath_nil {Δ : Del} (h : SatH K B Δ H) : SatH K B [] H := ⟨fun p hp => (nomatch hp), .nil, h.bt, (fun _ _ z => nomatch z), h.nt⟩
theorem sath_mt {Δ : Del} (h : SatH K B Δ H) : SatH K (ads Δ ++ B) [] H := ⟨fun p hp => (nomatch hp), .nil, fun b hb z => h.out z hb, (fun _ _ z => nomatch z), fun b hb xs z => by
  rcases List.mem_append.mp hb with q | q
  · obtain ⟨p, hp, rfl⟩ := List.mem_map.mp q
    have c := h.cell p hp
    rw [z] at c
    exact c.notup
  · exact h.nt b q xs z⟩
theorem fr_nil {Δ Δ' : Del} (f : Fr Δ H Δ' H') : Fr Δ H [] H' := fun b o n e => ⟨(fun z => by cases z), (f b o n e).2⟩
/-- all cells are given up -/
theorem hs_ret0 (h : Ev K te s w) (h2 : O.r w []) : HS K E (tRet te) s O := fun B σ H D S q => h B σ H _ S fun v H1 e1 r1 =>
  q.r w [] v H1 h2 (sath_nil (S.mono e1).hh) (fr_nil (Fr.of e1 (Δ := s.h))) (r1.mono (msk_less fun b hb => List.mem_append_right _ (by simpa [ads] using hb)))
/-- a list that has changed is given out -/
theorem hs_retO {a : Addr} {ds : List PyData} (n : Nat) (h : Ev K te s (.o a)) (hn : s.h[n]? = some (a, .lst (ds.map .d))) (h2 : O.r (wl ds) []) : HS K E (tRet te) s O := fun B σ H D S q => h B σ H _ S fun v H1 e1 r1 => by
  cases (show v = V.ref a from r1)
  have S1 := S.mono e1
  obtain ⟨vs, hv, rv⟩ := S1.hh.cell _ (List.mem_of_getElem? hn)
  have mem : a ∈ ads s.h := List.mem_map.mpr ⟨_, List.mem_of_getElem? hn, rfl⟩
  refine q.r (wl ds) [] _ H1 h2 (sath_nil S1.hh) (fr_nil (Fr.of e1 (Δ := s.h))) (Dq.lst (xs := vs) ?_ (rws_dpa (rv.mono (msk_less fun b hb => List.mem_append_right _ (by simpa [ads] using hb)))))
  rw [msk_out (fun z => S1.hh.db a (by simpa [ads] using z) mem)]
  exact hv
theorem hs_retN (h2 : O.r wn []) : HS K E tRetN s O := fun B σ H D S q => q.r wn [] .non H h2 (sath_nil S.hh) (fr_nil (Fr.refl (Δ := s.h))) rn
theorem hs_if {b : Bool} (h : EvT K tt s b) (h1 : b = true → HS K E tu s O) (h2 : b = false → HS K E tw s O) : HS K E (tIfS tt tu tw) s O := fun B σ H D S q => h B σ H _ S fun H1 e1 => by
  cases b with
  | true => exact iteT (h1 rfl B σ H1 D (S.mono e1) (q.step (Fr.of e1)))
  | false => exact iteF (h2 rfl B σ H1 D (S.mono e1) (q.step (Fr.of e1)))
/-- .. then the rest, told twice -/
theorem hq_if {b : Bool} (h : EvT K tt s b) (h1 : b = true → HS K E (tSeq tu tz) s O) (h2 : b = false → HS K E (tSeq tw tz) s O) : HS K E (tSeq (tIfS tt tu tw) tz) s O := fun B σ H D S q => h B σ H _ S fun H1 e1 => by
  cases b with
  | true => exact iteT (h1 rfl B σ H1 D (S.mono e1) (q.step (Fr.of e1)))
  | false => exact iteF (h2 rfl B σ H1 D (S.mono e1) (q.step (Fr.of e1)))
theorem hq_ret (h : HS K E (tRet te) s O) : HS K E (tSeq (tRet te) tz) s O := fun B σ H D S q => h B σ H D S ⟨q.n, q.r, q.b, q.c, q.x⟩
theorem hq_brk (h : HS K E tBreak s O) : HS K E (tSeq tBreak tz) s O := fun B σ H D S q => h B σ H D S q
theorem hq_cont (h : HS K E tCont s O) : HS K E (tSeq tCont tz) s O := fun B σ H D S q => h B σ H D S q
theorem hq_nil (h : HS K E tz s O) : HS K E (tSeq tNext tz) s O := fun B σ H D S q => h B σ H D S q
theorem hq_seq (h : HS K E (tSeq t1 (tSeq t2 tz)) s O) : HS K E (tSeq (tSeq t1 t2) tz) s O := fun B σ H D S q => h B σ H D S q
end
end DL

namespace DL
open PySem PySem.Spec PyProof.Rows L2
section
variable {K : PySem.W.Frag} {s s1 s' : S} {ta tb te tl : TE} {tr : TA} {tt : TT} {x y z w : W} {B : List Addr} {H H' : Hp} {σ : L2.St} {X : Cx} {E : L2.St → XK} {O : Out} {t1 t2 tz tu tw : TS} {g : TG}
/-! ### loops: I tells the state ahead of each turn, M the state behind the loop -/
theorem hs_forL {M : S → Prop} {xs : List W} (h : Ev K tl s x) (I : Nat → S → Prop) (h0 : Wk (I 0) s) (l : ∀ i s', I i s' → LV s' x xs) (hx : ∀ M M' v, Same M M' → RW K M v x → RW K M' v x)
    (hb : ∀ i u s', xs[i]? = some u → I i s' → ∃ s1, GS K g u s' s1 ∧ HS K E tu s1 { O with n := Wk (I (i + 1)), c := Wk (I (i + 1)), b := Wk M }) (hd : ∀ s', I xs.length s' → M s') : HS K E (tFor (iList K tl) g tu) s { O with n := M } := fun B σ H D S q =>
  h B σ H _ S fun v H1 e1 r1 => by
    have S1 := S.mono e1
    have q1 := q.step (Fr.of e1 (Δ := s.h))
    obtain ⟨G0, hI0, lG⟩ := h0
    have Sw : Sat K B ⟨G0, s.h⟩ σ H1 := ⟨S1.hh, lG.sat S1.gg⟩
    obtain ⟨a, vs0, rfl, g0, _⟩ := (l 0 _ hI0).get Sw r1
    refine ⟨a, rfl, ⟨vs0, g0⟩, fun i m σ' H' => m = xs.length - i ∧ i ≤ xs.length ∧ ∃ s', I i s' ∧ Sat K B s' σ' H' ∧ Fr s.h H1 s'.h H', ⟨xs.length, by simp, Nat.zero_le _, ⟨G0, s.h⟩, hI0, Sw, Fr.refl⟩, ?_⟩
    rintro i m σ' H' ⟨rfl, hi, s', hI, S', f⟩
    have r' : RW K (msk H' (ads s'.h ++ B)) (.ref a) x := hx _ _ _ f.msk r1
    obtain ⟨a', vs, ea, gv, rv⟩ := (l i s' hI).get S' r'
    cases ea
    by_cases hlt : i < xs.length
    · obtain ⟨y, hy, ry⟩ := rv.get (List.getElem?_eq_getElem hlt)
      refine .inr ⟨⟨vs, y, gv, hy⟩, fun σ2 H2 => ∃ s', I (i + 1) s' ∧ Sat K B s' σ2 H2 ∧ Fr s.h H1 s'.h H2, fun σ2 H2 n2 => ⟨xs.length - (i + 1), by omega, rfl, hlt, n2⟩, fun y' H2 yy => ?_⟩
      obtain ⟨e, yy⟩ := yy
      subst e
      have ey : y' = y := Option.some.inj ((yy vs gv).symm.trans hy)
      subst ey
      obtain ⟨s1, hg, hbody'⟩ := hb i _ s' (List.getElem?_eq_getElem hlt) hI
      have hbody := hs_wk (O := { O with n := I (i + 1), c := I (i + 1), b := M }) hbody'
      refine hg B σ' _ y' _ S' ry fun σ2 H3 S2 f2 => ?_
      have f3 : Fr s.h H1 s1.h H3 := f.trans f2
      exact hbody B σ2 H3 _ S2 ⟨fun s3 σ3 H4 m3 S3 f4 => ⟨s3, m3, S3, f3.trans f4⟩, fun w Δ' v H4 r S3 f4 rr => q1.r w Δ' v H4 r S3 (f3.trans f4) rr, fun s3 σ3 H4 m3 S3 f4 => q1.n s3 σ3 H4 m3 S3 (f3.trans f4), fun s3 σ3 H4 m3 S3 f4 => ⟨s3, m3, S3, f3.trans f4⟩, fun c s3 σ3 H4 xx S3 f4 => q1.x c s3 σ3 H4 xx S3 (f3.trans f4)⟩
    · have e : i = xs.length := by omega
      subst e
      exact .inl ⟨⟨vs, gv, by rw [rv.len]; exact Nat.le_refl _⟩, q1.n s' σ' H' (hd s' hI) S' f⟩
/-- data does not ask for the state -/
theorem data_mono {p : PyData} : ∀ M M' v, Same M M' → RW K M v (.d p) → RW K M' v (.d p) := fun _ _ _ e r => r.mono e
theorem rw_mono' : ∀ M M' v, Same M M' → RW K M v x → RW K M' v x := fun _ _ _ e r => r.mono e
theorem hs_forN {n : Nat} {lo : Int} {J : It} {M : S → Prop} {W0 : (It → Hp → Prop) → Prop} (hJ : J = Itr lo n) (I : Nat → S → Prop) {D : Ends} (S1 : Sat K B s σ H) (q1 : Got K B E { O with n := M } s.h H D) (h0 : Wk (I 0) s)
    (hb : ∀ (i : Nat) s', i < n → I i s' → ∃ s1, GS K g (wi (lo + (i : Int))) s' s1 ∧ HS K E tu s1 { O with n := Wk (I (i + 1)), c := Wk (I (i + 1)), b := Wk M }) (hd : ∀ s', I n s' → M s') :
    ∃ W : Nat → Nat → L2.St → Hp → Prop, (∃ m, W 0 m σ H) ∧ ∀ i m σ H, W i m σ H →
      ((Itr lo n).stop i H ∧ D.nx σ H) ∨ ((Itr lo n).go i H ∧ ∃ N : L2.St → Hp → Prop, (∀ σ' H', N σ' H' → ∃ m', m' < m ∧ W (i + 1) m' σ' H') ∧ ∀ x H', (Itr lo n).yld i H x H' → g x σ H' fun σ2 H2 => tu { D with nx := N, ct := N, bk := D.nx } σ2 H2) := by
  obtain ⟨G0, hI0, lG⟩ := h0
  refine for_range (lo := lo) (n := n) (D := D) (fun i σ' H' => ∃ s', I i s' ∧ Sat K B s' σ' H' ∧ Fr s.h H s'.h H') ⟨⟨G0, s.h⟩, hI0, ⟨S1.hh, lG.sat S1.gg⟩, Fr.refl⟩ (fun i σ' H' hi p => ?_) fun σ' H' p => ?_
  · obtain ⟨s', hI, S', f⟩ := p
    obtain ⟨s1, hg, hbody'⟩ := hb i s' hi hI
    have hbody := hs_wk (O := { O with n := I (i + 1), c := I (i + 1), b := M }) hbody'
    refine hg B σ' _ _ _ S' ri fun σ2 H3 S2 f2 => ?_
    have f3 : Fr s.h H s1.h H3 := f.trans f2
    exact hbody B σ2 H3 _ S2 ⟨fun s3 σ3 H4 m3 S3 f4 => ⟨s3, m3, S3, f3.trans f4⟩, fun w Δ' v H4 r S3 f4 rr => q1.r w Δ' v H4 r S3 (f3.trans f4) rr, fun s3 σ3 H4 m3 S3 f4 => q1.n s3 σ3 H4 m3 S3 (f3.trans f4), fun s3 σ3 H4 m3 S3 f4 => ⟨s3, m3, S3, f3.trans f4⟩, fun c s3 σ3 H4 xx S3 f4 => q1.x c s3 σ3 H4 xx S3 (f3.trans f4)⟩
  · obtain ⟨s', hI, S', f⟩ := p
    exact q1.n s' σ' H' (hd s' hI) S' f
theorem hs_forR {M : S → Prop} {n : Int} (h : EvA K tr s [wi n]) (h1 : -(2 ^ 62) ≤ n ∧ n < 2 ^ 62) (I : Nat → S → Prop) (h0 : Wk (I 0) s)
    (hb : ∀ (i : Nat) s', (i : Int) < n → I i s' → ∃ s1, GS K g (wi (i : Int)) s' s1 ∧ HS K E tu s1 { O with n := Wk (I (i + 1)), c := Wk (I (i + 1)), b := Wk M }) (hd : ∀ s', I n.toNat s' → M s') : HS K E (tFor (iRng1 tr) g tu) s { O with n := M } := fun B σ H D S q =>
  h B σ H _ S fun vs H1 e1 r1 => by
    cases r1 with
    | cons r1 r2 =>
      cases r2; cases rw_i r1
      refine ⟨n, rfl, h1.1, h1.2, hs_forN (W0 := fun _ => True) rfl I (S.mono e1) (q.step (Fr.of e1 (Δ := s.h))) h0 (fun i s' hi hI => ?_) hd⟩
      obtain ⟨s1, hg, hbody⟩ := hb i s' (by omega) hI
      exact ⟨s1, by rw [Int.zero_add]; exact hg, hbody⟩
theorem hs_forR2 {M : S → Prop} {lo n : Int} (h : EvA K tr s [wi lo, wi n]) (h1 : -(2 ^ 62) ≤ lo ∧ lo < 2 ^ 62 ∧ -(2 ^ 62) ≤ n ∧ n < 2 ^ 62) (I : Nat → S → Prop) (h0 : Wk (I 0) s)
    (hb : ∀ (i : Nat) s', lo + (i : Int) < n → I i s' → ∃ s1, GS K g (wi (lo + (i : Int))) s' s1 ∧ HS K E tu s1 { O with n := Wk (I (i + 1)), c := Wk (I (i + 1)), b := Wk M }) (hd : ∀ s', I (n - lo).toNat s' → M s') : HS K E (tFor (iRng2 tr) g tu) s { O with n := M } := fun B σ H D S q =>
  h B σ H _ S fun vs H1 e1 r1 => by
    cases r1 with
    | cons r1 r2 =>
      cases r2 with
      | cons r2 r3 =>
        cases r3; cases rw_i r1; cases rw_i r2
        exact ⟨lo, n, rfl, h1, hs_forN (W0 := fun _ => True) rfl I (S.mono e1) (q.step (Fr.of e1 (Δ := s.h))) h0 (fun i s' hi hI => hb i s' (by omega) hI) hd⟩
theorem hs_forS {M : S → Prop} {y : Str} (h : Ev K tl s (ws y)) (I : Nat → S → Prop) (h0 : Wk (I 0) s)
    (hb : ∀ (i c : Nat) s', y.cps[i]? = some c → I i s' → ∃ s1, GS K g (ws ⟨#[c]⟩) s' s1 ∧ HS K E tu s1 { O with n := Wk (I (i + 1)), c := Wk (I (i + 1)), b := Wk M }) (hd : ∀ s', I y.length s' → M s') : HS K E (tFor (iStr tl) g tu) s { O with n := M } := fun B σ H D S q =>
  h B σ H _ S fun v H1 e1 r1 => by
    cases rw_s r1
    have q1 := q.step (Fr.of e1 (Δ := s.h))
    obtain ⟨G0, hI0, lG⟩ := h0
    refine ⟨y, rfl, fun i m σ' H' => m = y.cps.size - i ∧ i ≤ y.cps.size ∧ ∃ s', I i s' ∧ Sat K B s' σ' H' ∧ Fr s.h H1 s'.h H', ⟨y.cps.size, by simp, Nat.zero_le _, ⟨G0, s.h⟩, hI0, ⟨(S.mono e1).hh, lG.sat (S.mono e1).gg⟩, Fr.refl⟩, ?_⟩
    rintro i m σ' H' ⟨rfl, hi, s', hI, S', f⟩
    by_cases hlt : i < y.cps.size
    · refine .inr ⟨hlt, fun σ2 H2 => ∃ s', I (i + 1) s' ∧ Sat K B s' σ2 H2 ∧ Fr s.h H1 s'.h H2, fun σ2 H2 n2 => ⟨y.cps.size - (i + 1), by omega, rfl, hlt, n2⟩, fun y' H2 yy => ?_⟩
      obtain ⟨e, c, hc, ey⟩ := yy
      subst e ey
      obtain ⟨s1, hg, hbody'⟩ := hb i c s' hc hI
      have hbody := hs_wk (O := { O with n := I (i + 1), c := I (i + 1), b := M }) hbody'
      refine hg B σ' _ _ _ S' rs fun σ2 H3 S2 f2 => ?_
      have f3 : Fr s.h H1 s1.h H3 := f.trans f2
      exact hbody B σ2 H3 _ S2 ⟨fun s3 σ3 H4 m3 S3 f4 => ⟨s3, m3, S3, f3.trans f4⟩, fun w Δ' v H4 r S3 f4 rr => q1.r w Δ' v H4 r S3 (f3.trans f4) rr, fun s3 σ3 H4 m3 S3 f4 => q1.n s3 σ3 H4 m3 S3 (f3.trans f4), fun s3 σ3 H4 m3 S3 f4 => ⟨s3, m3, S3, f3.trans f4⟩, fun c s3 σ3 H4 xx S3 f4 => q1.x c s3 σ3 H4 xx S3 (f3.trans f4)⟩
    · have e : i = y.cps.size := by omega
      subst e
      exact .inl ⟨Nat.le_refl _, q1.n s' σ' H' (hd s' hI) S' f⟩
theorem hs_while {M : S → Prop} (I : Nat → S → Prop) (m0 : Nat) (h0 : Wk (I m0) s)
    (hb : ∀ m s', I m s' → ∃ b, EvT K tt s' b ∧ (b = true → HS K E tu s' { O with n := Wk fun s2 => ∃ m', m' < m ∧ I m' s2, c := Wk fun s2 => ∃ m', m' < m ∧ I m' s2, b := Wk M }) ∧ (b = false → M s')) : HS K E (tWhile tt tu) s { O with n := M } := fun B σ H D S q => by
  obtain ⟨G0, hI0, lG⟩ := h0
  refine ⟨fun m σ' H' => ∃ s', I m s' ∧ Sat K B s' σ' H' ∧ Fr s.h H s'.h H', ⟨m0, ⟨G0, s.h⟩, hI0, ⟨S.hh, lG.sat S.gg⟩, Fr.refl⟩, ?_⟩
  rintro m σ' H' ⟨s', hI, S', f⟩
  obtain ⟨b, ht, h1, h2⟩ := hb m s' hI
  refine ht B σ' H' _ S' fun H2 e2 => ?_
  have f2 : Fr s.h H s'.h H2 := f.trans (Fr.of e2)
  cases b with
  | false => exact iteF (q.n s' σ' H2 (h2 rfl) (S'.mono e2) f2)
  | true =>
    refine iteT ⟨fun σ3 H3 => ∃ m', m' < m ∧ ∃ s3, I m' s3 ∧ Sat K B s3 σ3 H3 ∧ Fr s.h H s3.h H3, fun σ3 H3 n3 => n3, ?_⟩
    exact hs_wk (O := { O with n := fun s2 => ∃ m', m' < m ∧ I m' s2, c := fun s2 => ∃ m', m' < m ∧ I m' s2, b := M }) (h1 rfl) B σ' H2 _ (S'.mono e2) ⟨fun s3 σ3 H4 m3 S3 f4 => by
      obtain ⟨m', hm, hI3⟩ := m3
      exact ⟨m', hm, s3, hI3, S3, f2.trans f4⟩, fun w Δ' v H4 r S3 f4 rr => q.r w Δ' v H4 r S3 (f2.trans f4) rr, fun s3 σ3 H4 m3 S3 f4 => q.n s3 σ3 H4 m3 S3 (f2.trans f4), fun s3 σ3 H4 m3 S3 f4 => by
      obtain ⟨m', hm, hI3⟩ := m3
      exact ⟨m', hm, s3, hI3, S3, f2.trans f4⟩, fun c s3 σ3 H4 xx S3 f4 => q.x c s3 σ3 H4 xx S3 (f2.trans f4)⟩
theorem hs_mono {O' : Out} (h : HS K E t1 s O) (n : ∀ s, O.n s → O'.n s) (r : ∀ w d, O.r w d → O'.r w d) (b : ∀ s, O.b s → O'.b s) (c : ∀ s, O.c s → O'.c s) (x : ∀ v s, O.x v s → O'.x v s) : HS K E t1 s O' := fun B σ H D S q =>
  h B σ H D S ⟨fun s σ H m => q.n s σ H (n s m), fun w d v H m => q.r w d v H (r w d m), fun s σ H m => q.b s σ H (b s m), fun s σ H m => q.c s σ H (c s m), fun v s σ H m => q.x v s σ H (x v s m)⟩
theorem hs_bwk {P Q : S → Prop} (h : HS K E t1 s { O with n := P, c := Q, b := O.n }) : HS K E t1 s { O with n := P, c := Q, b := Wk O.n } := hs_mono h (fun _ m => m) (fun _ _ m => m) (fun _ m => wk_of m) (fun _ m => m) fun _ _ m => m
/-! ### the same loops, ending where the block's Out says -/
theorem hl_forL {xs : List W} (h : Ev K tl s x) (I : Nat → S → Prop) (h0 : Wk (I 0) s) (l : ∀ i s', I i s' → LV s' x xs)
    (hb : ∀ i u s', xs[i]? = some u → I i s' → ∃ s1, GS K g u s' s1 ∧ HS K E tu s1 { O with n := Wk (I (i + 1)), c := Wk (I (i + 1)), b := O.n }) (hd : ∀ s', I xs.length s' → O.n s') : HS K E (tFor (iList K tl) g tu) s O := hs_forL (O := O) (M := O.n) h I h0 l rw_mono' (fun i u s' hu hI => let ⟨s1, hg, hh⟩ := hb i u s' hu hI; ⟨s1, hg, hs_bwk hh⟩) hd
theorem hl_forR {n : Int} (h : EvA K tr s [wi n]) (h1 : -(2 ^ 62) ≤ n ∧ n < 2 ^ 62) (I : Nat → S → Prop) (h0 : Wk (I 0) s)
    (hb : ∀ (i : Nat) s', (i : Int) < n → I i s' → ∃ s1, GS K g (wi (i : Int)) s' s1 ∧ HS K E tu s1 { O with n := Wk (I (i + 1)), c := Wk (I (i + 1)), b := O.n }) (hd : ∀ s', I n.toNat s' → O.n s') : HS K E (tFor (iRng1 tr) g tu) s O := hs_forR (O := O) (M := O.n) h h1 I h0 (fun i s' hu hI => let ⟨s1, hg, hh⟩ := hb i s' hu hI; ⟨s1, hg, hs_bwk hh⟩) hd
theorem hl_forR2 {lo n : Int} (h : EvA K tr s [wi lo, wi n]) (h1 : -(2 ^ 62) ≤ lo ∧ lo < 2 ^ 62 ∧ -(2 ^ 62) ≤ n ∧ n < 2 ^ 62) (I : Nat → S → Prop) (h0 : Wk (I 0) s)
    (hb : ∀ (i : Nat) s', lo + (i : Int) < n → I i s' → ∃ s1, GS K g (wi (lo + (i : Int))) s' s1 ∧ HS K E tu s1 { O with n := Wk (I (i + 1)), c := Wk (I (i + 1)), b := O.n }) (hd : ∀ s', I (n - lo).toNat s' → O.n s') : HS K E (tFor (iRng2 tr) g tu) s O := hs_forR2 (O := O) (M := O.n) h h1 I h0 (fun i s' hu hI => let ⟨s1, hg, hh⟩ := hb i s' hu hI; ⟨s1, hg, hs_bwk hh⟩) hd
theorem hl_forS {y : Str} (h : Ev K tl s (ws y)) (I : Nat → S → Prop) (h0 : Wk (I 0) s)
    (hb : ∀ (i c : Nat) s', y.cps[i]? = some c → I i s' → ∃ s1, GS K g (ws ⟨#[c]⟩) s' s1 ∧ HS K E tu s1 { O with n := Wk (I (i + 1)), c := Wk (I (i + 1)), b := O.n }) (hd : ∀ s', I y.length s' → O.n s') : HS K E (tFor (iStr tl) g tu) s O := hs_forS (O := O) (M := O.n) h I h0 (fun i c s' hu hI => let ⟨s1, hg, hh⟩ := hb i c s' hu hI; ⟨s1, hg, hs_bwk hh⟩) hd
theorem hl_while (I : Nat → S → Prop) (m0 : Nat) (h0 : Wk (I m0) s)
    (hb : ∀ m s', I m s' → ∃ b, EvT K tt s' b ∧ (b = true → HS K E tu s' { O with n := Wk fun s2 => ∃ m', m' < m ∧ I m' s2, c := Wk fun s2 => ∃ m', m' < m ∧ I m' s2, b := O.n }) ∧ (b = false → O.n s')) : HS K E (tWhile tt tu) s O := hs_while (O := O) (M := O.n) I m0 h0 (fun m s' hI => let ⟨b, h1, h2, h3⟩ := hb m s' hI; ⟨b, h1, fun e => hs_bwk (h2 e), h3⟩)
/-- .. then the rest; without a break -/
theorem hq_forL {xs : List W} (h : Ev K tl s x) (I : Nat → S → Prop) (h0 : Wk (I 0) s) (l : ∀ i s', I i s' → LV s' x xs)
    (hb : ∀ i u s', xs[i]? = some u → I i s' → ∃ s1, GS K g u s' s1 ∧ HS K E tu s1 { O with n := Wk (I (i + 1)), c := Wk (I (i + 1)), b := Wk (I xs.length) }) (h2 : ∀ s', I xs.length s' → HS K E tz s' O) : HS K E (tSeq (tFor (iList K tl) g tu) tz) s O :=
  hs_seq (M := I xs.length) (hs_forL h I h0 l rw_mono' hb fun _ q => q) h2
theorem hq_forR {n : Int} (h : EvA K tr s [wi n]) (h1 : -(2 ^ 62) ≤ n ∧ n < 2 ^ 62) (I : Nat → S → Prop) (h0 : Wk (I 0) s)
    (hb : ∀ (i : Nat) s', (i : Int) < n → I i s' → ∃ s1, GS K g (wi (i : Int)) s' s1 ∧ HS K E tu s1 { O with n := Wk (I (i + 1)), c := Wk (I (i + 1)), b := Wk (I n.toNat) }) (h2 : ∀ s', I n.toNat s' → HS K E tz s' O) : HS K E (tSeq (tFor (iRng1 tr) g tu) tz) s O :=
  hs_seq (M := I n.toNat) (hs_forR h h1 I h0 hb fun _ q => q) h2
theorem hq_forS {y : Str} (h : Ev K tl s (ws y)) (I : Nat → S → Prop) (h0 : Wk (I 0) s)
    (hb : ∀ (i c : Nat) s', y.cps[i]? = some c → I i s' → ∃ s1, GS K g (ws ⟨#[c]⟩) s' s1 ∧ HS K E tu s1 { O with n := Wk (I (i + 1)), c := Wk (I (i + 1)), b := Wk (I y.length) }) (h2 : ∀ s', I y.length s' → HS K E tz s' O) : HS K E (tSeq (tFor (iStr tl) g tu) tz) s O :=
  hs_seq (M := I y.length) (hs_forS h I h0 hb fun _ q => q) h2
/-! ### promises -/
abbrev Tr := List W → Del → (W → Del → Prop) → (Value → Del → Prop) → Prop
def spOf (K : PySem.W.Frag) (t : Tr) : Sp := fun vs H Q E => ∃ (B : List Addr) (xs : List W) (Δ : Del) (k : W → Del → Prop) (ex : Value → Del → Prop), SatH K B Δ H ∧ RWs K (msk H (ads Δ ++ B)) vs xs ∧ t xs Δ k ex ∧
  (∀ w Δ' v H', k w Δ' → SatH K B Δ' H' → Fr Δ H Δ' H' → RW K (msk H' (ads Δ' ++ B)) v w → Q v H') ∧ ∀ c Δ' H', ex c Δ' → SatH K B Δ' H' → Fr Δ H Δ' H' → E c none H'
theorem start_sat {M : Hp} {N : List Str} {vs : List V} {xs : List W} (r : RWs K M vs xs) : SatG K M (xs.map some ++ List.replicate (N.length - xs.length) none) (L2.start N vs) := by
  unfold L2.start
  rw [r.len]
  refine ⟨by simp [r.len], fun i w q => ?_⟩
  have hi : i < xs.length := by
    by_cases hi : i < xs.length
    · exact hi
    · rw [List.getElem?_append_right (by simpa using hi)] at q
      rw [List.getElem?_replicate] at q
      split at q <;> cases q
  rw [List.getElem?_append_left (by simpa using hi), List.getElem?_map] at q
  cases hx : xs[i]? with
  | none => rw [hx] at q; cases q
  | some u =>
    rw [hx] at q
    cases q
    obtain ⟨v, hv, rv⟩ := r.get hx
    refine ⟨v, ?_, rv⟩
    rw [List.getElem?_append_left (by rw [List.length_map, r.len]; exact hi), List.getElem?_map, hv]
    rfl
section
variable {P : Program} {w : World} {mg : Str → Option Value} {base : Heap}
theorem body_ok {t : Tr} {ts : TS} {N : List Str} {vs : List V} {Q : VK} {E : XK} (hs : ∀ xs Δ k ex, t xs Δ k ex → xs.length = vs.length → HS K (fun _ => E) ts ⟨xs.map some ++ List.replicate (N.length - xs.length) none, Δ⟩ { n := fun s' => k wn s'.h, r := k, x := fun c s' => ex c s'.h })
    (h : spOf K t vs H Q E) : ts { nx := fun _ H' => Q .non H', rt := Q } (L2.start N vs) H := by
  obtain ⟨B, xs, Δ, k, ex, sh, r, ht, hk, hx⟩ := h
  exact hs xs Δ k ex ht r.len.symm B (L2.start N vs) H _ ⟨sh, start_sat r⟩ ⟨fun s' σ' H' m S f => hk _ _ _ _ m S.hh f rn, fun w Δ' v H' m S f r => hk w Δ' v H' m S f r, fun _ _ _ m => m.elim, fun _ _ _ m => m.elim, fun c s' σ' H' m S f => hx c _ H' m S.hh f⟩
/-- a def that raises nothing -/
theorem fn_ok {x qual : Str} {st : Stmt} {f : Addr} {fd : FuncData} {N ps : List Str} {k : Nat} {t : Tr} (F : Fun K x qual st f fd) (S : FnScope N ps (defScope st)) (len : ∀ xs Δ k ex, t xs Δ k ex → xs.length = ps.length)
    (hb : ∀ (cdv : Value) (A : Around) (outer : List Env) (s : Shared) (H : Hp) (E : XK), Room k (A.deeper (envOfC qual (defScope st) s.heap.objs.size f cdv)) →
      ∃ ts, PSs (cxOf CX0 P w K mg base N qual (defScope st) f cdv A outer s H E).nox (defBody st) ts ∧ ∀ xs Δ k ex, t xs Δ k ex → HS K (fun _ => E) ts ⟨xs.map some ++ List.replicate (N.length - xs.length) none, Δ⟩ { n := fun s' => k wn s'.h, r := k, x := fun c s' => ex c s'.h }) :
    FnOk P w K mg base CX0 (k + 1) f fd ps (spOf K t) := by
  refine F.ok S (fun vs H Q E h => ?_) fun cdv A outer s H vs Q E hr h => ?_
  · obtain ⟨B, xs, Δ, k, ex, sh, r, ht, _⟩ := h
    rw [r.len]; exact len _ _ _ _ ht
  · obtain ⟨ts, hp, hs⟩ := hb cdv A outer s H E hr
    exact ⟨ts, hp, body_ok (fun xs Δ k ex ht _ => hs xs Δ k ex ht) h⟩
/-- one that may raise -/
theorem fn_okX {x qual : Str} {st : Stmt} {f : Addr} {fd : FuncData} {N ps : List Str} {k : Nat} {t : Tr} (F : Fun K x qual st f fd) (S : FnScope N ps (defScope st)) (len : ∀ xs Δ k ex, t xs Δ k ex → xs.length = ps.length)
    (hb : ∀ (cdv : Value) (A : Around) (outer : List Env) (s : Shared) (H : Hp) (E : XK), Room k (A.deeper (envOfC qual (defScope st) s.heap.objs.size f cdv)) →
      ∃ ts, PSs (cxOf (L2.CX P w) P w K mg base N qual (defScope st) f cdv A outer s H E) (defBody st) ts ∧ ∀ xs Δ k ex, t xs Δ k ex → HS K (fun _ => E) ts ⟨xs.map some ++ List.replicate (N.length - xs.length) none, Δ⟩ { n := fun s' => k wn s'.h, r := k, x := fun c s' => ex c s'.h }) :
    FnOk P w K mg base (L2.CX P w) (k + 1) f fd ps (spOf K t) := by
  refine F.okX S (fun vs H Q E h => ?_) fun cdv A outer s H vs Q E hr h => ?_
  · obtain ⟨B, xs, Δ, k, ex, sh, r, ht, _⟩ := h
    rw [r.len]; exact len _ _ _ _ ht
  · obtain ⟨ts, hp, hs⟩ := hb cdv A outer s H E hr
    exact ⟨ts, hp, body_ok (fun xs Δ k ex ht _ => hs xs Δ k ex ht) h⟩
end
/-! ### calls -/
theorem fr_nil_same (f : Fr [] H [] H') : Same H H' := fun b o e => (f b o (by simp [ads]) e).2
/-- of a def that changes no cell; its arguments are data -/
theorem ev_call {E : XK} {t : Tr} {xs : List W} (h : EvA K tr s xs) (ht : t xs [] (fun w' Δ' => w' = w ∧ Δ' = []) (fun _ _ => False)) : Ev K (tCall (spOf K t) [] E tr) s w := fun B σ H Q S q =>
  h B σ H _ S fun vs H1 e1 r1 => by
    have S1 := S.mono e1
    refine ⟨ads s.h ++ B, xs, [], _, _, sath_mt S1.hh, by rw [List.append_nil]; exact r1, ht, ?_, fun _ _ _ z => z.elim⟩
    rintro w' Δ' v H' ⟨rfl, rfl⟩ _ f r
    exact q v H' (e1.trans (fr_nil_same f)) r
/-- .. that hands back what is no object; its arguments are seen as data -/
def flatW : W → Bool
  | .d (.int _) => true
  | .d (.bool _) => true
  | .d (.str _) => true
  | .d .none => true
  | _ => false
theorem flat_rw {M M' : Hp} {v : V} (f : flatW w = true) (r : RW K M v w) : RW K M' v w := by
  cases w with
  | d p =>
    cases p with
    | none => cases rw_n r; exact rn
    | bool b => cases rw_b r; exact rb
    | int i => cases rw_i r; exact ri
    | str b => cases rw_s r; exact rs
    | list _ => cases f
    | tuple _ => cases f
    | dict _ => cases f
  | o _ => cases f
  | x _ => cases f
  | sc _ => cases f
/-- an argument as it is, or a cell's list as data -/
def VW (s : S) (w w' : W) : Prop := w' = w ∨ ∃ a ds, w = .o a ∧ w' = wl ds ∧ (a, Cell.lst (ds.map .d)) ∈ s.h
inductive VWs (s : S) : List W → List W → Prop
  | nil : VWs s [] []
  | cons {w w' : W} {xs ys : List W} : VW s w w' → VWs s xs ys → VWs s (w :: xs) (w' :: ys)
theorem vw_i : VW s w w := .inl rfl
theorem vw_o {a : Addr} {ds : List PyData} (n : Nat) (h : s.h[n]? = some (a, .lst (ds.map .d))) : VW s (.o a) (wl ds) := .inr ⟨a, ds, rfl, rfl, List.mem_of_getElem? h⟩
theorem VW.get {w w' : W} (h : VW s w w') (S : Sat K B s σ H) {v : V} (r : RW K (msk H (ads s.h ++ B)) v w) : RW K H v w' := by
  rcases h with rfl | ⟨a, ds, rfl, rfl, m⟩
  · exact r.mono msk_sub
  · cases r
    obtain ⟨vs, e, rr⟩ := S.hh.cell _ m
    exact Dq.lst e (dpa_mono msk_sub (rws_dpa rr))
theorem VWs.get {xs ys : List W} (h : VWs s xs ys) (S : Sat K B s σ H) : ∀ {vs : List V}, RWs K (msk H (ads s.h ++ B)) vs xs → RWs K H vs ys := by
  induction h with
  | nil => intro vs r; cases r; exact .nil
  | cons h _ ih =>
    intro vs r
    cases r with
    | cons r1 r2 => exact .cons (h.get S r1) (ih r2)
theorem msk_nil : msk H [] = H := by funext b; exact if_neg (by simp)
theorem ev_callB {E : XK} {t : Tr} {xs ys : List W} (h : EvA K tr s xs) (hv : VWs s xs ys) (ht : t ys [] (fun w' Δ' => w' = w ∧ Δ' = []) (fun _ _ => False)) (hf : flatW w = true) : Ev K (tCall (spOf K t) [] E tr) s w := fun B σ H Q S q =>
  h B σ H _ S fun vs H1 e1 r1 => by
    have S1 := S.mono e1
    refine ⟨[], ys, [], _, _, ⟨fun p hp => (by cases hp), .nil, fun b hb => (by cases hb), (fun _ _ z => by cases z), fun b hb => (by cases hb)⟩, by rw [show ads [] ++ [] = ([] : List Addr) from rfl, msk_nil, List.append_nil]; exact hv.get S1 r1, ht, ?_, fun _ _ _ z => z.elim⟩
    rintro w' Δ' v H' ⟨rfl, rfl⟩ _ f r
    exact q v H' (e1.trans (fr_nil_same f)) (flat_rw hf r)
/-- a pure promise -/
def pureT (pre : List W → Prop) (f : List W → W) : Tr := fun xs Δ k _ => Δ = [] ∧ pre xs ∧ k (f xs) []
end
end DL

namespace DL
open PySem PySem.Spec PyProof.Rows L2
/-- a def that is known: where it stands, what it promises -/
def Kn (P : Program) (w : World) (K : PySem.W.Frag) (mg : Str → Option Value) (base : Heap) (CX : CXT) (k : Nat) (x : Str) (ps : List Str) (t : Tr) : Prop :=
  ∃ f fd, FnOk P w K mg base CX k f fd ps (spOf K t) ∧ mg x = some (.ref f) ∧ PySem.W.keepIn K (.ref f) = true ∧ Binds K fd ps []
/-- a constant of the module -/
def Cst (mg : Str → Option Value) (x : Str) (v : V) : Prop := ∃ u, mg x = some u ∧ RelV v u
/-- the context's own parts, by name: all by rfl, once the context is known -/
structure At (X : Cx) (P : Program) (w : World) (K : PySem.W.Frag) (mg : Str → Option Value) (base : Heap) : Prop where
  p : X.prog = P
  w : X.w = w
  k : X.K = K
  m : X.mg = mg
  b : X.base = base
section
variable {X : Cx} {CX : CXT} {k j : Nat} {x : Str} {ps : List Str} {t : Tr} {E : XK} {p pos : Pos} {e : Expr} {es : List Expr} {ta : TA} {v : V}
variable {P : Program} {w : World} {K : PySem.W.Frag} {mg : Str → Option Value} {base : Heap} {A : Around} {T id : String} {r : List V → Hp → VK → Prop}
theorem pe_kn (h : Kn P w K mg base CX k x ps t) (hr : Room j A) (hj : k ≤ j) (ha : PA X (e :: es) ta) (hx : Passes CX X E) (hA : X.A = A := by rfl) (hX : At X P w K mg base := by exact ⟨rfl, rfl, rfl, rfl, rfl⟩) (hg : Gl X x := by rfl) (hdb : (x == ("__debug__" : Str)) = false := by decide)
    (he : starEach (e :: es) X.env = (false, eval e X.env) :: starEach es X.env := by rfl) (hpl : (backTo pos (starEach es X.env)).any (·.1) = false := by rfl) : PE X (.Call (.Name x p) (e :: es) [] pos) (tCall (spOf K t) [] E ta) := by
  obtain ⟨f, fd, F, hm, hk, hb⟩ := h
  obtain ⟨rfl, rfl, rfl, rfl, rfl⟩ := hX
  subst hA
  exact pe_call F (hr.mono hj) hg hm hk hb .nil hx ha hdb he hpl
theorem pe_kn0 (h : Kn P w K mg base CX k x [] t) (hr : Room j A) (hj : k ≤ j) (hx : Passes CX X E) (hA : X.A = A := by rfl) (hX : At X P w K mg base := by exact ⟨rfl, rfl, rfl, rfl, rfl⟩) (hg : Gl X x := by rfl) (hdb : (x == ("__debug__" : Str)) = false := by decide) : PE X (.Call (.Name x p) [] [] pos) (tCall (spOf K t) [] E tNil) := by
  obtain ⟨f, fd, F, hm, hk, hb⟩ := h
  obtain ⟨rfl, rfl, rfl, rfl, rfl⟩ := hX
  subst hA
  exact pe_call0 F (hr.mono hj) hg hm hk hb .nil hx hdb
theorem pe_cst (h : Cst mg x v) (hX : X.mg = mg := by rfl) (hg : Gl X x := by rfl) (hd : (x == ("__debug__" : Str)) = false := by decide) : PE X (.Name x pos) (tC v) := by
  obtain ⟨u, hm, r⟩ := h
  subst hX
  exact pe_glob hg hm r hd
theorem pe_ty (hm : mg x = none) (hv : bootBuiltins x = some (.type T)) (hX : X.mg = mg := by rfl) (hg : Gl X x := by rfl) (hn : x ≠ "__name__" := by decide) (hd : (x == ("__debug__" : Str)) = false := by decide) : PE X (.Name x pos) (tC (.ty T)) := by
  subst hX
  exact pe_bltn hg hm hv rfl hn hd
theorem pe_cB (hc : CallR X (.builtin id) r) (hm : mg x = none) (hv : bootBuiltins x = some (.builtin id)) (ha : PA X (e :: es) ta) (hX : X.mg = mg := by rfl) (hg : Gl X x := by rfl) (hn : x ≠ "__name__" := by decide) (hdb : (x == ("__debug__" : Str)) = false := by decide)
    (he : starEach (e :: es) X.env = (false, eval e X.env) :: starEach es X.env := by rfl) (hpl : (backTo pos (starEach es X.env)).any (·.1) = false := by rfl) : PE X (.Call (.Name x p) (e :: es) [] pos) (tCB r ta) := by
  subst hX
  exact pe_callB hc hg hm hv ha hn hdb he hpl
theorem pe_cT (hc : CallR X (.type T) r) (hm : mg x = none) (hv : bootBuiltins x = some (.type T)) (ha : PA X (e :: es) ta) (hX : X.mg = mg := by rfl) (hg : Gl X x := by rfl) (hn : x ≠ "__name__" := by decide) (hdb : (x == ("__debug__" : Str)) = false := by decide)
    (he : starEach (e :: es) X.env = (false, eval e X.env) :: starEach es X.env := by rfl) (hpl : (backTo pos (starEach es X.env)).any (·.1) = false := by rfl) : PE X (.Call (.Name x p) (e :: es) [] pos) (tCB r ta) := by
  subst hX
  exact pe_callTy hc hg hm hv ha hn hdb he hpl
theorem lenK (K : PySem.W.Frag) (hK : X.K = K := by rfl) : CallR X (.builtin "len") (fun xs H Q => ∃ x n, xs = [x] ∧ LenV K x H n ∧ Q (.int n) H) := hK ▸ call_len
theorem isiK (K : PySem.W.Frag) (hK : X.K = K := by rfl) : CallR X (.builtin "isinstance") (rIsi K) := hK ▸ call_isi
theorem listK (K : PySem.W.Frag) (hK : X.K = K := by rfl) : CallR X (.type "list") (fun xs H Q => ∃ p ys, xs = [.ref p] ∧ (SqL K H p ys ∨ SqT K H p ys) ∧ ∀ l, H l = none → Q (.ref l) (upd H l (.lst ys))) := hK ▸ call_list_of
theorem ixK (K : PySem.W.Frag) (hK : X.K = K := by rfl) : IxR X (rIx K) := hK ▸ ix_seq
theorem slK (K : PySem.W.Frag) (hK : X.K = K := by rfl) : SlR X (rSlU K) := hK ▸ sl_u
theorem pi_listK (K : PySem.W.Frag) {tg l : Expr} {tl : TE} (hl : PE X l tl) (hK : X.K = K := by rfl) : PI X tg l (iList K tl) := hK ▸ pi_list hl
theorem pi_tupK (K : PySem.W.Frag) {tg l : Expr} {tl : TE} (hl : PE X l tl) (hK : X.K = K := by rfl) : PI X tg l (iTup K tl) := hK ▸ pi_tup hl
theorem op_eqA (K : PySem.W.Frag) (hr : Room j A) (hA : X.A = A := by rfl) (hK : X.K = K := by rfl) : OpR X (compareOp .Eq) (rEqU K) := hK ▸ op_eqU (by rw [hA]; exact hr.units)
theorem op_neA (K : PySem.W.Frag) (hr : Room j A) (hA : X.A = A := by rfl) (hK : X.K = K := by rfl) : OpR X (compareOp .NotEq) (rNeU K) := hK ▸ op_neU (by rw [hA]; exact hr.units)
theorem bmK (K : PySem.W.Frag) {T id : String} {o e : Expr} {es : List Expr} {to : TE} {t : TA} {name : Str} {apos cpos : Pos} {r : V → List V → Hp → VK → Prop} (pa : PlainAttrs T) (slot : Slot T name id) (hty : typeOf (.builtin id) = pure (.type "method_descriptor")) (hm : MtR X id r) (ho : PE X o to) (ha : PA X (e :: es) t) (hK : X.K = K := by rfl)
    (hbase : attributeBase o name X.env (eval o X.env) = eval o X.env := by rfl)
    (hfew : ((backTo cpos (starEach (e :: es) X.env)).all (fun x => !x.1) && (backToKw cpos (keywordEach [] X.env)).all (fun x => x.1.isSome) && decide ((e :: es).length + ([] : List Keyword).length + (if ([] : List Keyword).isEmpty then 0 else 1) < 30)) = true := by rfl)
    (hline : (apos.endLine == cpos.line) = true := by rfl) (hs : starEach (e :: es) X.env = (false, eval e X.env) :: starEach es X.env := by rfl) (hplain : (backTo cpos (starEach es X.env)).any (·.1) = false := by rfl) :
    PE X (.Call (.Attribute o name apos) (e :: es) [] cpos) (tBM K T r to t) := hK ▸ pe_bm pa slot hty hm ho ha hbase hfew hline hs hplain
theorem bm0K (K : PySem.W.Frag) {T id : String} {o : Expr} {to : TE} {name : Str} {apos cpos : Pos} {r : V → List V → Hp → VK → Prop} (pa : PlainAttrs T) (slot : Slot T name id) (hty : typeOf (.builtin id) = pure (.type "method_descriptor")) (hm : MtR X id r) (ho : PE X o to) (hK : X.K = K := by rfl)
    (hbase : attributeBase o name X.env (eval o X.env) = eval o X.env := by rfl) (hline : (apos.endLine == cpos.line) = true := by rfl) : PE X (.Call (.Attribute o name apos) [] [] cpos) (tBM0 K T r to) := hK ▸ pe_bm0 pa slot hty hm ho hbase hline
end
section
variable {P : Program} {w : World} {K : PySem.W.Frag} {mg : Str → Option Value} {base : Heap}
theorem kn_of {x : Str} {st : Stmt} {f : Addr} {fd : FuncData} {N ps : List Str} {k : Nat} {t : Tr} (F : Fun K x x st f fd) (hg : mg x = some (.ref f)) (hb : Binds K fd ps []) (S : FnScope N ps (defScope st)) (len : ∀ xs Δ k ex, t xs Δ k ex → xs.length = ps.length)
    (h : ∀ (cdv : Value) (A : Around) (outer : List Env) (s : Shared) (H : Hp) (E : XK), Room k (A.deeper (envOfC x (defScope st) s.heap.objs.size f cdv)) →
      ∃ ts, PSs (cxOf CX0 P w K mg base N x (defScope st) f cdv A outer s H E).nox (defBody st) ts ∧ ∀ xs Δ k ex, t xs Δ k ex → HS K (fun _ => E) ts ⟨xs.map some ++ List.replicate (N.length - xs.length) none, Δ⟩ { n := fun s' => k wn s'.h, r := k, x := fun c s' => ex c s'.h }) :
    Kn P w K mg base CX0 (k + 1) x ps t := ⟨f, fd, fn_ok F S len h, hg, F.kp, hb⟩
end
end DL

namespace DL
open PySem PySem.Spec PyProof.Rows L2 TL
section
variable {K : PySem.W.Frag} {s s1 s' : S} {ta tb te tl : TE} {tr : TA} {tt : TT} {x y z w : W} {B : List Addr} {H H' : Hp} {σ : L2.St} {X : Cx} {E : L2.St → XK} {O : Out} {t1 t2 tz tu tw : TS} {g : TG}
theorem pt_truthU {a : Expr} (ha : PE X a ta) (he : ∀ whole, isTrue a X.env whole = (do let v ← whole; standAt a.pos; holding [v] (truthy v))) : PT X a (tTruthU X.K ta) := pt_truth ha he
theorem pt_truK (K : PySem.W.Frag) {a : Expr} (ha : PE X a ta) (he : ∀ whole, isTrue a X.env whole = (do let v ← whole; standAt a.pos; holding [v] (truthy v))) (hK : X.K = K := by rfl) : PT X a (tTruthU K ta) := hK ▸ pt_truth ha he
/-- x = f(..), whatever comes back -/
theorem hq_asgT {t : Tr} {xs : List W} {j : Nat} (h : EvA K tr s xs) (ht : t xs [] (fun w' Δ' => Δ' = [] ∧ HS K E tz ⟨s.g.set j (some w'), s.h⟩ O) (fun _ _ => False)) : HS K E (tSeq (tAsg (tCall (spOf K t) [] E0 tr) (gName j)) tz) s O := fun B σ H D S q =>
  h B σ H _ S fun vs H1 e1 r1 => by
    have S1 := S.mono e1
    refine ⟨ads s.h ++ B, xs, [], _, _, sath_mt S1.hh, by rw [List.append_nil]; exact r1, ht, ?_, fun _ _ _ z => z.elim⟩
    rintro w' Δ' v H' ⟨rfl, h2⟩ _ f r
    have e2 := e1.trans (fr_nil_same f)
    exact h2 B _ H' D ⟨(S.mono e2).hh, (S.mono e2).gg.set r j⟩ (q.step (Fr.of e2))
end
/-! ### small texts -/
theorem joinL_nil : ∀ ps : List (List Nat), joinL [] ps = ps.flatten
  | [] => rfl
  | [p] => by show p = p ++ []; rw [List.append_nil]
  | p :: q :: r => by
    show p ++ ([] ++ joinL [] (q :: r)) = p ++ (q :: r).flatten
    rw [List.nil_append, joinL_nil (q :: r)]
theorem join0 (e : Str) (he : tl e = []) (ys : List Str) : tl (Txt.join e ys) = (ys.map tl).flatten := by
  rw [join_eq, tl_join, he, joinL_nil]
theorem str_ext {a b : Str} (h : tl a = tl b) : a = b := by
  cases a; cases b
  simp only [tl] at h
  simpa using h
theorem tl_len (a : Str) : (tl a).length = a.length := by
  simp [tl, PySem.Str.length]
theorem outs_d (n : Nat) (f : Nat → Bool) (v : Nat → PyData) : outs n f (fun i => .d (v i)) = (((List.range n).filter f).map v).map W.d := by
  unfold outs
  rw [List.map_map]
  rfl
end DL
namespace DL
open PySem PySem.Spec PyProof.Rows L2 TL
section
variable {K : PySem.W.Frag} {s s1 s' : S} {ta tb te tl : TE} {tr : TA} {tt : TT} {x y z w : W} {B : List Addr} {H H' : Hp} {σ : L2.St} {X : Cx} {E : L2.St → XK} {O : Out} {t1 t2 tz tu tw : TS} {g : TG}
theorem evf_slSc {tl th : TO} {lo hi : Option Int} {ns : List Int} (h : Ev K te s (.sc ns)) (hl : EvO K tl s lo) (hh : EvO K th s hi) : EvF K (tSl (rSlU K) te tl th) s (((cutW ns lo hi).map PyData.int).map W.d) := by
  have e : ((cutW ns lo hi).map PyData.int).map W.d = cutW (ns.map fun n => W.d (.int n)) lo hi := by
    unfold cutW
    rw [List.length_map, List.map_map, List.map_take, List.map_drop]
    rfl
  rw [e]
  exact evf_slL h lv_sc hl hh
end
def lawT : Tr := fun xs Δ k _ => Δ = [] ∧ ∃ ns : List Int, xs = [.sc ns] ∧ ns.length ≤ 63 ∧ k (wb true) []
theorem law_sp {K : PySem.W.Frag} {H : Hp} {a : Addr} {ns : List Int} (hl : ns.length ≤ 63) (hS : SqL K H a (ns.map V.int)) : spOf K lawT [.ref a] H (fun v _ => v = .bl true) fun _ _ _ => False := by
  refine ⟨[], [.sc ns], [], fun w Δ => w = wb true ∧ Δ = [], fun _ _ => False, ⟨fun p hp => (by cases hp), .nil, fun b hb => (by cases hb), (fun _ _ z => by cases z), fun b hb => (by cases hb)⟩, ?_, ⟨rfl, ns, rfl, hl, rfl, rfl⟩, ?_, fun _ _ _ z => z.elim⟩
  · rw [show ads [] ++ [] = ([] : List Addr) from rfl, msk_nil]
    exact .cons ⟨a, rfl, hS⟩ .nil
  · rintro w Δ' v H' ⟨rfl, rfl⟩ _ _ r
    exact rw_b r
theorem cutW_map {α β : Type} (f : α → β) (xs : List α) (lo hi : Option Int) : cutW (xs.map f) lo hi = (cutW xs lo hi).map f := by
  unfold cutW
  rw [List.length_map, ← List.map_drop, ← List.map_take]
theorem cutW_len {α : Type} (xs : List α) (lo hi : Option Int) : (cutW xs lo hi).length ≤ xs.length := by
  unfold cutW
  rw [List.length_take, List.length_drop]
  omega
end DL
namespace DL
open PySem PySem.Spec PyProof.Rows L2
theorem nox_K {CX : CXT} {P : Program} {w : World} {K : PySem.W.Frag} {mg : Str → Option Value} {base : Heap} {N : List Str} {qual : Str} {scope : Scope} {f : Addr} {cd : Value} {A : Around} {outer : List Env} {s : Shared} {H : Hp} {E : XK} :
    (cxOf CX P w K mg base N qual scope f cd A outer s H E).nox.K = K := rfl
theorem cx_K {CX : CXT} {P : Program} {w : World} {K : PySem.W.Frag} {mg : Str → Option Value} {base : Heap} {N : List Str} {qual : Str} {scope : Scope} {f : Addr} {cd : Value} {A : Around} {outer : List Env} {s : Shared} {H : Hp} {E : XK} :
    (cxOf CX P w K mg base N qual scope f cd A outer s H E).K = K := rfl
end DL
namespace DL
open PySem PySem.Spec PyProof.Rows L2
section
variable {K : PySem.W.Frag} {s : S}
theorem rv_mulR {i j : Int} (h : -(2 ^ 64) < j) (h' : j < 2 ^ 64) : RVs K s rMulU (wi i) (wi j) (wi (i * j)) := rv_mulI (Or.inr ⟨h, h'⟩)
theorem rv_mulL {i j : Int} (h : -(2 ^ 64) < i) (h' : i < 2 ^ 64) : RVs K s rMulU (wi i) (wi j) (wi (i * j)) := rv_mulI (Or.inl ⟨h, h'⟩)
theorem rv_divP {i j : Int} (h : 0 < j) (h' : j < 1073741824) : RVs K s rDivI (wi i) (wi j) (wi (i / j)) := rv_div ⟨h, h'⟩
theorem rv_powP {i j : Int} (h : 0 ≤ j) (h' : j ≤ 1000000) (h2 : i.natAbs < 2 ^ 64) : RVs K s rPowI (wi i) (wi j) (wi (i ^ j.toNat)) := rv_pow ⟨h, h', h2⟩
end
end DL
namespace DL
open PySem PySem.Spec PyProof.Rows L2 TL
def unD : W → PyData
  | .d p => p
  | _ => .none
section
variable {K : PySem.W.Frag} {s s1 s' : S} {ta tb tc te tl : TE} {tr : TA} {tt : TT} {x y z w : W} {B : List Addr} {H H' : Hp} {σ : L2.St} {X : Cx} {E : L2.St → XK} {O : Out} {t1 t2 tz tu tw : TS} {g : TG}
theorem evf_is {xs ys : List W} (h : EvF K te s xs) (e : xs = ys) : EvF K te s ys := e ▸ h
theorem ev_lst {xs : List W} (h : EvA K tr s xs) (hl : xs.length ≤ sizeLine) (hd : xs = (xs.map unD).map .d := by rfl) : Ev K (tLst tr) s (wl (xs.map unD)) := (evf_is (evf_lst h hl) hd).ev
theorem ev_tupU {xs : List W} (h : EvA K tr s xs) (hl : xs.length ≤ sizeLine) (hd : xs = (xs.map unD).map .d := by rfl) : Ev K (tTup tr) s (wt (xs.map unD)) := ev_tup (hd ▸ h) (by simpa using hl)
theorem evf_lcRD {j : Nat} {vs : List Nat} {n : Int} (p : Nat → PyData) (h : EvA K tr s [wi n]) (hn : n ≤ 16000000) (h0 : -(2 ^ 62) ≤ n) (hj : j ∈ vs) (he : ∀ i : Nat, (i : Int) < n → Ev K te (inB s vs j (wi (i : Int))) (.d (p i))) :
    EvF K (tLc (iRng1 tr) (gName j) tYes te vs) s (((List.range n.toNat).map p).map .d) := by
  refine evf_is (evf_lcR (fun _ => true) (fun i => .d (p i)) h hn hj (fun _ _ => et_yes) (fun i hi _ => he i hi) h0) ?_
  rw [outs_all, List.map_map]
  rfl
theorem evf_lcRS {j : Nat} {vs : List Nat} {n : Int} (y : Nat → Str) (h : EvA K tr s [wi n]) (hn : n ≤ 16000000) (h0 : -(2 ^ 62) ≤ n) (hj : j ∈ vs) (he : ∀ i : Nat, (i : Int) < n → Ev K te (inB s vs j (wi (i : Int))) (ws (y i))) :
    EvF K (tLc (iRng1 tr) (gName j) tYes te vs) s ((((List.range n.toNat).map y).map PyData.str).map .d) := by
  refine evf_is (evf_lcRD (fun i => .str (y i)) h hn h0 hj he) ?_
  rw [List.map_map, List.map_map, List.map_map]
  rfl
theorem evf_lcLD {j : Nat} {vs : List Nat} {xs : List W} (p : Nat → PyData) (h : Ev K tl s x) (l : LV s x xs) (hl : xs.length ≤ 16000000) (hj : j ∈ vs) (he : ∀ (i : Nat) (u : W), xs[i]? = some u → Ev K te (inB s vs j u) (.d (p i))) :
    EvF K (tLc (iList K tl) (gName j) tYes te vs) s (((List.range xs.length).map p).map .d) := by
  refine evf_is (evf_lcL (fun _ => true) (fun i => .d (p i)) h l hl hj (fun _ _ _ => et_yes) (fun i u hi _ => he i u hi)) ?_
  rw [outs_all, List.map_map]
  rfl
theorem evf_lcSD {j : Nat} {vs : List Nat} {y : Str} (p : Nat → PyData) (h : Ev K tl s (ws y)) (hl : y.length ≤ 16000000) (hj : j ∈ vs) (he : ∀ (i c : Nat), y.cps[i]? = some c → Ev K te (inB s vs j (ws ⟨#[c]⟩)) (.d (p i))) :
    EvF K (tLc (iStr tl) (gName j) tYes te vs) s (((List.range y.length).map p).map .d) := by
  refine evf_is (evf_lcS (fun _ => true) (fun i => .d (p i)) h hl hj (fun _ _ _ => et_yes) (fun i c hi _ => he i c hi)) ?_
  rw [outs_all, List.map_map]
  rfl
/-- a < b < c -/
theorem ev_chain {r r' : R2} {b c : Bool} (ha : Ev K ta s x) (hb : Ev K tb s y) (hc : Ev K tc s z) (hr : RVs K s r x y (wb b)) (hr' : b = true → RVs K s r' y z (wb c)) : Ev K (tChain r r' ta tb tc) s (wb (b && c)) := fun B σ H Q S q =>
  ha B σ H _ S fun v H1 e1 r1 => hb B σ H1 _ (S.mono e1) fun u H2 e2 r2 => hr B σ H2 v u _ (S.mono (e1.trans e2)) (r1.mono (msk_same e2)) r2 fun t H3 e3 r3 => by
    refine ⟨b, rw_b r3, ?_⟩
    cases b with
    | false => exact iteF (q _ H3 ((e1.trans e2).trans e3) rb)
    | true =>
      refine iteT (hc B σ H3 _ (S.mono ((e1.trans e2).trans e3)) fun u' H4 e4 r4 => ?_)
      exact hr' rfl B σ H4 u u' Q (S.mono (((e1.trans e2).trans e3).trans e4)) (r2.mono (msk_same (e3.trans e4))) r4 fun t' H5 e5 r5 => q t' H5 ((((e1.trans e2).trans e3).trans e4).trans e5) r5
end
end DL
namespace DL
open PySem PySem.Spec PyProof.Rows L2 TL
def kt (a b : String) : Bool := a == b || (a == "bool" && b == "int")
def ktL : List String := ["int", "bool", "str", "list", "tuple"]
theorem kit_all : ∀ a ∈ ktL, ∀ b ∈ ktL, kitB a b = some (kt a b) := by decide +kernel
section
variable {K : PySem.W.Frag} {s : S} {T : String}
theorem rc_isiI {i : Int} (h : T ∈ ktL) : RCs K s (rIsi K) [wi i, .x (.ty T)] (wb (kt "int" T)) := rc_isi (wi i) True.intro (kit_all "int" (by decide) T h)
theorem rc_isiB {i : Bool} (h : T ∈ ktL) : RCs K s (rIsi K) [wb i, .x (.ty T)] (wb (kt "bool" T)) := rc_isi (wb i) True.intro (kit_all "bool" (by decide) T h)
theorem rc_isiS {i : Str} (h : T ∈ ktL) : RCs K s (rIsi K) [ws i, .x (.ty T)] (wb (kt "str" T)) := rc_isi (ws i) True.intro (kit_all "str" (by decide) T h)
theorem rc_isiL {ds : List PyData} (h : T ∈ ktL) : RCs K s (rIsi K) [wl ds, .x (.ty T)] (wb (kt "list" T)) := rc_isi (wl ds) True.intro (kit_all "list" (by decide) T h)
theorem rc_isiT {ds : List PyData} (h : T ∈ ktL) : RCs K s (rIsi K) [wt ds, .x (.ty T)] (wb (kt "tuple" T)) := rc_isi (wt ds) True.intro (kit_all "tuple" (by decide) T h)
theorem rc_isiO {a : Addr} (h : T ∈ ktL) {xs : List W} (n : Nat) (hn : s.h[n]? = some (a, .lst xs)) : RCs K s (rIsi K) [.o a, .x (.ty T)] (wb (kt "list" T)) := rc_isi (.o a) ⟨xs, List.mem_of_getElem? hn⟩ (kit_all "list" (by decide) T h)
end
end DL

namespace DL
open PySem PySem.Spec PyProof.Rows L2 TL
section
variable {K : PySem.W.Frag} {s s1 s' : S} {ta tb tc te tl : TE} {tr : TA} {tt : TT} {x y z w : W} {B : List Addr} {H H' : Hp} {σ : L2.St} {X : Cx} {E E1 : L2.St → XK} {O : Out} {t1 t2 tz tu tw : TS} {g : TG} {t : Tr} {r : R2}
/-! ### new lists that a def hands back -/
theorem hs_retF {xs : List W} (h : EvF K te s xs) (h2 : ∀ a, O.r (.o a) [(a, .lst xs)]) : HS K E (tRet te) s O := fun B σ H D S q =>
  h B σ H _ S fun a vs H' e n ha r => by
    have S0 : Sat K B ⟨s.g, []⟩ σ H := ⟨sath_nil S.hh, S.gg.mono (msk_less fun b hb => List.mem_append_right _ (by simpa [ads] using hb))⟩
    obtain ⟨c1, c2, c3⟩ := cell_new (s := ⟨s.g, []⟩) (xs := xs) S0 e n ha (r.mono (msk_less fun b hb => by
      rcases List.mem_cons.mp hb with z | z
      · exact z ▸ List.mem_cons_self
      · exact List.mem_cons_of_mem _ (List.mem_append_right _ (by simpa [ads] using z))))
    refine q.r (.o a) _ _ H' (h2 a) c1 (fun b o nb e2 => ?_) rfl
    exact c2 b o (fun z => by cases z) e2
theorem sath_app {Δ Δ' : Del} (h : SatH K (ads Δ ++ B) Δ' H') (f : Fr [] H Δ' H') (S : SatH K B Δ H) : SatH K B (Δ' ++ Δ) H' := by
  have ea : ads (Δ' ++ Δ) = ads Δ' ++ ads Δ := by unfold ads; rw [List.map_append]
  have em : ads (Δ' ++ Δ) ++ B = ads Δ' ++ (ads Δ ++ B) := by rw [ea, List.append_assoc]
  refine ⟨fun p hp => ?_, ?_, fun b hb => h.bt b (List.mem_append_right _ hb), fun b hb z => ?_, fun b hb => h.nt b (List.mem_append_right _ hb)⟩
  · rw [em]
    rcases List.mem_append.mp hp with hp | hp
    · exact h.cell p hp
    · have q := S.cell p hp
      obtain ⟨o, ho⟩ := q.some
      rw [ho] at q
      rw [(f _ _ (by simp [ads]) ho).2]
      exact q.mono (Fr.msk (B := ads Δ ++ B) f)
  · rw [ea]
    exact List.nodup_append.mpr ⟨h.nd, S.nd, fun a ha b hb e => h.db b (List.mem_append_left _ hb) (e ▸ ha)⟩
  · rw [ea] at z
    rcases List.mem_append.mp z with z | z
    · exact h.db b (List.mem_append_right _ hb) z
    · exact S.db b hb z
/-- the call's own words -/
theorem callW {xs : List W} {E2 : XK} {k : W → Del → Prop} {ex : Value → Del → Prop} {vs : List V} {Q : VK} (S : Sat K B s σ H) (r1 : RWs K (msk H (ads s.h ++ B)) vs xs) (ht : t xs [] k ex)
    (q : ∀ w Δ' v H', k w Δ' → Sat K B ⟨s.g, Δ' ++ s.h⟩ σ H' → Fr s.h H (Δ' ++ s.h) H' → RW K (msk H' (ads (Δ' ++ s.h) ++ B)) v w → Q v H') (qx : ∀ c Δ' H', ex c Δ' → Sat K B ⟨s.g, Δ' ++ s.h⟩ σ H' → Fr s.h H (Δ' ++ s.h) H' → E2 c none H') : spOf K t vs H Q E2 := by
  have em : ∀ Δ' : Del, ads (Δ' ++ s.h) ++ B = ads Δ' ++ (ads s.h ++ B) := fun Δ' => by unfold ads; rw [List.map_append, List.append_assoc]
  have fr : ∀ {Δ' H'}, SatH K (ads s.h ++ B) Δ' H' → Fr [] H Δ' H' → Fr s.h H (Δ' ++ s.h) H' := fun {Δ' H'} h f b o nb e => by
    obtain ⟨n, e'⟩ := f b o (by simp [ads]) e
    refine ⟨fun z => ?_, e'⟩
    unfold ads at z n nb
    rw [List.map_append] at z
    exact (List.mem_append.mp z).elim n nb
  have sat : ∀ {Δ' H'}, SatH K (ads s.h ++ B) Δ' H' → Fr [] H Δ' H' → Sat K B ⟨s.g, Δ' ++ s.h⟩ σ H' := fun {Δ' H'} h f => by
    refine ⟨sath_app h f S.hh, ?_⟩
    show SatG K (msk H' (ads (Δ' ++ s.h) ++ B)) s.g σ
    rw [em]
    exact S.gg.mono (Fr.msk (B := ads s.h ++ B) f)
  refine ⟨ads s.h ++ B, xs, [], k, ex, sath_mt S.hh, r1, ht, fun w Δ' v H' kk h f r => q w Δ' v H' kk (sat h f) (fr h f) (by rw [em]; exact r), fun c Δ' H' xx h f => qx c Δ' H' xx (sat h f) (fr h f)⟩
theorem rws_nil {vs : List V} {M : Hp} {xs : List W} (r : RWs K M vs xs) : RWs K M (vs ++ []) xs := by rw [List.append_nil]; exact r
/-- x = f(..), whatever comes back, with the cells that it brings -/
theorem hq_asgC {E2 : XK} {xs : List W} {j : Nat} (h : EvA K tr s xs) (ht : t xs [] (fun w' Δ' => HS K E tz ⟨s.g.set j (some w'), Δ' ++ s.h⟩ O) (fun _ _ => False)) : HS K E (tSeq (tAsg (tCall (spOf K t) [] E2 tr) (gName j)) tz) s O := fun B σ H D S q =>
  h B σ H _ S fun vs H1 e1 r1 => callW (S.mono e1) (rws_nil r1) ht (fun w' Δ' v H' kk S2 f r => kk B _ H' D ⟨S2.hh, S2.gg.set r j⟩ (q.step ((Fr.of e1).trans f))) fun _ _ _ z => z.elim
/-- a new list's value, given up -/
theorem share1 {a : Addr} {ds : List PyData} {v : V} (S : Sat K B ⟨s.g, [(a, Cell.lst (ds.map .d))] ++ s.h⟩ σ H) (r : RW K (msk H (ads ([(a, Cell.lst (ds.map .d))] ++ s.h) ++ B)) v (.o a)) : RW K (msk H (ads s.h ++ B)) v (wl ds) := by
  cases (show v = V.ref a from r)
  obtain ⟨vs, e, rr⟩ := S.hh.cell (a, Cell.lst (ds.map .d)) (List.mem_append_left _ (List.mem_singleton.mpr rfl))
  have hn : a ∉ ads s.h ++ B := fun z => by
    rcases List.mem_append.mp z with z | z
    · have nd := S.hh.nd
      exact (List.nodup_cons.mp nd).1 z
    · exact S.hh.db a z List.mem_cons_self
  refine Dq.lst (xs := vs) ?_ (rws_dpa (rr.mono (msk_less fun b hb => List.mem_cons_of_mem _ hb)))
  rw [msk_out hn]
  exact e
theorem fr_back {Δ Δ' : Del} (f : Fr Δ H (Δ' ++ Δ) H') (S : SatH K B Δ H) (h : ∀ b ∈ ads Δ, H' b = H b) : Same H H' := fun b o e => by
  by_cases hb : b ∈ ads Δ
  · rw [h b hb]; exact e
  · exact (f b o hb e).2
theorem ev_callF {E2 : XK} {xs : List W} {ds : List PyData} (h : EvA K tr s xs) (ht : t xs [] (fun w' Δ' => ∃ a, w' = .o a ∧ Δ' = [(a, Cell.lst (ds.map .d))]) (fun _ _ => False)) : Ev K (tCall (spOf K t) [] E2 tr) s (wl ds) := fun B σ H Q S q =>
  h B σ H _ S fun vs H1 e1 r1 => by
    have S1 := S.mono e1
    refine ⟨ads s.h ++ B, xs, [], _, _, sath_mt S1.hh, rws_nil r1, ht, ?_, fun _ _ _ z => z.elim⟩
    rintro w' Δ' v H' ⟨a, rfl, rfl⟩ sh f r
    have e2 : Same H1 H' := fun b o e => (f b o (by simp [ads]) e).2
    have S2 : Sat K B ⟨s.g, [(a, Cell.lst (ds.map .d))] ++ s.h⟩ σ H' := ⟨sath_app sh f S1.hh, by
      have g := S1.gg.mono (Fr.msk (B := ads s.h ++ B) f)
      exact g⟩
    exact q v H' (e1.trans e2) (share1 S2 r)
/-- a list in a cell becomes data -/
theorem hs_share {a : Addr} {ds : List PyData} {Δ : Del} {G : Gam} (hs : s.h = (a, Cell.lst (ds.map .d)) :: Δ) (hG : G.length = s.g.length ∧ ∀ (i : Nat) (w : W), G[i]? = some (some w) → s.g[i]? = some (some w) ∨ (w = wl ds ∧ s.g[i]? = some (some (W.o a)))) (h : HS K E t1 ⟨G, Δ⟩ O) : HS K E t1 s O := fun B σ H D S q => by
  obtain ⟨g, hh⟩ := s
  simp only at hs hG
  subst hs
  have S' : Sat K B ⟨g, [(a, Cell.lst (ds.map .d))] ++ Δ⟩ σ H := S
  have sub : Same (msk H (ads ((a, Cell.lst (ds.map .d)) :: Δ) ++ B)) (msk H (ads Δ ++ B)) := msk_less fun b hb => List.mem_cons_of_mem _ hb
  refine h B σ H D ⟨⟨fun p hp => (S.hh.cell p (List.mem_cons_of_mem _ hp)).mono sub, (List.nodup_cons.mp S.hh.nd).2, S.hh.bt, (fun b hb z => S.hh.db b hb (List.mem_cons_of_mem _ z)), S.hh.nt⟩, ⟨S.gg.1.trans hG.1.symm, fun i w e => ?_⟩⟩ (q.step fun b o nb e => ⟨fun z => nb (List.mem_cons_of_mem _ z), e⟩)
  rcases hG.2 i w e with e1 | ⟨e2, e1⟩
  · obtain ⟨v, hv, r⟩ := S.gg.2 i w e1
    exact ⟨v, hv, r.mono sub⟩
  · subst e2
    obtain ⟨v, hv, r⟩ := S.gg.2 i (.o a) e1
    exact ⟨v, hv, share1 (s := ⟨g, Δ⟩) S' r⟩
/-! ### what may raise -/
def EvR (K : PySem.W.Frag) (E : L2.St → XK) (te : TE) (s : S) (k : W → Prop) (x : Value → Prop) : Prop := ∀ (B : List Addr) (σ : L2.St) (H : Hp) (Q : VK), Sat K B s σ H → (∀ w v H', k w → Same H H' → RW K (msk H' (ads s.h ++ B)) v w → Q v H') → (∀ c H', x c → Same H H' → E σ c none H') → te σ H Q
theorem evr_of {k : W → Prop} {x : Value → Prop} (h : Ev K te s w) (hk : k w) : EvR K E te s k x := fun B σ H Q S q _ => h B σ H Q S fun v H' e r => q w v H' hk e r
theorem evr_call {k : W → Prop} {ex : Value → Prop} {xs : List W} (h : EvA K tr s xs) (ht : t xs [] (fun w Δ' => Δ' = [] ∧ k w) (fun c Δ' => Δ' = [] ∧ ex c)) : EvR K E (tCallS (spOf K t) E tr) s k ex := fun B σ H Q S q qx =>
  h B σ H _ S fun vs H1 e1 r1 => by
    have S1 := S.mono e1
    refine ⟨ads s.h ++ B, xs, [], _, _, sath_mt S1.hh, r1, ht, ?_, ?_⟩
    · rintro w' Δ' v H' ⟨rfl, hk⟩ _ f r
      exact q w' v H' hk (e1.trans (fr_nil_same f)) r
    · rintro c Δ' H' ⟨rfl, hk⟩ _ f
      exact qx c H' hk (e1.trans (fr_nil_same f))
theorem ev_callS {xs : List W} (h : EvA K tr s xs) (ht : t xs [] (fun w' Δ' => w' = w ∧ Δ' = []) (fun _ _ => False)) : Ev K (tCallS (spOf K t) E1 tr) s w := fun B σ H Q S q =>
  evr_call (k := fun w' => w' = w) (ex := fun _ => False) h (by
    have e1 : (fun (w' : W) (Δ' : Del) => w' = w ∧ Δ' = []) = fun w' Δ' => Δ' = [] ∧ w' = w := by funext a b; exact propext And.comm
    have e2 : (fun (_ : Value) (_ : Del) => False) = fun _ Δ' => Δ' = [] ∧ False := by funext a b; simp
    rw [e1, e2] at ht
    exact ht) B σ H Q S (fun w' v H' e e1 r => q v H' e1 (e ▸ r)) fun _ _ z => z.elim
/-- a op f(..) -/
theorem evr_op {k : W → Prop} {ex : Value → Prop} (ha : Ev K ta s x) (hb : EvR K E tb s (fun y => ∃ z, RVs K s r x y z ∧ k z) ex) : EvR K E (tOp r ta tb) s k ex := fun B σ H Q S q qx =>
  ha B σ H _ S fun v H1 e1 r1 => hb B σ H1 _ (S.mono e1) (fun y u H2 ⟨z, hr, hk⟩ e2 r2 => hr B σ H2 v u Q (S.mono (e1.trans e2)) (r1.mono (msk_same e2)) r2 fun t H3 e3 r3 => q z t H3 hk ((e1.trans e2).trans e3) r3) fun c H2 hx e2 => qx c H2 hx (e1.trans e2)
theorem hq_asgR {j : Nat} (h : EvR K E te s (fun w => HS K E tz ⟨s.g.set j (some w), s.h⟩ O) (fun c => O.x c s)) : HS K E (tSeq (tAsg te (gName j)) tz) s O := fun B σ H D S q =>
  h B σ H _ S (fun w v H1 k e1 r1 => k B _ H1 D ⟨(S.mono e1).hh, (S.mono e1).gg.set r1 j⟩ (q.step (Fr.of e1))) fun c H1 hx e1 => q.x c s σ H1 hx (S.mono e1) (Fr.of e1)
theorem hs_asgR {j : Nat} (h : EvR K E te s (fun w => O.n ⟨s.g.set j (some w), s.h⟩) (fun c => O.x c s)) : HS K E (tAsg te (gName j)) s O := fun B σ H D S q =>
  h B σ H _ S (fun w v H1 k e1 r1 => q.n _ _ H1 k ⟨(S.mono e1).hh, (S.mono e1).gg.set r1 j⟩ (Fr.of e1)) fun c H1 hx e1 => q.x c s σ H1 hx (S.mono e1) (Fr.of e1)
theorem hq_asgRG (h : EvR K E te s (fun w => ∃ s1, GS K g w s s1 ∧ HS K E tz s1 O) (fun c => O.x c s)) : HS K E (tSeq (tAsg te g) tz) s O := fun B σ H D S q =>
  h B σ H _ S (fun w v H1 ⟨s1, hg, k⟩ e1 r1 => hg B σ H1 v _ (S.mono e1) r1 fun σ2 H2 S2 f2 => k B σ2 H2 D S2 (q.step ((Fr.of e1).trans f2))) fun c H1 hx e1 => q.x c s σ H1 hx (S.mono e1) (Fr.of e1)
theorem hs_retR (h : EvR K E te s (fun w => O.r w []) (fun c => O.x c s)) : HS K E (tRet te) s O := fun B σ H D S q =>
  h B σ H _ S (fun w v H1 k e1 r1 => q.r w [] v H1 k (sath_nil (S.mono e1).hh) (fr_nil (Fr.of e1 (Δ := s.h))) (r1.mono (msk_less fun b hb => List.mem_append_right _ (by simpa [ads] using hb)))) fun c H1 hx e1 => q.x c s σ H1 hx (S.mono e1) (Fr.of e1)
theorem hq_dropR (h : EvR K E te s (fun _ => HS K E tz s O) (fun c => O.x c s)) : HS K E (tSeq (tDrop te) tz) s O := fun B σ H D S q =>
  h B σ H _ S (fun w v H1 k e1 r1 => k B _ H1 D (S.mono e1) (q.step (Fr.of e1))) fun c H1 hx e1 => q.x c s σ H1 hx (S.mono e1) (Fr.of e1)
theorem hs_dropR (h : EvR K E te s (fun _ => O.n s) (fun c => O.x c s)) : HS K E (tDrop te) s O := fun B σ H D S q =>
  h B σ H _ S (fun w v H1 k e1 r1 => q.n _ _ H1 k (S.mono e1) (Fr.of e1)) fun c H1 hx e1 => q.x c s σ H1 hx (S.mono e1) (Fr.of e1)
/-- raise C('..') -/
def tRaiseD (E : L2.St → XK) (C : Addr) : TS := fun _ σ H => E σ (.ref C) none H
theorem hs_raise {C : Addr} (h : O.x (.ref C) s) : HS K E (tRaiseD E C) s O := fun B σ H D S q => q.x _ s σ H h S Fr.refl
theorem hq_raise {C : Addr} (h : O.x (.ref C) s) : HS K E (tSeq (tRaiseD E C) tz) s O := fun B σ H D S q => q.x _ s σ H h S Fr.refl
end
/-- an own class of errors, over ValueError -/
structure Exc (K : PySem.W.Frag) (mg : Str → Option Value) (x : Str) (C : Addr) : Prop where
  g : mg x = some (.ref C)
  q : PySem.W.excIn K C [.type "ValueError", .type "Exception", .type "BaseException", .type "object"] "ValueError.__new__" = true
  k : PySem.W.keepIn K (.ref C) = true
  b : PySem.W.subIn K (.ref C) (.type "BaseException") = some true
  t : PySem.W.typeIn K (.ref C) = some (.type "type")
section
variable {X : Cx} {CX : CXT} {k j : Nat} {x m : Str} {ps : List Str} {t : Tr} {Wv : WX} {p p2 pos pos' : Pos} {e : Expr} {es : List Expr} {ta : TA} {v : V}
variable {P : Program} {w : World} {K : PySem.W.Frag} {mg : Str → Option Value} {base : Heap} {A : Around} {C : Addr} {i : Nat}
theorem ps_raiseD (hc : X.calm = true) (tk : Takes X Wv) (T : Exc K mg x C) (hX : X.mg = mg := by rfl) (hK : X.K = K := by rfl) (hg : Gl X x := by rfl) (hdb : (x == ("__debug__" : Str)) = false := by decide) :
    PS X (.Raise (some (.Call (.Name x p) [.Constant (.str m) i p2] [] pos')) none pos) (tRaiseD (WE Wv) C) := by
  subst hX hK
  exact ps_raise hc tk (pmk_own PySem.F.excBase_ValueError T.q T.g T.k (raises_own T.b T.t) hg hdb)
theorem pe_knS (h : Kn P w K mg base (L2.CX P w) k x ps t) (hr : Room j A) (hj : k ≤ j) (ha : PA X (e :: es) ta) (tk : Takes X Wv) (hA : X.A = A := by rfl) (hX : At X P w K mg base := by exact ⟨rfl, rfl, rfl, rfl, rfl⟩) (hg : Gl X x := by rfl) (hdb : (x == ("__debug__" : Str)) = false := by decide)
    (he : starEach (e :: es) X.env = (false, eval e X.env) :: starEach es X.env := by rfl) (hpl : (backTo pos (starEach es X.env)).any (·.1) = false := by rfl) : PE X (.Call (.Name x p) (e :: es) [] pos) (tCallS (spOf K t) (WE Wv) ta) := by
  obtain ⟨f, fd, F, hm, hk, hb⟩ := h
  obtain ⟨rfl, rfl, rfl, rfl, rfl⟩ := hX
  subst hA
  exact pe_callS F (hr.mono hj) hg hm hk hb (fun σ => passAt tk σ) ha hdb he hpl
theorem kn_ofX {x : Str} {st : Stmt} {f : Addr} {fd : FuncData} {N ps : List Str} {k : Nat} {t : Tr} (F : Fun K x x st f fd) (hg : mg x = some (.ref f)) (hb : Binds K fd ps []) (S : FnScope N ps (defScope st)) (len : ∀ xs Δ k ex, t xs Δ k ex → xs.length = ps.length)
    (h : ∀ (cdv : Value) (A : Around) (outer : List Env) (s : Shared) (H : Hp) (E : XK), Room k (A.deeper (envOfC x (defScope st) s.heap.objs.size f cdv)) →
      ∃ ts, PSs (cxOf (L2.CX P w) P w K mg base N x (defScope st) f cdv A outer s H E) (defBody st) ts ∧ ∀ xs Δ k ex, t xs Δ k ex → HS K (WE (fun cls d _ H => E cls d H)) ts ⟨xs.map some ++ List.replicate (N.length - xs.length) none, Δ⟩ { n := fun s' => k wn s'.h, r := k, x := fun c s' => ex c s'.h }) :
    Kn P w K mg base (L2.CX P w) (k + 1) x ps t := ⟨f, fd, fn_okX F S len h, hg, F.kp, hb⟩
end
/-! ### further methods -/
section
variable {K : PySem.W.Frag} {s : S}
theorem rm_lower {a : Str} (h : a.length ≤ 5592405) : RMs K s (fun x xs H Q => ∃ a, x = .str a ∧ xs = [] ∧ a.length ≤ 5592405 ∧ Q (.str (Txt.lower a)) H) (ws a) [] (ws (Txt.lower a)) := fun B σ H v vs Q S h1 h2 q => by
  cases rw_s h1; cases h2
  exact ⟨a, rfl, rfl, h, q _ H same_refl rs⟩
theorem rm_isdigit {a : Str} : RMs K s (fun x xs H Q => ∃ a, x = .str a ∧ xs = [] ∧ True ∧ Q (.bl (Txt.isdigit a)) H) (ws a) [] (wb (Txt.isdigit a)) := fun B σ H v vs Q S h1 h2 q => by
  cases rw_s h1; cases h2
  exact ⟨a, rfl, rfl, trivial, q _ H same_refl rb⟩
theorem strs_new {M : Hp} : ∀ ys : List Str, DqAll K M (ys.map V.str) (ys.map PyData.str)
  | [] => .nil
  | y :: ys => .cons (.str y) (strs_new ys)
theorem rmf_words {a : Str} (h : a.length + 2 ≤ sizeLine) : RMF K s (fun x xs H Q => ∃ a, x = .str a ∧ xs = [] ∧ a.length + 2 ≤ sizeLine ∧ rNewStrs (Txt.words a) H Q) (ws a) [] (((Txt.words a).map PyData.str).map .d) := fun B σ H v vs Q S h1 h2 q => by
  cases rw_s h1; cases h2
  exact ⟨a, rfl, rfl, h, fun p np => q p _ _ (same_new np) np upd_same (dpa_rws (strs_new _))⟩
theorem dqa_bls {M : Hp} : ∀ {bs : List Bool} {vs : List V}, DqAll K M vs (bs.map .bool) → vs = bs.map V.bl
  | [], _, h => by cases h; rfl
  | y :: ys, _, h => by
    cases h with
    | cons h1 h2 => cases h1; rw [dqa_bls h2]; rfl
theorem rc_all {bs : List Bool} : RCs K s (rAll K) [wl (bs.map .bool)] (wb (bs.all id)) := fun B σ H vs Q S a q => by
  cases a with
  | cons a1 a2 =>
    cases a2
    cases a1 with
    | lst hs ha =>
      have e := dqa_bls ha
      subst e
      exact ⟨_, bs, rfl, SqL.of (msk_sub _ _ hs), q _ H same_refl rb⟩
theorem rv_inC {c : Nat} {z : Str} : RVs K s (fun x y H Q => ∃ (c : Nat) (z : Str), x = .str ⟨#[c]⟩ ∧ y = .str z ∧ Q (.bl (decide (c ∈ z.cps.toList))) H) (ws ⟨#[c]⟩) (ws z) (wb (decide (c ∈ tl z))) := fun B σ H v u Q S a b q => by
  cases rw_s a; cases rw_s b
  exact ⟨c, z, rfl, rfl, q _ H same_refl rb⟩
theorem rv_isB {i j : Bool} : RVs K s (fun x y H Q => ∃ a b, x = .bl a ∧ y = .bl b ∧ Q (.bl (decide (a = b))) H) (wb i) (wb j) (wb (decide (i = j))) := fun B σ H v u Q S a b q => by
  cases rw_b a; cases rw_b b
  exact ⟨i, j, rfl, rfl, q _ H same_refl rb⟩
theorem rv_ninC {c : Nat} {z : Str} : RVs K s (fun x y H Q => ∃ (c : Nat) (z : Str), x = .str ⟨#[c]⟩ ∧ y = .str z ∧ Q (.bl (!decide (c ∈ z.cps.toList))) H) (ws ⟨#[c]⟩) (ws z) (wb (!decide (c ∈ tl z))) := fun B σ H v u Q S a b q => by
  cases rw_s a; cases rw_s b
  exact ⟨c, z, rfl, rfl, q _ H same_refl rb⟩
end
end DL
namespace DL
open PySem PySem.Spec PyProof.Rows L2 TL
section
variable {K : PySem.W.Frag} {s : S} {ta tb tc te tl' : TE} {tr : TA} {x y z w : W}
theorem range_map {α β : Type} (l : List α) (d : α) (p : α → β) : (List.range l.length).map (fun i => p (l.getD i d)) = l.map p := by
  refine List.ext_getElem (by simp) fun i h1 h2 => ?_
  have hi : i < l.length := by simpa using h1
  simp [List.getD_eq_getElem?_getD, List.getElem?_eq_getElem hi]
/-- over the signs of a text, by the sign -/
theorem evf_lcSM {j : Nat} {vs : List Nat} {y : Str} (p : Nat → PyData) (h : Ev K tl' s (ws y)) (hl : y.length ≤ 16000000) (hj : j ∈ vs) (he : ∀ c ∈ tl y, Ev K te (inB s vs j (ws ⟨#[c]⟩)) (.d (p c))) :
    EvF K (tLc (iStr tl') (gName j) tYes te vs) s (((TL.tl y).map p).map .d) := by
  refine evf_is (evf_lcSD (fun i => p ((TL.tl y).getD i 0)) h hl hj (fun i c hc => ?_)) ?_
  · have hc' : (TL.tl y)[i]? = some c := by
      show y.cps.toList[i]? = some c
      rw [Array.getElem?_toList]; exact hc
    rw [List.getD_eq_getElem?_getD, hc']
    exact he c (List.mem_of_getElem? hc')
  · rw [← tl_len, range_map]
/-- over a list of data, by the item -/
theorem evf_lcLM {j : Nat} {vs : List Nat} {ds : List PyData} (p : PyData → PyData) (h : Ev K tl' s x) (l : LV s x (ds.map .d)) (hl : ds.length ≤ 16000000) (hj : j ∈ vs) (he : ∀ d ∈ ds, Ev K te (inB s vs j (.d d)) (.d (p d))) :
    EvF K (tLc (iList K tl') (gName j) tYes te vs) s ((ds.map p).map .d) := by
  refine evf_is (evf_lcLD (fun i => p (ds.getD i .none)) h l (by simpa using hl) hj (fun i u hu => ?_)) ?_
  · rw [List.getElem?_map] at hu
    cases q : ds[i]? with
    | none => rw [q] at hu; cases hu
    | some d =>
      rw [q] at hu
      cases hu
      rw [List.getD_eq_getElem?_getD, q]
      exact he d (List.mem_of_getElem? q)
  · rw [List.length_map, range_map]
end
/-- a text of its signs -/
def mk (l : List Nat) : Str := ⟨l.toArray⟩
theorem tlmk (l : List Nat) : tl (mk l) = l := by simp [mk, tl]
theorem mk_tl' (z : Str) : mk (tl z) = z := str_ext (tlmk _)
theorem mk_app (a b : List Nat) : mk a ++ mk b = mk (a ++ b) := str_ext (by rw [tl_append, tlmk, tlmk, tlmk])
theorem mk_len (l : List Nat) : (mk l).length = l.length := by rw [← tl_len, tlmk]
theorem mk_inj {a b : List Nat} : mk a = mk b ↔ a = b := ⟨fun h => by rw [← tlmk a, h, tlmk], fun h => by rw [h]⟩
theorem cut_to (z : Str) (n : Nat) : cutS z none (some (n : Int)) = mk ((tl z).take n) := by
  refine str_ext ?_
  rw [tlmk]
  unfold cutS
  rw [HT.sIx_none, HT.sIx_nat]
  show ((z.cps.toList.drop 0).take (min n z.length - 0)).toArray.toList = _
  rw [List.drop_zero, Nat.sub_zero]
  show (tl z).take (min n z.length) = (tl z).take n
  rw [← tl_len]
  exact List.take_eq_take_iff.mpr (by omega)
theorem map_tl_mk (l : List Str) : l = (l.map tl).map mk := by
  rw [List.map_map]
  exact (List.map_id'' (fun z => mk_tl' z) l).symm
end DL

namespace DL
open PySem PySem.Spec PyProof.Rows L2 TL
section
variable {K : PySem.W.Frag} {s s1 s' : S} {ta tb tc te tl' : TE} {tr : TA} {x y z w : W} {E : L2.St → XK} {O : Out} {t1 t2 tz : TS}
/-! ### f-strings -/
def EvJ (K : PySem.W.Frag) (ts : List TE) (s : S) (acc out : Str) : Prop := ∀ (B : List Addr) (σ : L2.St) (H : Hp) (Q : Str → Hp → Prop), Sat K B s σ H → (∀ H', Same H H' → Q out H') → tJs ts acc σ H Q
theorem ej_nil {acc : Str} : EvJ K [] s acc acc := fun B σ H Q S q => q H same_refl
theorem ej_cons {ts : List TE} {acc y out : Str} (h : Ev K te s (ws y)) (hz : (acc ++ y).length ≤ sizeLine) (r : EvJ K ts s (acc ++ y) out) : EvJ K (te :: ts) s acc out := fun B σ H Q S q =>
  h B σ H _ S fun v H1 e1 r1 => by
    cases rw_s r1
    exact ⟨y, rfl, hz, r B σ H1 Q (S.mono e1) fun H2 e2 => q H2 (e1.trans e2)⟩
theorem ev_joined {ts : List TE} {out : Str} (h : EvJ K ts s Str.empty out) : Ev K (fun σ H Q => tJs ts Str.empty σ H fun out H1 => Q (.str out) H1) s (ws out) := fun B σ H Q S q =>
  h B σ H _ S fun H1 e1 => q _ H1 e1 rs
theorem ev_fmtI {i : Int} (h : Ev K te s (wi i)) (hz : i.natAbs.log2 < 1920) : Ev K (tFmt te) s (ws (toString i)) := fun B σ H Q S q =>
  h B σ H _ S fun v H1 e1 r1 => .inr ⟨i, rw_i r1, hz, q _ H1 e1 rs⟩
theorem ev_fmtS {y : Str} (h : Ev K te s (ws y)) (hz : y.length ≤ sizeLine) : Ev K (tFmt te) s (ws y) := fun B σ H Q S q =>
  h B σ H _ S fun v H1 e1 r1 => .inl ⟨y, rw_s r1, hz, q _ H1 e1 rs⟩
/-! ### methods of texts -/
theorem rm_find4 {a b : Str} {i j : Int} : RMs K s (fun x xs H Q => ∃ (a b : Str) (i j : Int), x = .str a ∧ xs = [.str b, .int i, .int j] ∧ Q (.int (Txt.findIn a b i j)) H) (ws a) [ws b, wi i, wi j] (wi (Txt.findIn a b i j)) := fun B σ H v vs Q S h1 h2 q => by
  cases rw_s h1
  cases h2 with
  | cons h2 h3 =>
    cases rw_s h2
    cases h3 with
    | cons h3 h4 =>
      cases rw_i h3
      cases h4 with
      | cons h4 h5 =>
        cases rw_i h4; cases h5
        exact ⟨a, b, i, j, rfl, rfl, q _ H same_refl ri⟩
theorem rm_isascii {a : Str} : RMs K s (fun x xs H Q => ∃ a, x = .str a ∧ xs = [] ∧ True ∧ Q (.bl (Txt.isascii a)) H) (ws a) [] (wb (Txt.isascii a)) := fun B σ H v vs Q S h1 h2 q => by
  cases rw_s h1; cases h2
  exact ⟨a, rfl, rfl, trivial, q _ H same_refl rb⟩
theorem rm_zfill {a : Str} {i : Int} (h : PadOk i = true) : RMs K s (fun x xs H Q => ∃ (a : Str) (i : Int), x = .str a ∧ xs = [.int i] ∧ PadOk i = true ∧ Q (.str (Txt.zfill a i)) H) (ws a) [wi i] (ws (Txt.zfill a i)) := fun B σ H v vs Q S h1 h2 q => by
  cases rw_s h1
  cases h2 with
  | cons h2 h3 =>
    cases rw_i h2; cases h3
    exact ⟨a, i, rfl, rfl, h, q _ H same_refl rs⟩
theorem rm_ljust {a : Str} {i : Int} (h : PadOk i = true) : RMs K s (fun x xs H Q => ∃ (a : Str) (i : Int), x = .str a ∧ xs = [.int i] ∧ PadOk i = true ∧ Q (.str (Txt.ljust a i)) H) (ws a) [wi i] (ws (Txt.ljust a i)) := fun B σ H v vs Q S h1 h2 q => by
  cases rw_s h1
  cases h2 with
  | cons h2 h3 =>
    cases rw_i h2; cases h3
    exact ⟨a, i, rfl, rfl, h, q _ H same_refl rs⟩
theorem rc_intS {a : Str} {n : Int} (h1 : PySem.intText? a = some n) (h2 : a.length ≤ 640) : RCs K s (fun xs H Q => ∃ a n, xs = [.str a] ∧ PySem.intText? a = some n ∧ a.length ≤ 640 ∧ Q (.int n) H) [ws a] (wi n) := fun B σ H vs Q S a q => by
  cases a with
  | cons a1 a2 =>
    cases rw_s a1; cases a2
    exact ⟨_, n, rfl, h1, h2, q _ H same_refl ri⟩
/-- list(x): a new one -/
theorem rcf_list {xs : List W} (l : QV s x xs) : RCF K s (fun xs H Q => ∃ p ys, xs = [.ref p] ∧ (SqL K H p ys ∨ SqT K H p ys) ∧ ∀ l, H l = none → Q (.ref l) (upd H l (.lst ys))) [x] xs := fun B σ H vs Q S a q => by
  cases a with
  | cons a1 a2 =>
    cases a2
    obtain ⟨p, ys, rfl, hs, r⟩ := l.get S a1
    exact ⟨p, ys, rfl, hs, fun np hn => q np _ _ (same_new hn) hn upd_same (new_l r hn)⟩
/-! ### places -/
theorem occ_at (x : Str) (c lo hi n : Nat) (hn : lo ≤ n) (h1 : (tl x)[n]? = some c) (h2 : n + 1 ≤ hi) (h3 : ∀ i, lo ≤ i → i < n → (tl x)[i]? ≠ some c) : Builtin.Str.occurrences x ⟨#[c]⟩ lo hi 1 ≠ [] ∧ ∀ a r, Builtin.Str.occurrences x ⟨#[c]⟩ lo hi 1 = a :: r → a = n := by
  have hat : ∀ i, StrLaws.At x ⟨#[c]⟩ hi i ↔ (i + 1 ≤ hi ∧ (tl x)[i]? = some c) := fun i => by
    have e := StrLaws.subAt_one x c i
    constructor
    · rintro ⟨a, b⟩
      refine ⟨a, ?_⟩
      rw [StrLaws.subAt_eq] at b
      exact StrLaws.take1_drop.mp b
    · rintro ⟨a, b⟩
      exact ⟨a, (e.mpr b).2⟩
  rw [StrLaws.occ_eq]
  rcases StrLaws.occ_first x ⟨#[c]⟩ hi 1 (Nat.le_refl _) (List.range' lo (hi + 1 - lo)) lo (fun i hi' => (List.mem_range'_1.mp hi').1) with ⟨_, hn'⟩ | ⟨pre, a, post, e, h0, ha, hp⟩
  · exact absurd ((hat n).mpr ⟨h2, h1⟩) (hn' n (List.mem_range'_1.mpr ⟨hn, by omega⟩))
  · have ea : a = n := by
      have hq := (hat a).mp ha
      have hla : a ∈ List.range' lo (hi + 1 - lo) := by rw [e]; simp
      have hl := (List.mem_range'_1.mp hla).1
      rcases Nat.lt_trichotomy a n with h | h | h
      · exact absurd hq.2 (h3 a hl h)
      · exact h
      · have hnm : n ∈ pre := by
          have hm0 : n ∈ List.range' lo (hi + 1 - lo) := List.mem_range'_1.mpr ⟨hn, by omega⟩
          have hm : n ∈ pre ++ a :: post := by rw [← e]; exact hm0
          have hs : (List.range' lo (hi + 1 - lo)).Pairwise (· < ·) := List.pairwise_lt_range' 1
          rw [e] at hs
          have hs2 := (List.pairwise_append.mp hs).2.1
          rcases List.mem_append.mp hm with h | h
          · exact h
          · rcases List.mem_cons.mp h with h | h
            · omega
            · have := (List.pairwise_cons.mp hs2).1 n h
              omega
        exact absurd ((hat n).mpr ⟨h2, h1⟩) (hp n hnm)
    subst ea
    generalize (forIn (List.range' lo (hi + 1 - lo)) ((#[] : Array Nat), lo) (StrLaws.occBody x ⟨#[c]⟩ hi 1)).run.fst = arr at h0
    have h1 : arr.toList[0]? = some a := by simpa using h0
    refine ⟨fun z => (by rw [z] at h1; cases h1), fun b r eb => ?_⟩
    rw [eb] at h1
    exact Option.some.inj h1
theorem find4_at {x : Str} {c lo n hi : Nat} (hn : lo ≤ n) (h1 : (tl x)[n]? = some c) (h2 : n + 1 ≤ hi) (h3 : ∀ i, lo ≤ i → i < n → (tl x)[i]? ≠ some c) : Txt.findIn x ⟨#[c]⟩ (lo : Int) (hi : Int) = (n : Int) := by
  have hL : n < x.length := by rw [← tl_len]; exact (List.getElem?_eq_some_iff.mp h1).1
  have e1 : PySem.fromIndex x.length (lo : Int) = lo := by
    unfold PySem.fromIndex
    rw [if_neg (by omega)]
    omega
  have e2 : PySem.toIndexW x.length (hi : Int) = min hi x.length := by
    unfold PySem.toIndexW
    rw [if_neg (by omega)]
    omega
  unfold Txt.findIn
  rw [e1, e2]
  have h := occ_at x c lo (min hi x.length) n hn h1 (by omega) h3
  cases q : Builtin.Str.occurrences x ⟨#[c]⟩ lo (min hi x.length) 1 with
  | nil => exact absurd q h.1
  | cons a r => rw [h.2 a r q]
theorem cut_mid (z : Str) (a b : Nat) (h : a ≤ b) : cutS z (some (a : Int)) (some (b : Int)) = mk (((tl z).drop a).take (b - a)) := by
  refine str_ext ?_
  rw [tlmk]
  unfold cutS
  rw [HT.sIx_nat, HT.sIx_nat]
  show ((z.cps.toList.drop (min a z.length)).take (min b z.length - min a z.length)).toArray.toList = _
  have hl : (tl z).length = z.length := tl_len z
  show ((tl z).drop (min a z.length)).take (min b z.length - min a z.length) = ((tl z).drop a).take (b - a)
  rw [← hl]
  by_cases h1 : a ≤ (tl z).length
  · rw [Nat.min_eq_left h1]
    exact List.take_eq_take_iff.mpr (by rw [List.length_drop]; omega)
  · rw [List.drop_eq_nil_of_le (by omega), List.drop_eq_nil_of_le (by omega)]
    simp
/-! ### figures -/
theorem num_len {n k : Nat} (hk : 0 < k) (h : n < 10 ^ k) : (Str.ofString (toString ((n : Nat) : Int))).length ≤ k := by
  rw [← tl_len, tl_num]
  exact numL_len hk h
theorem num_mk (n : Nat) : Str.ofString (toString ((n : Nat) : Int)) = mk (numL n) := str_ext (by rw [tl_num, tlmk])
theorem num_ascii (n : Nat) : Txt.isascii (mk (numL n)) = true := by
  unfold Txt.isascii
  rw [← Array.all_toList]
  exact List.all_eq_true.mpr fun c hc => decide_eq_true (by have := numL_digits n c hc; omega)
theorem digit_dec : ∀ d ∈ List.range 10, Unicode.isDigit (48 + d) = true := by decide +kernel
theorem num_isdigit (n : Nat) : Txt.isdigit (mk (numL n)) = true := by
  unfold Txt.isdigit
  rw [Bool.and_eq_true]
  refine ⟨?_, ?_⟩
  · have := List.length_pos_iff.mpr (numL_ne n)
    rw [mk_len]
    exact decide_eq_true this
  · rw [← Array.all_toList]
    refine List.all_eq_true.mpr fun c hc => ?_
    have r := numL_digits n c hc
    have := digit_dec (c - 48) (List.mem_range.mpr (by omega))
    rw [show 48 + (c - 48) = c by omega] at this
    exact this
theorem num_text {n : Nat} (h : n < 10 ^ 9) : PySem.intText? (mk (numL n)) = some (n : Int) := by
  rw [← num_mk]
  have h2 : ((n : Nat) : Int) < 10 ^ 10 := by
    have : (10 : Nat) ^ 9 = 1000000000 := rfl
    have : (10 : Int) ^ 10 = 10000000000 := rfl
    omega
  exact PySem.W.KIN.num_reads (by omega) h2
/-- the first figure is 0 only in the number 0 -/
theorem numL_head {n : Nat} (h : 0 < n) : ∃ c r, numL n = c :: r ∧ c ≠ 48 := by
  induction n using Nat.strongRecOn with
  | _ n ih =>
    by_cases h1 : n < 10
    · exact ⟨48 + n, [], numL_lt h1, by omega⟩
    · obtain ⟨c, r, e, hc⟩ := ih (n / 10) (by omega) (by omega)
      exact ⟨c, r ++ [48 + n % 10], by rw [numL_step (by omega), e]; rfl, hc⟩
end
end DL

namespace DL
open PySem PySem.Spec PyProof.Rows L2 TL
section
variable {K : PySem.W.Frag} {s s1 s' : S} {X : Cx} {E E2 : L2.St → XK} {O : Out} {x y z w : W}
/-! ### a text times an int -/
def rMulS : R2 := fun x y H Q => ∃ (a : Str) (n : Int), x = .str a ∧ y = .int n ∧ MulOk a n ∧ Q (.str (Txt.mul a n)) H
theorem op_mulS : OpR X (binaryOp .Mult) rMulS := by
  intro pins s σ H x y v u Q I rx ry h
  obtain ⟨a, n, rfl, rfl, hc, q⟩ := h
  obtain ⟨t, rfl⟩ := rx
  obtain ⟨t', rfl⟩ := ry
  exact PySem.SB.mul hc fun t2 k => ⟨.str (Txt.mul a n), H, I.tok k, ⟨t2, rfl⟩, q⟩
theorem rv_mulS {a : Str} {n : Int} (h : MulOk a n) : RVs K s rMulS (ws a) (wi n) (ws (Txt.mul a n)) := fun B σ H v u Q S p q k => by
  cases rw_s p; cases rw_i q
  exact ⟨a, n, rfl, rfl, h, k _ H same_refl rs⟩
/-- one sign, so many times -/
theorem mul_one {c : Nat} {n : Nat} (h : n ≤ 16000000) : Txt.mul ⟨#[c]⟩ (n : Int) = mk (List.replicate n c) := by
  unfold Txt.mul
  by_cases h0 : n = 0
  · subst h0; rfl
  rw [if_neg (by omega)]
  by_cases h1 : n = 1
  · subst h1; rfl
  have : ((((n : Int) == 1) || (⟨#[c]⟩ : Str).length == 0) = true) = False := by
    have e1 : ((n : Int) == 1) = false := by simp; omega
    rw [e1]; simp [Str.length]
  rw [if_neg (by rw [this]; exact id)]
  refine str_ext ?_
  rw [tlmk]
  show ((List.replicate n (#[c] : Array Nat)).foldl (· ++ ·) #[]).toList = _
  have : ∀ (m : Nat) (acc : Array Nat), ((List.replicate m (#[c] : Array Nat)).foldl (· ++ ·) acc).toList = acc.toList ++ List.replicate m c := by
    intro m
    induction m with
    | zero => intro acc; simp
    | succ m ih =>
      intro acc
      rw [List.replicate_succ, List.foldl_cons, ih, List.replicate_succ]
      simp
  exact (this n #[]).trans (by simp)
theorem mulOk_one {c : Nat} {n : Int} (h0 : -1000 ≤ n) (h : n ≤ 1000000) : MulOk ⟨#[c]⟩ n := by
  refine ⟨?_, ?_, ?_⟩
  · rw [decide_eq_false (by omega), decide_eq_false (by omega)]; rfl
  · intro h1 _
    show ¬ ((1 : Int) > (2 ^ 63 - 1) / n)
    have : (1 : Int) ≤ (2 ^ 63 - 1) / n := by
      refine (Int.le_ediv_iff_mul_le (by omega)).mpr ?_
      omega
    omega
  · intro h1 _
    show PySem.Builtin.Str.tooLong (1 * n.toNat) = false
    unfold PySem.Builtin.Str.tooLong
    rw [Nat.one_mul]
    simp only [decide_eq_false_iff_not]
    first | omega | (rw [sizeLine_eq]; omega) | (simp only [sizeLine_eq]; omega)
/-! ### try .. except -/
def tTryAs (K : PySem.W.Frag) (cx : Value) (i : Nat) (tb : WX → TS) (ts : Addr → Value → Option Addr → TS) (Wout : WX) : TS := fun D σ H => tb (wAs K cx i ts Wout D) D σ H
def tTryOnly (K : PySem.W.Frag) (cx : Value) (tb : WX → TS) (ts : Addr → Value → Option Addr → TS) (Wout : WX) : TS := fun D σ H => tb (wOnly K cx ts Wout D) D σ H
section
variable {x n : Str} {c : Value} {i : Nat} {body suite : List Stmt} {b₀ : Stmt} {np pos pos' : Pos} {tb : WX → TS} {ts : Addr → Value → Option Addr → TS} {Wout : WX}
theorem ps_try_asD (hs : X.stack = X.env :: X.outer) (hf : X.env.frame = some X.env.locals) (hN : X.N.Nodup) (hi : X.N[i]? = some n) (hln : X.env.kindOf n = some .local) (hc : Names X x c) (tk : L2.Takes X Wout)
    (hb : ∀ (W : WX) (pn : List (Addr × Obj)) (xe : Value → Shared → Prop), L2.Takes (X.tr pn xe) W → PassesOwn (model X.prog X.w) X.A X.env xe → PSs (X.tr pn xe) body (tb W))
    (hsu : ∀ (a : Addr) (oe : Obj) (cls : Value) (d : Option Addr) (pn : List (Addr × Obj)), Zc cls d oe → (∃ vs, oe.data = .fields vs) → PSs (X.suite a ((a, oe) :: pn)) (b₀ :: suite) (ts a cls d)) :
    PS X (.Try body [.ExceptHandler (some (.Name x np)) (some n) (b₀ :: suite) pos'] [] [] pos) (tTryAs X.K c i tb ts Wout) := L2.ps_try_as hs hf hN hi hln hc tk hb hsu
theorem ps_try_onlyD (hs : X.stack = X.env :: X.outer) (hf : X.env.frame = some X.env.locals) (hc : Names X x c) (tk : L2.Takes X Wout)
    (hb : ∀ (W : WX) (pn : List (Addr × Obj)) (xe : Value → Shared → Prop), L2.Takes (X.tr pn xe) W → PassesOwn (model X.prog X.w) X.A X.env xe → PSs (X.tr pn xe) body (tb W))
    (hsu : ∀ (a : Addr) (oe : Obj) (cls : Value) (d : Option Addr) (pn : List (Addr × Obj)), Zc cls d oe → (∃ vs, oe.data = .fields vs) → PSs (X.suite a ((a, oe) :: pn)) (b₀ :: suite) (ts a cls d)) :
    PS X (.Try body [.ExceptHandler (some (.Name x np)) none (b₀ :: suite) pos'] [] [] pos) (tTryOnly X.K c tb ts Wout) := L2.ps_try_only hs hf hc tk hb hsu
end
theorem SatG.forget {M : Hp} {Γ : Gam} {σ : L2.St} (h : SatG K M Γ σ) (i : Nat) : SatG K M (Γ.set i none) (σ.set i none) := by
  refine ⟨by rw [List.length_set, List.length_set]; exact h.1, fun j w q => ?_⟩
  by_cases e : i = j
  · subst e
    by_cases hi : i < Γ.length
    · rw [List.getElem?_set_self hi] at q
      cases q
    · rw [List.getElem?_eq_none (by rw [List.length_set]; omega)] at q
      cases q
  · rw [List.getElem?_set_ne e] at q
    rw [List.getElem?_set_ne e]
    exact h.2 j w q
theorem hs_tryAs {i : Nat} {cx : Value} {tb : WX → TS} {ts : Addr → Value → Option Addr → TS} {Wout : WX} (Xb : Value → S → Prop)
    (hb : ∀ Wv : WX, HS K (WE Wv) (tb Wv) s { O with x := Xb })
    (hs : ∀ c s', Xb c s' → ∃ b, PySem.W.exmOne K c cx = some b ∧ (b = true → ∀ a, HS K E2 (ts a c none) ⟨s'.g.set i (some (.x (.ref a))), s'.h⟩
      { n := fun s2 => O.n ⟨s2.g.set i none, s2.h⟩, r := O.r, b := fun s2 => O.b ⟨s2.g.set i none, s2.h⟩, c := fun s2 => O.c ⟨s2.g.set i none, s2.h⟩, x := fun _ _ => False }) ∧ (b = false → O.x c s')) :
    HS K (WE Wout) (tTryAs K cx i tb ts Wout) s O := fun B σ H D S q =>
  hb (wAs K cx i ts Wout D) B σ H D S ⟨q.n, q.r, q.b, q.c, fun c s' σ' H' hx S' f => by
    obtain ⟨b, e, h1, h2⟩ := hs c s' hx
    refine ⟨b, e, fun hb a ha => ?_, fun hb => q.x c s' σ' H' (h2 hb) S' f⟩
    refine h1 hb a B (σ'.set i (some (.ref a))) H' _ ⟨S'.hh, S'.gg.set (v := .ref a) (w := .x (.ref a)) rfl i⟩ ⟨?_, ?_, ?_, ?_, fun _ _ _ _ z => z.elim⟩
    · exact fun s2 σ2 H2 hn S2 f2 => q.n _ _ H2 hn ⟨S2.hh, S2.gg.forget i⟩ (f.trans f2)
    · exact fun w Δ v H2 hr S2 f2 r2 => q.r w Δ v H2 hr S2 (f.trans f2) r2
    · exact fun s2 σ2 H2 hn S2 f2 => q.b _ _ H2 hn ⟨S2.hh, S2.gg.forget i⟩ (f.trans f2)
    · exact fun s2 σ2 H2 hn S2 f2 => q.c _ _ H2 hn ⟨S2.hh, S2.gg.forget i⟩ (f.trans f2)⟩
theorem hs_tryOnly {cx : Value} {tb : WX → TS} {ts : Addr → Value → Option Addr → TS} {Wout : WX} (Xb : Value → S → Prop)
    (hb : ∀ Wv : WX, HS K (WE Wv) (tb Wv) s { O with x := Xb })
    (hs : ∀ c s', Xb c s' → ∃ b, PySem.W.exmOne K c cx = some b ∧ (b = true → ∀ a, HS K E2 (ts a c none) s' { O with x := fun _ _ => False }) ∧ (b = false → O.x c s')) :
    HS K (WE Wout) (tTryOnly K cx tb ts Wout) s O := fun B σ H D S q =>
  hb (wOnly K cx ts Wout D) B σ H D S ⟨q.n, q.r, q.b, q.c, fun c s' σ' H' hx S' f => by
    obtain ⟨b, e, h1, h2⟩ := hs c s' hx
    refine ⟨b, e, fun hb a ha => ?_, fun hb => q.x c s' σ' H' (h2 hb) S' f⟩
    exact h1 hb a B σ' H' _ S' ⟨fun s2 σ2 H2 hn S2 f2 => q.n _ _ H2 hn S2 (f.trans f2), fun w Δ v H2 hr S2 f2 r2 => q.r w Δ v H2 hr S2 (f.trans f2) r2,
      fun s2 σ2 H2 hn S2 f2 => q.b _ _ H2 hn S2 (f.trans f2), fun s2 σ2 H2 hn S2 f2 => q.c _ _ H2 hn S2 (f.trans f2), fun _ _ _ _ z => z.elim⟩⟩
/-- all that the body raises is caught -/
theorem hs_tryAs0 {i : Nat} {cx : Value} {tb : WX → TS} {ts : Addr → Value → Option Addr → TS} {Wout : WX} (Xb : Value → S → Prop)
    (hb : ∀ Wv : WX, HS K (WE Wv) (tb Wv) s { O with x := Xb })
    (hs : ∀ c s', Xb c s' → PySem.W.exmOne K c cx = some true ∧ ∀ a, HS K E2 (ts a c none) ⟨s'.g.set i (some (.x (.ref a))), s'.h⟩
      { n := fun s2 => O.n ⟨s2.g.set i none, s2.h⟩, r := O.r, b := fun s2 => O.b ⟨s2.g.set i none, s2.h⟩, c := fun s2 => O.c ⟨s2.g.set i none, s2.h⟩, x := fun _ _ => False }) :
    HS K E (tTryAs K cx i tb ts Wout) s O := fun B σ H D S q =>
  hb (wAs K cx i ts Wout D) B σ H D S ⟨q.n, q.r, q.b, q.c, fun c s' σ' H' hx S' f => by
    obtain ⟨e, h1⟩ := hs c s' hx
    refine ⟨true, e, fun _ a ha => ?_, fun z => nomatch z⟩
    refine h1 a B (σ'.set i (some (.ref a))) H' _ ⟨S'.hh, S'.gg.set (v := .ref a) (w := .x (.ref a)) rfl i⟩ ⟨?_, ?_, ?_, ?_, fun _ _ _ _ z => z.elim⟩
    · exact fun s2 σ2 H2 hn S2 f2 => q.n _ _ H2 hn ⟨S2.hh, S2.gg.forget i⟩ (f.trans f2)
    · exact fun w Δ v H2 hr S2 f2 r2 => q.r w Δ v H2 hr S2 (f.trans f2) r2
    · exact fun s2 σ2 H2 hn S2 f2 => q.b _ _ H2 hn ⟨S2.hh, S2.gg.forget i⟩ (f.trans f2)
    · exact fun s2 σ2 H2 hn S2 f2 => q.c _ _ H2 hn ⟨S2.hh, S2.gg.forget i⟩ (f.trans f2)⟩
theorem hs_tryOnly0 {cx : Value} {tb : WX → TS} {ts : Addr → Value → Option Addr → TS} {Wout : WX} (Xb : Value → S → Prop)
    (hb : ∀ Wv : WX, HS K (WE Wv) (tb Wv) s { O with x := Xb })
    (hs : ∀ c s', Xb c s' → PySem.W.exmOne K c cx = some true ∧ ∀ a, HS K E2 (ts a c none) s' { O with x := fun _ _ => False }) :
    HS K E (tTryOnly K cx tb ts Wout) s O := fun B σ H D S q =>
  hb (wOnly K cx ts Wout D) B σ H D S ⟨q.n, q.r, q.b, q.c, fun c s' σ' H' hx S' f => by
    obtain ⟨e, h1⟩ := hs c s' hx
    refine ⟨true, e, fun _ a ha => ?_, fun z => nomatch z⟩
    exact h1 a B σ' H' _ S' ⟨fun s2 σ2 H2 hn S2 f2 => q.n _ _ H2 hn S2 (f.trans f2), fun w Δ v H2 hr S2 f2 r2 => q.r w Δ v H2 hr S2 (f.trans f2) r2,
      fun s2 σ2 H2 hn S2 f2 => q.b _ _ H2 hn S2 (f.trans f2), fun s2 σ2 H2 hn S2 f2 => q.c _ _ H2 hn S2 (f.trans f2), fun _ _ _ _ z => z.elim⟩⟩
/-- a suite that wants to know the class that was caught -/
theorem pss_know {st : List Stmt} {P : Prop} {t : TS} (h : P → PSs X st t) : PSs X st (fun D σ H => P ∧ t D σ H) := ⟨fun pins s σ H D I q => (h q.1).run pins s σ H D I q.2⟩
theorem hs_know {P : Prop} {t : TS} (hp : P) (h : HS K E t s O) : HS K E (fun D σ H => P ∧ t D σ H) s O := fun B σ H D S q => ⟨hp, h B σ H D S q⟩
def adOf : Value → Addr
  | .ref a => a
  | _ => 0
theorem know_z {cls : Value} {d : Option Addr} {oe : Obj} {R : Prop} (h : cls = .ref (adOf cls) ∧ d = none ∧ R) (hz : L2.Zc cls d oe) : L2.Zc (.ref (adOf cls)) none oe := by
  obtain ⟨h1, rfl, _⟩ := h
  rw [← h1]
  exact hz
theorem cst_x {mg : Str → Option Value} {x : Str} {C : Addr} (T : Exc K mg x C) : Cst mg x (.ref C) := ⟨_, T.g, rfl⟩
theorem exm_of2 {A B : Addr} {b : Bool} (h1 : PySem.W.subIn K (.ref B) (.type "BaseException") = some true) (hd : PySem.W.hasDictIn K B = true) (ht : PySem.W.typeIn K (.ref B) = some (.type "type")) (h4 : PySem.W.subIn K (.ref A) (.ref B) = some b) : PySem.W.exmOne K (.ref A) (.ref B) = some b := PySem.W.exm_ref h1 hd ht h4
theorem kit_yes {A B : Addr} (hd : PySem.W.hasDictIn K B = true) (ht : PySem.W.typeIn K (.ref B) = some (.type "type")) (h4 : PySem.W.subIn K (.ref A) (.ref B) = some true) : PySem.W.kitOne K (.ref A) (.ref B) = some true := by
  obtain ⟨cd, hc, _⟩ := PySem.W.any_some hd
  have e2 : ((PySem.W.clsIn K B).isSome && PySem.W.typeIn K (.ref B) == some (.type "type")) = true := by rw [hc, ht] <;> rfl
  unfold PySem.W.kitOne
  split
  · rfl
  · show (if ((PySem.W.clsIn K B).isSome && PySem.W.typeIn K (.ref B) == some (.type "type")) = true then PySem.W.subIn K (.ref A) (.ref B) else none) = some true
    rw [if_pos e2]
    exact h4
theorem kit_no {A B : Addr} (hn : A ≠ B) (hd : PySem.W.hasDictIn K B = true) (ht : PySem.W.typeIn K (.ref B) = some (.type "type")) (h4 : PySem.W.subIn K (.ref A) (.ref B) = some false) : PySem.W.kitOne K (.ref A) (.ref B) = some false := by
  obtain ⟨cd, hc, _⟩ := PySem.W.any_some hd
  have e2 : ((PySem.W.clsIn K B).isSome && PySem.W.typeIn K (.ref B) == some (.type "type")) = true := by rw [hc, ht] <;> rfl
  unfold PySem.W.kitOne
  rw [if_neg (fun h => hn (Value.ref.inj (beq_iff_eq.mp h)))]
  show (if ((PySem.W.clsIn K B).isSome && PySem.W.typeIn K (.ref B) == some (.type "type")) = true then PySem.W.subIn K (.ref A) (.ref B) else none) = some false
  rw [if_pos e2]
  exact h4
theorem rv_notN0 : RVs K s rNotN wn wn (wb false) := fun B σ H v u Q S a b q => by
  cases rw_n a; cases rw_n b
  have e : (!decide ((V.non : V) = V.non)) = false := by simp
  refine ⟨rfl, ?_⟩
  rw [e]
  exact q _ H same_refl rb
/-- isinstance of the caught error -/
theorem rc_isE {D C a : Addr} {b : Bool} (h : PySem.W.kitOne K (.ref D) (.ref C) = some b) : RCs K s (rIsE K D a) [.x (.ref a), .x (.ref C)] (wb b) := fun B σ H vs Q S r q => by
  cases r with
  | cons r1 r2 =>
    cases r2 with
    | cons r2 r3 =>
      cases r3
      cases r1
      cases r2
      exact ⟨_, .ref C, b, rfl, fun u hu => by cases hu; rfl, h, q _ H same_refl rb⟩
end
end DL

namespace DL
open PySem PySem.Spec PyProof.Rows L2 TL
/-! ### some of the cells are handed on -/
def pick : List Bool → Del → Del
  | true :: bs, c :: Δ => c :: pick bs Δ
  | false :: bs, _ :: Δ => pick bs Δ
  | [], _ => []
  | _ :: _, [] => []
def rest : List Bool → Del → Del
  | true :: bs, _ :: Δ => rest bs Δ
  | false :: bs, c :: Δ => c :: rest bs Δ
  | [], Δ => Δ
  | _ :: _, [] => []
def put : List Bool → Del → Del → Del
  | true :: bs, n :: new, _ :: Δ => n :: put bs new Δ
  | true :: bs, [], _ :: Δ => put bs [] Δ
  | false :: bs, new, c :: Δ => c :: put bs new Δ
  | [], new, Δ => new ++ Δ
  | true :: _, new, [] => new
  | false :: _, new, [] => new
theorem perm_pick : ∀ (bs : List Bool) (Δ : Del), (pick bs Δ ++ rest bs Δ).Perm Δ
  | true :: bs, c :: Δ => (perm_pick bs Δ).cons c
  | false :: bs, c :: Δ => List.perm_middle.trans ((perm_pick bs Δ).cons c)
  | [], Δ => .refl _
  | true :: _, [] => .refl _
  | false :: _, [] => .refl _
theorem perm_put : ∀ (bs : List Bool) (new Δ : Del), (put bs new Δ).Perm (new ++ rest bs Δ)
  | true :: bs, n :: new, _ :: Δ => (perm_put bs new Δ).cons n
  | true :: bs, [], _ :: Δ => perm_put bs [] Δ
  | false :: bs, new, c :: Δ => ((perm_put bs new Δ).cons c).trans List.perm_middle.symm
  | [], new, Δ => .refl _
  | true :: _, n :: new, [] => by unfold put rest; rw [List.append_nil]
  | true :: _, [], [] => .refl _
  | false :: _, new, [] => by unfold put rest; rw [List.append_nil]
theorem put_pick : ∀ (bs : List Bool) (Δ : Del), put bs (pick bs Δ) Δ = Δ
  | true :: bs, c :: Δ => by unfold pick put; rw [put_pick bs Δ]
  | false :: bs, c :: Δ => by unfold pick put; rw [put_pick bs Δ]
  | [], Δ => rfl
  | true :: _, [] => rfl
  | false :: _, [] => rfl
theorem ads_app (Δ Δ' : Del) : ads (Δ ++ Δ') = ads Δ ++ ads Δ' := by unfold ads; rw [List.map_append]
theorem ads_perm {Δ Δ' : Del} (p : Δ.Perm Δ') : (ads Δ).Perm (ads Δ') := p.map _
section
variable {K : PySem.W.Frag} {s s1 s' : S} {ta tb te tl tv to : TE} {tr : TA} {tt : TT} {x y z w : W} {B : List Addr} {H H' : Hp} {σ : L2.St} {X : Cx} {E : L2.St → XK} {O : Out} {t1 t2 tz tu tw : TS} {g : TG} {t : Tr}
theorem sath_perm {Δ Δ' : Del} (h : SatH K B Δ H) (p : Δ'.Perm Δ) : SatH K B Δ' H := by
  have pa := ads_perm p
  have sub : Same (msk H (ads Δ ++ B)) (msk H (ads Δ' ++ B)) := msk_less fun b hb => by
    rcases List.mem_append.mp hb with z | z
    · exact List.mem_append_left _ (pa.mem_iff.mp z)
    · exact List.mem_append_right _ z
  exact ⟨fun q hq => (h.cell q (p.mem_iff.mp hq)).mono sub, pa.nodup_iff.mpr h.nd, h.bt, (fun b hb z => h.db b hb (pa.mem_iff.mp z)), h.nt⟩
theorem fr_perm {Δ Δ' Δ2 : Del} (f : Fr Δ H Δ' H') (p : Δ2.Perm Δ') : Fr Δ H Δ2 H' := fun b o n e => by
  obtain ⟨h1, h2⟩ := f b o n e
  exact ⟨fun z => h1 ((ads_perm p).mem_iff.mp z), h2⟩
theorem sath_left {Δ1 Δ2 : Del} (h : SatH K B (Δ1 ++ Δ2) H) : SatH K (ads Δ2 ++ B) Δ1 H := by
  have ea := ads_app Δ1 Δ2
  have nd := h.nd
  rw [ea] at nd
  obtain ⟨n1, n2, n3⟩ := List.nodup_append.mp nd
  refine ⟨fun q hq => ?_, n1, fun b hb => ?_, fun b hb z => ?_, fun b hb xs z => ?_⟩
  rotate_right
  · rcases List.mem_append.mp hb with q | q
    · obtain ⟨p, hp, rfl⟩ := List.mem_map.mp q
      have c := h.cell p (List.mem_append_right _ hp)
      rw [z] at c
      exact c.notup
    · exact h.nt b q xs z
  · have := h.cell q (List.mem_append_left _ hq)
    rw [ea, List.append_assoc] at this
    exact this
  · rcases List.mem_append.mp hb with z | z
    · obtain ⟨o, e⟩ := h.tracked (b := b) (by rw [ea]; exact List.mem_append_right _ z)
      rw [e]; exact fun z => nomatch z
    · exact h.bt b z
  · rcases List.mem_append.mp hb with y | y
    · exact n3 b z b y rfl
    · exact h.db b y (by rw [ea]; exact List.mem_append_left _ z)
theorem sath_join {Δ1 Δ1' Δ2 : Del} (S : SatH K B (Δ1 ++ Δ2) H) (h : SatH K (ads Δ2 ++ B) Δ1' H') (f : Fr Δ1 H Δ1' H') : SatH K B (Δ1' ++ Δ2) H' := by
  have ea := ads_app Δ1' Δ2
  have ea0 := ads_app Δ1 Δ2
  have em : ads (Δ1' ++ Δ2) ++ B = ads Δ1' ++ (ads Δ2 ++ B) := by rw [ea, List.append_assoc]
  have em0 : ads (Δ1 ++ Δ2) ++ B = ads Δ1 ++ (ads Δ2 ++ B) := by rw [ea0, List.append_assoc]
  have nd := S.nd
  rw [ea0] at nd
  obtain ⟨n1, n2, n3⟩ := List.nodup_append.mp nd
  refine ⟨fun p hp => ?_, ?_, fun b hb => h.bt b (List.mem_append_right _ hb), fun b hb z => ?_, fun b hb => h.nt b (List.mem_append_right _ hb)⟩
  · rw [em]
    rcases List.mem_append.mp hp with hp | hp
    · exact h.cell p hp
    · have q := S.cell p (List.mem_append_right _ hp)
      obtain ⟨o, ho⟩ := q.some
      rw [ho, em0] at q
      have np : p.1 ∉ ads Δ1 := fun z => n3 _ z _ (List.mem_map.mpr ⟨p, hp, rfl⟩) rfl
      rw [(f _ _ np ho).2]
      exact q.mono (Fr.msk (B := ads Δ2 ++ B) f)
  · rw [ea]
    exact List.nodup_append.mpr ⟨h.nd, n2, fun a ha b hb e => h.db b (List.mem_append_left _ hb) (e ▸ ha)⟩
  · rw [ea] at z
    rcases List.mem_append.mp z with z | z
    · exact h.db b (List.mem_append_right _ hb) z
    · exact S.db b hb (by rw [ea0]; exact List.mem_append_right _ z)
theorem fr_join {Δ1 Δ1' Δ2 : Del} (f : Fr Δ1 H Δ1' H') : Fr (Δ1 ++ Δ2) H (Δ1' ++ Δ2) H' := fun b o n e => by
  rw [ads_app] at n
  obtain ⟨h1, h2⟩ := f b o (fun z => n (List.mem_append_left _ z)) e
  refine ⟨fun z => ?_, h2⟩
  rw [ads_app] at z
  exact (List.mem_append.mp z).elim h1 fun z => n (List.mem_append_right _ z)
theorem fr_from {Δ Δ' Δ2 : Del} (f : Fr Δ H Δ' H') (p : Δ2.Perm Δ) : Fr Δ2 H Δ' H' := fun b o n e => f b o (fun z => n ((ads_perm p).mem_iff.mpr z)) e
theorem msk_mem {A A' : List Addr} (h : ∀ b, b ∈ A ↔ b ∈ A') : msk H A = msk H A' := by
  funext b
  unfold msk
  by_cases z : b ∈ A
  · rw [if_pos z, if_pos ((h b).mp z)]
  · rw [if_neg z, if_neg fun y => z ((h b).mpr y)]
/-- the call's own words, some of the cells handed on -/
theorem callG (bs : List Bool) {xs : List W} {E2 : XK} {k : W → Del → Prop} {ex : Value → Del → Prop} {vs : List V} {Q : VK} (S : Sat K B s σ H) (r1 : RWs K (msk H (ads s.h ++ B)) vs xs) (ht : t xs (pick bs s.h) k ex)
    (q : ∀ w Δ' v H', k w Δ' → Sat K B ⟨s.g, put bs Δ' s.h⟩ σ H' → Fr s.h H (put bs Δ' s.h) H' → RW K (msk H' (ads (put bs Δ' s.h) ++ B)) v w → Q v H') (qx : ∀ c Δ' H', ex c Δ' → Sat K B ⟨s.g, put bs Δ' s.h⟩ σ H' → Fr s.h H (put bs Δ' s.h) H' → E2 c none H') : spOf K t vs H Q E2 := by
  have P0 := perm_pick bs s.h
  have S0 : SatH K B (pick bs s.h ++ rest bs s.h) H := sath_perm S.hh P0
  have m0 : msk H (ads s.h ++ B) = msk H (ads (pick bs s.h) ++ (ads (rest bs s.h) ++ B)) := msk_mem fun b => by
    rw [← List.append_assoc, ← ads_app, List.mem_append, List.mem_append, (ads_perm P0).mem_iff]
  have fr : ∀ {Δ' H'}, Fr (pick bs s.h) H Δ' H' → Fr s.h H (put bs Δ' s.h) H' := fun {Δ' H'} f => fr_perm (fr_from (fr_join (Δ2 := rest bs s.h) f) P0.symm) (perm_put bs Δ' s.h)
  have sat : ∀ {Δ' H'}, SatH K (ads (rest bs s.h) ++ B) Δ' H' → Fr (pick bs s.h) H Δ' H' → Sat K B ⟨s.g, put bs Δ' s.h⟩ σ H' := fun {Δ' H'} h f => ⟨sath_perm (sath_join S0 h f) (perm_put bs Δ' s.h), S.gg.mono (fr f).msk⟩
  have m1 : ∀ Δ' H', msk H' (ads (put bs Δ' s.h) ++ B) = msk H' (ads Δ' ++ (ads (rest bs s.h) ++ B)) := fun Δ' H' => msk_mem fun b => by
    rw [← List.append_assoc, ← ads_app, List.mem_append, List.mem_append, (ads_perm (perm_put bs Δ' s.h)).mem_iff]
  refine ⟨ads (rest bs s.h) ++ B, xs, pick bs s.h, k, ex, sath_left S0, by rw [← m0]; exact r1, ht, fun w Δ' v H' kk h f r => q w Δ' v H' kk (sat h f) (fr f) (by rw [m1]; exact r), fun c Δ' H' xx h f => qx c Δ' H' xx (sat h f) (fr f)⟩
end
/-! ### what may change cells, what may raise -/
section
variable (K : PySem.W.Frag)
def EvG (E : L2.St → XK) (te : TE) (s : S) (k : W → Del → Prop) (x : Value → Del → Prop) : Prop := ∀ (B : List Addr) (σ : L2.St) (H : Hp) (Q : VK), Sat K B s σ H →
  (∀ w Δ' v H', k w Δ' → Sat K B ⟨s.g, Δ'⟩ σ H' → Fr s.h H Δ' H' → RW K (msk H' (ads Δ' ++ B)) v w → Q v H') → (∀ c Δ' H', x c Δ' → Sat K B ⟨s.g, Δ'⟩ σ H' → Fr s.h H Δ' H' → E σ c none H') → te σ H Q
/-- the cells stand as they stood, though perhaps by other objects -/
def EvW (te : TE) (s : S) (w : W) : Prop := ∀ (B : List Addr) (σ : L2.St) (H : Hp) (Q : VK), Sat K B s σ H → (∀ v H', Sat K B s σ H' → Fr s.h H s.h H' → RW K (msk H' (ads s.h ++ B)) v w → Q v H') → te σ H Q
def EvTW (tt : TT) (s : S) (b : Bool) : Prop := ∀ (B : List Addr) (σ : L2.St) (H : Hp) (Q : Bool → Hp → Prop), Sat K B s σ H → (∀ H', Sat K B s σ H' → Fr s.h H s.h H' → Q b H') → tt σ H Q
def EvAW (ta : TA) (s : S) (xs : List W) : Prop := ∀ (B : List Addr) (σ : L2.St) (H : Hp) (Q : List V → Hp → Prop), Sat K B s σ H → (∀ vs H', Sat K B s σ H' → Fr s.h H s.h H' → RWs K (msk H' (ads s.h ++ B)) vs xs → Q vs H') → ta σ H Q
end
section
variable {K : PySem.W.Frag} {s s1 s' : S} {ta tb te tl tv to : TE} {tr : TA} {tt t u : TT} {x y z w : W} {r : R2} {B : List Addr} {H H' : Hp} {σ : L2.St} {X : Cx} {E : L2.St → XK} {O : Out} {t1 t2 tz tu tw : TS} {g : TG} {sp : Tr} {E1 : XK}
theorem Ev.toW (h : Ev K te s w) : EvW K te s w := fun B σ H Q S q => h B σ H Q S fun v H' e r => q v H' (S.mono e) (Fr.of e) r
theorem EvT.toW {b : Bool} (h : EvT K tt s b) : EvTW K tt s b := fun B σ H Q S q => h B σ H Q S fun H' e => q H' (S.mono e) (Fr.of e)
theorem EvA.toW {xs : List W} (h : EvA K tr s xs) : EvAW K tr s xs := fun B σ H Q S q => h B σ H Q S fun v H' e r => q v H' (S.mono e) (Fr.of e) r
theorem EvW.toG (h : EvW K te s w) {k : W → Del → Prop} {x : Value → Del → Prop} (hk : k w s.h) : EvG K E te s k x := fun B σ H Q S q _ => h B σ H Q S fun v H' S' f r => q w s.h v H' hk S' f r
theorem Ev.toG (h : Ev K te s w) {k : W → Del → Prop} {x : Value → Del → Prop} (hk : k w s.h) : EvG K E te s k x := h.toW.toG hk
theorem eaw_nil : EvAW K tNil s [] := ea_nil.toW
theorem eaw_cons {xs : List W} (h : EvW K te s x) (hr : EvAW K tr s xs) : EvAW K (tCons te tr) s (x :: xs) := fun B σ H Q S q =>
  h B σ H _ S fun v H1 S1 f1 r1 => hr B σ H1 _ S1 fun vs H2 S2 f2 r2 => q (v :: vs) H2 S2 (f1.trans f2) (.cons (r1.mono f2.msk) r2)
theorem evw_is (h : EvW K te s x) (e : x = y) : EvW K te s y := e ▸ h
theorem evw_op (ha : EvW K ta s x) (hb : EvW K tb s y) (hr : RVs K s r x y z) : EvW K (tOp r ta tb) s z := fun B σ H Q S q =>
  ha B σ H _ S fun v H1 S1 f1 r1 => hb B σ H1 _ S1 fun u H2 S2 f2 r2 => hr B σ H2 v u Q S2 (r1.mono f2.msk) r2 fun t H3 e3 r3 => q t H3 (S2.mono e3) ((f1.trans f2).trans (Fr.of e3)) r3
theorem evw_cb {rr : List V → Hp → VK → Prop} {xs : List W} (h : EvAW K tr s xs) (hr : RCs K s rr xs z) : EvW K (tCB rr tr) s z := fun B σ H Q S q =>
  h B σ H _ S fun vs H1 S1 f1 r1 => hr B σ H1 vs Q S1 r1 fun v H2 e2 r2 => q v H2 (S1.mono e2) (f1.trans (Fr.of e2)) r2
theorem evw_notV {a : Bool} (h1 : EvW K ta s (wb a)) : EvW K (tNotV ta) s (wb (!a)) := fun B σ H Q S q => h1 B σ H _ S fun v H1 S1 f1 r1 => ⟨a, rw_b r1, q _ H1 S1 f1 rb⟩
theorem evw_andV {a b : Bool} (h1 : EvW K ta s (wb a)) (h2 : a = true → EvW K tb s (wb b)) : EvW K (tAndV ta tb) s (wb (a && b)) := fun B σ H Q S q => h1 B σ H _ S fun v H1 S1 f1 r1 => ⟨a, rw_b r1, by
  cases a with
  | false => exact iteF (q _ H1 S1 f1 (rb (i := false)))
  | true => exact iteT (h2 rfl B σ H1 _ S1 fun u H2 S2 f2 r2 => q u H2 S2 (f1.trans f2) r2)⟩
theorem evw_orV {a b : Bool} (h1 : EvW K ta s (wb a)) (h2 : a = false → EvW K tb s (wb b)) : EvW K (tOrV ta tb) s (wb (a || b)) := fun B σ H Q S q => h1 B σ H _ S fun v H1 S1 f1 r1 => ⟨a, rw_b r1, by
  cases a with
  | true => exact iteT (q _ H1 S1 f1 (rb (i := true)))
  | false => exact iteF (h2 rfl B σ H1 _ S1 fun u H2 S2 f2 r2 => q u H2 S2 (f1.trans f2) r2)⟩
theorem etw_test {b : Bool} (h : EvW K te s (wb b)) : EvTW K (tTest te) s b := fun B σ H Q S q => h B σ H _ S fun v H1 S1 f1 r1 => ⟨b, rw_b r1, q H1 S1 f1⟩
theorem etw_not {a : Bool} (h1 : EvTW K t s a) : EvTW K (tNot t) s (!a) := fun B σ H Q S q => h1 B σ H _ S fun H1 S1 f1 => q H1 S1 f1
theorem etw_and {a b : Bool} (h1 : EvTW K t s a) (h2 : a = true → EvTW K u s b) : EvTW K (tAnd t u) s (a && b) := fun B σ H Q S q => h1 B σ H _ S fun H1 S1 f1 => by
  cases a with
  | false => exact iteF (q H1 S1 f1)
  | true => exact iteT (h2 rfl B σ H1 _ S1 fun H2 S2 f2 => q H2 S2 (f1.trans f2))
theorem etw_or {a b : Bool} (h1 : EvTW K t s a) (h2 : a = false → EvTW K u s b) : EvTW K (tOr t u) s (a || b) := fun B σ H Q S q => h1 B σ H _ S fun H1 S1 f1 => by
  cases a with
  | true => exact iteT (q H1 S1 f1)
  | false => exact iteF (h2 rfl B σ H1 _ S1 fun H2 S2 f2 => q H2 S2 (f1.trans f2))
theorem etw_tb {b : Bool} (h : EvW K te s (wb b)) : EvTW K (tTruthU K te) s b := fun B σ H Q S q => h B σ H _ S fun v H1 S1 f1 r1 => by
  refine ⟨b, ?_, q H1 S1 f1⟩
  rw [rw_b r1]
  first | rfl | exact .inl rfl | (left; rfl)
/-! calls -/
theorem evg_call (bs : List Bool) {xs : List W} {k : W → Del → Prop} {ex : Value → Del → Prop} (h : EvAW K tr s xs) (ht : sp xs (pick bs s.h) (fun w Δ' => k w (put bs Δ' s.h)) (fun c Δ' => ex c (put bs Δ' s.h))) : EvG K E (tCallS (spOf K sp) E tr) s k ex := fun B σ H Q S q qx =>
  h B σ H _ S fun vs H1 S1 f1 r1 => callG bs S1 r1 ht (fun w Δ' v H2 kk S2 f2 r2 => q w _ v H2 kk S2 (f1.trans f2) r2) fun c Δ' H2 xx S2 f2 => qx c _ H2 xx S2 (f1.trans f2)
theorem evg_call0 (bs : List Bool) {xs : List W} {k : W → Del → Prop} {ex : Value → Del → Prop} (h : EvAW K tr s xs) (ht : sp xs (pick bs s.h) (fun w Δ' => k w (put bs Δ' s.h)) (fun _ _ => False)) : EvG K E (tCall (spOf K sp) [] E1 tr) s k ex := fun B σ H Q S q qx =>
  h B σ H _ S fun vs H1 S1 f1 r1 => callG bs S1 (rws_nil r1) ht (fun w Δ' v H2 kk S2 f2 r2 => q w _ v H2 kk S2 (f1.trans f2) r2) fun c Δ' H2 xx S2 f2 => xx.elim
theorem evw_g {te : TE} (h : ∀ E : L2.St → XK, EvG K E te s (fun w' Δ' => w' = w ∧ Δ' = s.h) (fun _ _ => False)) : EvW K te s w := fun B σ H Q S q =>
  h (fun _ _ _ _ => True) B σ H Q S (fun w' Δ' v H' e S' f r => by obtain ⟨rfl, rfl⟩ := e; exact q v H' S' f r) fun _ _ _ z => z.elim
theorem evw_call (bs : List Bool) {xs : List W} (h : EvAW K tr s xs) (ht : sp xs (pick bs s.h) (fun w' Δ' => w' = w ∧ Δ' = pick bs s.h) (fun _ _ => False)) : EvW K (tCall (spOf K sp) [] E1 tr) s w := fun B σ H Q S q =>
  h B σ H _ S fun vs H1 S1 f1 r1 => callG bs S1 (rws_nil r1) ht (fun w' Δ' v H2 kk S2 f2 r2 => by
    obtain ⟨rfl, rfl⟩ := kk
    rw [put_pick] at S2 f2 r2
    exact q v H2 S2 (f1.trans f2) r2) fun c Δ' H2 xx S2 f2 => xx.elim
theorem evw_callS (bs : List Bool) {xs : List W} (h : EvAW K tr s xs) (ht : sp xs (pick bs s.h) (fun w' Δ' => w' = w ∧ Δ' = pick bs s.h) (fun _ _ => False)) : EvW K (tCallS (spOf K sp) E tr) s w := fun B σ H Q S q =>
  h B σ H _ S fun vs H1 S1 f1 r1 => callG bs S1 r1 ht (fun w' Δ' v H2 kk S2 f2 r2 => by
    obtain ⟨rfl, rfl⟩ := kk
    rw [put_pick] at S2 f2 r2
    exact q v H2 S2 (f1.trans f2) r2) fun c Δ' H2 xx S2 f2 => xx.elim
/-- arguments seen as data, flat result -/
theorem evw_callB {xs ys : List W} (h : EvAW K tr s xs) (hv : VWs s xs ys) (ht : sp ys [] (fun w' Δ' => w' = w ∧ Δ' = []) (fun _ _ => False)) (hf : flatW w = true) : EvW K (tCall (spOf K sp) [] E1 tr) s w := fun B σ H Q S q =>
  h B σ H _ S fun vs H1 S1 f1 r1 => by
    refine ⟨[], ys, [], _, _, ⟨fun p hp => (by cases hp), .nil, fun b hb => (by cases hb), (fun _ _ z => by cases z), fun b hb => (by cases hb)⟩, by rw [show ads [] ++ [] = ([] : List Addr) from rfl, msk_nil, List.append_nil]; exact hv.get S1 r1, ht, ?_, fun _ _ _ z => z.elim⟩
    rintro w' Δ' v H' ⟨rfl, rfl⟩ _ f r
    have e2 := fr_nil_same f
    exact q v H' (S1.mono e2) (f1.trans (Fr.of e2)) (flat_rw hf r)
/-! ### statements -/
theorem hq_asgGG {j : Nat} (h : EvG K E te s (fun w Δ' => HS K E tz ⟨s.g.set j (some w), Δ'⟩ O) (fun c Δ' => O.x c ⟨s.g, Δ'⟩)) : HS K E (tSeq (tAsg te (gName j)) tz) s O := fun B σ H D S q =>
  h B σ H _ S (fun w Δ' v H1 k S1 f1 r1 => k B _ H1 D ⟨S1.hh, S1.gg.set r1 j⟩ (q.step f1)) fun c Δ' H1 hx S1 f1 => q.x c ⟨s.g, Δ'⟩ σ H1 hx S1 f1
theorem hs_asgGG {j : Nat} (h : EvG K E te s (fun w Δ' => O.n ⟨s.g.set j (some w), Δ'⟩) (fun c Δ' => O.x c ⟨s.g, Δ'⟩)) : HS K E (tAsg te (gName j)) s O := fun B σ H D S q =>
  h B σ H _ S (fun w Δ' v H1 k S1 f1 r1 => q.n ⟨s.g.set j (some w), Δ'⟩ _ H1 k ⟨S1.hh, S1.gg.set r1 j⟩ f1) fun c Δ' H1 hx S1 f1 => q.x c ⟨s.g, Δ'⟩ σ H1 hx S1 f1
theorem hq_dropG (h : EvG K E te s (fun _ Δ' => HS K E tz ⟨s.g, Δ'⟩ O) (fun c Δ' => O.x c ⟨s.g, Δ'⟩)) : HS K E (tSeq (tDrop te) tz) s O := fun B σ H D S q =>
  h B σ H _ S (fun w Δ' v H1 k S1 f1 r1 => k B _ H1 D S1 (q.step f1)) fun c Δ' H1 hx S1 f1 => q.x c ⟨s.g, Δ'⟩ σ H1 hx S1 f1
theorem hs_dropG (h : EvG K E te s (fun _ Δ' => O.n ⟨s.g, Δ'⟩) (fun c Δ' => O.x c ⟨s.g, Δ'⟩)) : HS K E (tDrop te) s O := fun B σ H D S q =>
  h B σ H _ S (fun w Δ' v H1 k S1 f1 r1 => q.n ⟨s.g, Δ'⟩ σ H1 k S1 f1) fun c Δ' H1 hx S1 f1 => q.x c ⟨s.g, Δ'⟩ σ H1 hx S1 f1
theorem hs_retG (h : EvG K E te s (fun w Δ' => O.r w Δ') (fun c Δ' => O.x c ⟨s.g, Δ'⟩)) : HS K E (tRet te) s O := fun B σ H D S q =>
  h B σ H _ S (fun w Δ' v H1 k S1 f1 r1 => q.r w Δ' v H1 k S1.hh f1 r1) fun c Δ' H1 hx S1 f1 => q.x c ⟨s.g, Δ'⟩ σ H1 hx S1 f1
theorem hs_retW (h : EvW K te s w) (h2 : O.r w s.h) : HS K E (tRet te) s O := hs_retG (h.toG h2)
theorem hs_asgW {j : Nat} (h : EvW K te s w) (h2 : O.n ⟨s.g.set j (some w), s.h⟩) : HS K E (tAsg te (gName j)) s O := hs_asgGG (h.toG h2)
theorem hq_asgW {j : Nat} (h : EvW K te s w) (h2 : HS K E tz ⟨s.g.set j (some w), s.h⟩ O) : HS K E (tSeq (tAsg te (gName j)) tz) s O := hq_asgGG (h.toG h2)
theorem hs_ifW {b : Bool} (h : EvTW K tt s b) (h1 : b = true → HS K E tu s O) (h2 : b = false → HS K E tw s O) : HS K E (tIfS tt tu tw) s O := fun B σ H D S q => h B σ H _ S fun H1 S1 f1 => by
  cases b with
  | true => exact iteT (h1 rfl B σ H1 D S1 (q.step f1))
  | false => exact iteF (h2 rfl B σ H1 D S1 (q.step f1))
theorem hq_ifW {b : Bool} (h : EvTW K tt s b) (h1 : b = true → HS K E (tSeq tu tz) s O) (h2 : b = false → HS K E (tSeq tw tz) s O) : HS K E (tSeq (tIfS tt tu tw) tz) s O := fun B σ H D S q => h B σ H _ S fun H1 S1 f1 => by
  cases b with
  | true => exact iteT (h1 rfl B σ H1 D S1 (q.step f1))
  | false => exact iteF (h2 rfl B σ H1 D S1 (q.step f1))
/-- some cells are given up -/
theorem fr_pick (bs : List Bool) {Δ : Del} : Fr Δ H (pick bs Δ) H := fun b o n e => ⟨fun z => n ((ads_perm (perm_pick bs Δ)).mem_iff.mp (by rw [ads_app]; exact List.mem_append_left _ z)), e⟩
theorem sath_pick (bs : List Bool) {Δ : Del} (h : SatH K B Δ H) : SatH K B (pick bs Δ) H := by
  have h1 := sath_left (sath_perm h (perm_pick bs Δ))
  refine ⟨fun q hq => (h1.cell q hq).mono (msk_less fun b hb => ?_), h1.nd, h.bt, (fun b hb z => h1.db b (List.mem_append_right _ hb) z), h.nt⟩
  rcases List.mem_append.mp hb with z | z
  · exact List.mem_append_left _ z
  · exact List.mem_append_right _ (List.mem_append_right _ z)
theorem sub_pick (bs : List Bool) {Δ : Del} {H : Hp} : Same (msk H (ads Δ ++ B)) (msk H (ads (pick bs Δ) ++ B)) := msk_less fun b hb => by
  rcases List.mem_append.mp hb with z | z
  · exact List.mem_append_left _ ((ads_perm (perm_pick bs Δ)).mem_iff.mp (by rw [ads_app]; exact List.mem_append_left _ z))
  · exact List.mem_append_right _ z
theorem hs_pick (bs : List Bool) (h : HS K E t1 ⟨s.g, pick bs s.h⟩ O) : HS K E t1 s O := fun B σ H D S q =>
  h B σ H D ⟨sath_pick bs S.hh, S.gg.mono (sub_pick bs)⟩ (q.step (fr_pick bs))
theorem hs_permC {Δ : Del} (p : Δ.Perm s.h) (h : HS K E t1 ⟨s.g, Δ⟩ O) : HS K E t1 s O := fun B σ H D S q => by
  have f : Fr s.h H Δ H := fr_perm Fr.refl p
  exact h B σ H D ⟨sath_perm S.hh p, S.gg.mono f.msk⟩ (q.step f)
/-- a value is handed back, some cells with it -/
theorem hs_retP (bs : List Bool) (h : EvW K te s w) (h2 : O.r w (pick bs s.h)) : HS K E (tRet te) s O := fun B σ H D S q =>
  h B σ H _ S fun v H1 S1 f1 r1 => q.r w (pick bs s.h) v H1 h2 (sath_pick bs S1.hh) (f1.trans (fr_pick bs)) (r1.mono (sub_pick bs))
/-- a new list is handed back, the cells stay -/
theorem hs_retFK {xs : List W} (h : EvF K te s xs) (h2 : ∀ a, O.r (.o a) ((a, .lst xs) :: s.h)) : HS K E (tRet te) s O := fun B σ H D S q =>
  h B σ H _ S fun a vs H' e n ha r => by
    obtain ⟨c1, c2, c3⟩ := cell_new S e n ha r
    exact q.r (.o a) _ _ H' (h2 a) c1 c2 rfl
theorem hs_retNK (h2 : O.r wn s.h) : HS K E tRetN s O := fun B σ H D S q => q.r wn s.h .non H h2 S.hh Fr.refl rn
/-! ### objects -/
def putW (f : Str) (v : W) : List (Str × W) → List (Str × W)
  | [] => [(f, v)]
  | (g, x) :: r => if g = f then (g, v) :: r else (g, x) :: putW f v r
theorem putF_W {M : Hp} {f : Str} {v : V} {w : W} (r : RW K M v w) : ∀ {vs : List (Str × V)} {fs : List (Str × W)}, vs.map (·.1) = fs.map (·.1) → RWs K M (vs.map (·.2)) (fs.map (·.2)) →
    (putF f v vs).map (·.1) = (putW f w fs).map (·.1) ∧ RWs K M ((putF f v vs).map (·.2)) ((putW f w fs).map (·.2))
  | [], [], _, _ => ⟨rfl, .cons r .nil⟩
  | (g, x) :: vs, (g', y) :: fs, e, h => by
    have e1 : g = g' := (List.cons.inj e).1
    subst e1
    cases h with
    | cons h1 h2 =>
      obtain ⟨i1, i2⟩ := putF_W r (List.cons.inj e).2 h2
      unfold putF putW
      by_cases hg : g = f
      · rw [if_pos hg, if_pos hg]
        exact ⟨e, .cons r h2⟩
      · rw [if_neg hg, if_neg hg]
        refine ⟨?_, .cons h1 i2⟩
        show g :: _ = g :: _
        rw [i1]
  | [], _ :: _, e, _ => by cases e
  | _ :: _, [], e, _ => by cases e
theorem look_W {M : Hp} {f : Str} {w : W} : ∀ {vs : List (Str × V)} {fs : List (Str × W)}, vs.map (·.1) = fs.map (·.1) → RWs K M (vs.map (·.2)) (fs.map (·.2)) → fs.lookup f = some w → ∃ v, vs.lookup f = some v ∧ RW K M v w
  | [], [], _, _, l => by cases l
  | (g, x) :: vs, (g', y) :: fs, e, h, l => by
    have e1 : g = g' := (List.cons.inj e).1
    subst e1
    cases h with
    | cons h1 h2 =>
      rw [List.lookup_cons] at l
      rw [List.lookup_cons]
      cases hg : (f == g) with
      | true => rw [hg] at l; cases l; exact ⟨x, rfl, h1⟩
      | false => rw [hg] at l; exact look_W (List.cons.inj e).2 h2 l
  | [], _ :: _, e, _, _ => by cases e
  | _ :: _, [], e, _, _ => by cases e
theorem look_none : ∀ {vs : List (Str × V)} {fs : List (Str × W)} {f : Str}, vs.map (·.1) = fs.map (·.1) → fs.lookup f = none → vs.lookup f = none
  | [], [], _, _, _ => rfl
  | (g, x) :: vs, (g', y) :: fs, f, e, l => by
    have e1 : g = g' := (List.cons.inj e).1
    subst e1
    rw [List.lookup_cons] at l
    rw [List.lookup_cons]
    cases hg : (f == g) with
    | true => rw [hg] at l; cases l
    | false => rw [hg] at l; exact look_none (List.cons.inj e).2 l
  | [], _ :: _, _, e, _ => by cases e
  | _ :: _, [], _, e, _ => by cases e
/-- the place of a field -/
def fix (f : Str) : List Str → Option Nat
  | [] => none
  | g :: r => if g = f then some 0 else (fix f r).map (· + 1)
theorem fix_mem {f : Str} : ∀ {L : List Str} {i : Nat}, fix f L = some i → f ∈ L
  | [], _, h => by cases h
  | g :: r, i, h => by
    unfold fix at h
    by_cases e : g = f
    · exact e ▸ List.mem_cons_self
    · rw [if_neg e] at h
      cases q : fix f r with
      | none => rw [q] at h; cases h
      | some j => exact List.mem_cons_of_mem _ (fix_mem q)
theorem look_zip {f : Str} {w : W} : ∀ {L : List Str} {xs : List W} {i : Nat}, fix f L = some i → xs[i]? = some w → (L.zip xs).lookup f = some w
  | [], _, _, h, _ => by cases h
  | _ :: _, [], _, _, h => by simp at h
  | g :: r, x :: xs, i, h, hx => by
    unfold fix at h
    rw [List.zip_cons_cons, List.lookup_cons]
    by_cases e : g = f
    · rw [if_pos e] at h
      cases h
      rw [e, beq_self_eq_true]
      simpa using hx
    · rw [if_neg e] at h
      have hb : (f == g) = false := beq_eq_false_iff_ne.mpr fun z => e z.symm
      rw [hb]
      cases q : fix f r with
      | none => rw [q] at h; cases h
      | some j =>
        rw [q] at h
        cases h
        exact look_zip q (by simpa using hx)
theorem putW_zip {f : Str} {w : W} : ∀ {L : List Str} {xs : List W} {i : Nat}, fix f L = some i → i < xs.length → putW f w (L.zip xs) = L.zip (xs.set i w)
  | [], _, _, h, _ => by cases h
  | _ :: _, [], _, _, h => by simp at h
  | g :: r, x :: xs, i, h, hx => by
    unfold fix at h
    rw [List.zip_cons_cons]
    unfold putW
    by_cases e : g = f
    · rw [if_pos e] at h
      cases h
      rw [if_pos e]
      rfl
    · rw [if_neg e] at h
      rw [if_neg e]
      cases q : fix f r with
      | none => rw [q] at h; cases h
      | some j =>
        rw [q] at h
        cases h
        have hx' : j + 1 < (x :: xs).length := hx
        rw [putW_zip q (by simpa using hx')]
        rfl
theorem putW_new {f : Str} {w : W} : ∀ {L : List Str} {xs : List W}, fix f L = some xs.length → putW f w (L.zip xs) = L.zip (xs ++ [w])
  | [], _, h => by cases h
  | g :: r, [], h => by
    unfold fix at h
    by_cases e : g = f
    · subst e
      show [(g, w)] = (g, w) :: r.zip []
      rw [List.zip_nil_right]
    · rw [if_neg e] at h
      cases q : fix f r with
      | none => rw [q] at h; cases h
      | some j => rw [q] at h; cases h
  | g :: r, x :: xs, h => by
    unfold fix at h
    by_cases e : g = f
    · rw [if_pos e] at h; cases h
    · rw [if_neg e] at h
      rw [List.cons_append, List.zip_cons_cons, List.zip_cons_cons]
      unfold putW
      rw [if_neg e]
      cases q : fix f r with
      | none => rw [q] at h; cases h
      | some j =>
        rw [q] at h
        have hj : j + 1 = xs.length + 1 := Option.some.inj h
        rw [putW_new (by rw [q]; congr 1; omega)]
theorem look_zip_none {f : Str} : ∀ {L : List Str} {xs : List W}, f ∉ L → (L.zip xs).lookup f = none
  | [], _, _ => rfl
  | _ :: _, [], _ => rfl
  | g :: r, x :: xs, h => by
    rw [List.zip_cons_cons, List.lookup_cons]
    have hb : (f == g) = false := beq_eq_false_iff_ne.mpr fun z => h (z ▸ List.mem_cons_self)
    rw [hb]
    exact look_zip_none fun z => h (List.mem_cons_of_mem _ z)
abbrev obL (C : Addr) (L : List Str) (xs : List W) : Cell := .obj C (L.zip xs)
/-- what is asked of a class of objects -/
def ClsF (K : PySem.W.Frag) (C : Addr) (L : List Str) : Prop := Cls K C ∧ L.length < 1000 ∧ ∀ f ∈ L, NoAttr K C f
theorem zip_lt {L : List Str} {xs : List W} (h : L.length < 1000) : (L.zip xs).length < 1000 := by
  rw [List.length_zip]; omega
theorem obj_get {C a : Addr} {fs : List (Str × W)} {n : Nat} (hn : s.h[n]? = some (a, .obj C fs)) (S : Sat K B s σ H) : ∃ dx vs, H a = some (.ins C dx vs) ∧ vs.map (·.1) = fs.map (·.1) ∧ RWs K (msk H (ads s.h ++ B)) (vs.map (·.2)) (fs.map (·.2)) :=
  S.hh.cell _ (List.mem_of_getElem? hn)
theorem ev_fld {C a : Addr} {f : Str} {fs : List (Str × W)} {L : List Str} (n : Nat) (c : ClsF K C L) (ho : Ev K ta s (.o a)) (hn : s.h[n]? = some (a, .obj C fs)) (hf : f ∈ L) (l : fs.lookup f = some w) : Ev K (tFld K ta f) s w := fun B σ H Q S q =>
  ho B σ H _ S fun v H1 e1 r1 => by
    cases (show v = V.ref a from r1)
    have S1 := S.mono e1
    obtain ⟨dx, vs, h1, h2, h3⟩ := obj_get hn S1
    obtain ⟨u, hu, ru⟩ := look_W h2 h3 l
    exact ⟨a, C, dx, vs, u, rfl, h1, c.1, c.2.2 f hf, hu, q u H1 e1 ru⟩
theorem fld_core {C a : Addr} {f : Str} {fs : List (Str × W)} {L : List Str} {Q : Hp → Prop} (n : Nat) (c : ClsF K C L) (hv : Ev K tv s w) (ho : Ev K ta s (.o a)) (hn : s.h[n]? = some (a, .obj C fs)) (hf : f ∈ L) (hl : fs.length < 1000) (S : Sat K B s σ H)
    (q : ∀ H', Sat K B ⟨s.g, s.h.set n (a, .obj C (putW f w fs))⟩ σ H' → Fr s.h H (s.h.set n (a, .obj C (putW f w fs))) H' → Q H') :
    tv σ H fun y H1 => ta σ H1 fun x H2 => ∃ a C dx fs, x = .ref a ∧ H2 a = some (.ins C dx fs) ∧ Cls K C ∧ NoAttr K C f ∧ fs.length < 1000 ∧ Q (upd H2 a (.ins C dx (putF f y fs))) :=
  hv B σ H _ S fun y H1 e1 r1 => ho B σ H1 _ (S.mono e1) fun v H2 e2 r2 => by
    cases (show v = V.ref a from r2)
    have S2 := (S.mono e1).mono e2
    obtain ⟨dx, vs, h1, h2, h3⟩ := obj_get hn S2
    have p := putF_W (f := f) (r1.mono (msk_same e2)) h2 h3
    have k := cell_set (c' := .obj C (putW f w fs)) (o := .ins C dx (putF f y vs)) S2 hn ⟨dx, _, rfl, p.1, p.2⟩
    refine ⟨a, C, dx, vs, rfl, h1, c.1, c.2.2 f hf, ?_, q _ k.1 ((Fr.of (e1.trans e2)).trans k.2)⟩
    have e := congrArg List.length h2
    rw [List.length_map, List.length_map] at e
    omega
theorem hs_fld {C a : Addr} {f : Str} {fs : List (Str × W)} {L : List Str} (n : Nat) (c : ClsF K C L) (hv : Ev K tv s w) (ho : Ev K ta s (.o a)) (hn : s.h[n]? = some (a, .obj C fs)) (hf : f ∈ L) (hl : fs.length < 1000)
    (h : O.n ⟨s.g, s.h.set n (a, .obj C (putW f w fs))⟩) : HS K E (sFld K ta tv f) s O := fun B σ H D S q => fld_core n c hv ho hn hf hl S fun H' S' f' => q.n _ σ H' h S' f'
theorem hq_fld {C a : Addr} {f : Str} {fs : List (Str × W)} {L : List Str} (n : Nat) (c : ClsF K C L) (hv : Ev K tv s w) (ho : Ev K ta s (.o a)) (hn : s.h[n]? = some (a, .obj C fs)) (hf : f ∈ L) (hl : fs.length < 1000)
    (h : HS K E tz ⟨s.g, s.h.set n (a, .obj C (putW f w fs))⟩ O) : HS K E (tSeq (sFld K ta tv f) tz) s O := fun B σ H D S q => fld_core n c hv ho hn hf hl S fun H' S' f' => h B σ H' D S' (q.step f')
/-- a new list, stored in a field: it becomes a cell -/
theorem hq_fldF {C a : Addr} {f : Str} {fs : List (Str × W)} {L : List Str} {xs : List W} (n : Nat) (c : ClsF K C L) (hv : EvF K tv s xs) (ho : ∀ Δ, Ev K ta ⟨s.g, Δ⟩ (.o a)) (hn : s.h[n]? = some (a, .obj C fs)) (hf : f ∈ L) (hl : fs.length < 1000)
    (h : ∀ b, HS K E tz ⟨s.g, (b, .lst xs) :: s.h.set n (a, .obj C (putW f (.o b) fs))⟩ O) : HS K E (tSeq (sFld K ta tv f) tz) s O := fun B σ H D S q =>
  hv B σ H _ S fun b vs0 H1 e1 nb hb r => by
    obtain ⟨c1, c2, c3⟩ := cell_new S e1 nb hb r
    have S1 : Sat K B ⟨s.g, (b, .lst xs) :: s.h⟩ σ H1 := ⟨c1, S.gg.mono c3⟩
    refine ho _ B σ H1 _ S1 fun v H2 e2 r2 => ?_
    cases (show v = V.ref a from r2)
    have S2 := S1.mono e2
    have hn' : ((b, Cell.lst xs) :: s.h)[n + 1]? = some (a, .obj C fs) := hn
    obtain ⟨dx, vs, h1, h2, h3⟩ := obj_get (s := ⟨s.g, (b, .lst xs) :: s.h⟩) hn' S2
    have p := putF_W (f := f) (v := .ref b) (w := .o b) (M := msk H2 (ads ((b, Cell.lst xs) :: s.h) ++ B)) rfl h2 h3
    have k := cell_set (s := ⟨s.g, (b, .lst xs) :: s.h⟩) (c' := .obj C (putW f (.o b) fs)) (o := .ins C dx (putF f (.ref b) vs)) S2 hn' ⟨dx, _, rfl, p.1, p.2⟩
    refine ⟨a, C, dx, vs, rfl, h1, c.1, c.2.2 f hf, ?_, h b B σ _ D k.1 (q.step ((c2.trans (Fr.of e2)).trans k.2))⟩
    have e := congrArg List.length h2
    rw [List.length_map, List.length_map] at e
    omega
/-- o.f op= e, ints -/
theorem hs_fldaug {C a : Addr} {f : Str} {fs : List (Str × W)} {L : List Str} {i j : Int} {rd : V → V → Hp → VK → Prop} {z : W} (n : Nat) (c : ClsF K C L) (hv : Ev K tv s (wi j)) (ho : Ev K ta s (.o a)) (hn : s.h[n]? = some (a, .obj C fs)) (hf : f ∈ L) (l : fs.lookup f = some (wi i)) (hl : fs.length < 1000)
    (hr : RVs K s rd (wi i) (wi j) z) (h : O.n ⟨s.g, s.h.set n (a, .obj C (putW f z fs))⟩) : HS K E (sFldAug K ta tv rd f) s O := fun B σ H D S q =>
  ho B σ H _ S fun v H1 e1 r1 => by
    cases (show v = V.ref a from r1)
    have S1 := S.mono e1
    obtain ⟨dx, vs, h1, h2, h3⟩ := obj_get hn S1
    obtain ⟨u, hu, ru⟩ := look_W h2 h3 l
    refine ⟨a, C, dx, vs, u, rfl, h1, c.1, c.2.2 f hf, hu, hv B σ H1 _ S1 fun y H2 e2 r2 => hr B σ H2 u y _ (S1.mono e2) (ru.mono (msk_same e2)) r2 fun zv H3 e3 r3 => ?_⟩
    have S3 := (S1.mono e2).mono e3
    obtain ⟨dx', vs', g1, g2, g3⟩ := obj_get hn S3
    have p := putF_W (f := f) r3 g2 g3
    have k := cell_set (c' := .obj C (putW f z fs)) (o := .ins C dx' (putF f zv vs')) S3 hn ⟨dx', _, rfl, p.1, p.2⟩
    refine ⟨dx', vs', g1, ?_, q.n _ σ _ h k.1 ((Fr.of ((e1.trans e2).trans e3)).trans k.2)⟩
    have e := congrArg List.length g2
    rw [List.length_map, List.length_map] at e
    omega
theorem hq_fldaug {C a : Addr} {f : Str} {fs : List (Str × W)} {L : List Str} {i j : Int} {rd : V → V → Hp → VK → Prop} {z : W} (n : Nat) (c : ClsF K C L) (hv : Ev K tv s (wi j)) (ho : Ev K ta s (.o a)) (hn : s.h[n]? = some (a, .obj C fs)) (hf : f ∈ L) (l : fs.lookup f = some (wi i)) (hl : fs.length < 1000)
    (hr : RVs K s rd (wi i) (wi j) z) (h : HS K E tz ⟨s.g, s.h.set n (a, .obj C (putW f z fs))⟩ O) : HS K E (tSeq (sFldAug K ta tv rd f) tz) s O := fun B σ H D S q =>
  hs_fldaug (E := E) (O := { n := fun s' => s' = ⟨s.g, s.h.set n (a, .obj C (putW f z fs))⟩ }) n c hv ho hn hf l hl hr rfl B σ H _ S ⟨fun s' σ' H' e S' f' => by subst e; exact h B σ' H' D S' (q.step f'), fun _ _ _ _ z => z.elim, fun _ _ _ z => z.elim, fun _ _ _ z => z.elim, fun _ _ _ _ z => z.elim⟩
/-! by the field's place -/
theorem ev_fl {C a : Addr} {f : Str} {xs : List W} {L : List Str} (n i : Nat) (c : ClsF K C L) (ho : Ev K ta s (.o a)) (hn : s.h[n]? = some (a, obL C L xs)) (hi : fix f L = some i) (hx : xs[i]? = some w) : Ev K (tFld K ta f) s w :=
  ev_fld n c ho hn (fix_mem hi) (look_zip hi hx)
theorem hs_fl {C a : Addr} {f : Str} {xs : List W} {L : List Str} (n i : Nat) (c : ClsF K C L) (hv : Ev K tv s w) (ho : Ev K ta s (.o a)) (hn : s.h[n]? = some (a, obL C L xs)) (hi : fix f L = some i) {w0 : W} (hx : xs[i]? = some w0)
    (h : O.n ⟨s.g, s.h.set n (a, obL C L (xs.set i w))⟩) : HS K E (sFld K ta tv f) s O := hs_fld n c hv ho hn (fix_mem hi) (zip_lt c.2.1) (by rw [putW_zip hi (List.getElem?_eq_some_iff.mp hx).1]; exact h)
theorem hq_fl {C a : Addr} {f : Str} {xs : List W} {L : List Str} (n i : Nat) (c : ClsF K C L) (hv : Ev K tv s w) (ho : Ev K ta s (.o a)) (hn : s.h[n]? = some (a, obL C L xs)) (hi : fix f L = some i) {w0 : W} (hx : xs[i]? = some w0)
    (h : HS K E tz ⟨s.g, s.h.set n (a, obL C L (xs.set i w))⟩ O) : HS K E (tSeq (sFld K ta tv f) tz) s O := hq_fld n c hv ho hn (fix_mem hi) (zip_lt c.2.1) (by rw [putW_zip hi (List.getElem?_eq_some_iff.mp hx).1]; exact h)
theorem hs_flN {C a : Addr} {f : Str} {xs : List W} {L : List Str} (n i : Nat) (c : ClsF K C L) (hv : Ev K tv s w) (ho : Ev K ta s (.o a)) (hn : s.h[n]? = some (a, obL C L xs)) (hi : fix f L = some i) (hl : xs.length = i)
    (h : O.n ⟨s.g, s.h.set n (a, obL C L (xs ++ [w]))⟩) : HS K E (sFld K ta tv f) s O := hs_fld n c hv ho hn (fix_mem hi) (zip_lt c.2.1) (by subst hl; rw [putW_new hi]; exact h)
theorem hq_flN {C a : Addr} {f : Str} {xs : List W} {L : List Str} (n i : Nat) (c : ClsF K C L) (hv : Ev K tv s w) (ho : Ev K ta s (.o a)) (hn : s.h[n]? = some (a, obL C L xs)) (hi : fix f L = some i) (hl : xs.length = i)
    (h : HS K E tz ⟨s.g, s.h.set n (a, obL C L (xs ++ [w]))⟩ O) : HS K E (tSeq (sFld K ta tv f) tz) s O := hq_fld n c hv ho hn (fix_mem hi) (zip_lt c.2.1) (by subst hl; rw [putW_new hi]; exact h)
theorem hq_flF {C a : Addr} {f : Str} {xs : List W} {L : List Str} {ys : List W} (n i : Nat) (c : ClsF K C L) (hv : EvF K tv s ys) (ho : ∀ Δ, Ev K ta ⟨s.g, Δ⟩ (.o a)) (hn : s.h[n]? = some (a, obL C L xs)) (hi : fix f L = some i) {w0 : W} (hx : xs[i]? = some w0)
    (h : ∀ b, HS K E tz ⟨s.g, (b, .lst ys) :: s.h.set n (a, obL C L (xs.set i (.o b)))⟩ O) : HS K E (tSeq (sFld K ta tv f) tz) s O := hq_fldF n c hv ho hn (fix_mem hi) (zip_lt c.2.1) (fun b => by rw [putW_zip hi (List.getElem?_eq_some_iff.mp hx).1]; exact h b)
theorem hq_flFN {C a : Addr} {f : Str} {xs : List W} {L : List Str} {ys : List W} (n i : Nat) (c : ClsF K C L) (hv : EvF K tv s ys) (ho : ∀ Δ, Ev K ta ⟨s.g, Δ⟩ (.o a)) (hn : s.h[n]? = some (a, obL C L xs)) (hi : fix f L = some i) (hl : xs.length = i)
    (h : ∀ b, HS K E tz ⟨s.g, (b, .lst ys) :: s.h.set n (a, obL C L (xs ++ [.o b]))⟩ O) : HS K E (tSeq (sFld K ta tv f) tz) s O := hq_fldF n c hv ho hn (fix_mem hi) (zip_lt c.2.1) (fun b => by subst hl; rw [putW_new hi]; exact h b)
theorem hs_flA {C a : Addr} {f : Str} {xs : List W} {L : List Str} {k j : Int} {rd : V → V → Hp → VK → Prop} {z : W} (n i : Nat) (c : ClsF K C L) (hv : Ev K tv s (wi j)) (ho : Ev K ta s (.o a)) (hn : s.h[n]? = some (a, obL C L xs)) (hi : fix f L = some i) (hx : xs[i]? = some (wi k))
    (hr : RVs K s rd (wi k) (wi j) z) (h : O.n ⟨s.g, s.h.set n (a, obL C L (xs.set i z))⟩) : HS K E (sFldAug K ta tv rd f) s O :=
  hs_fldaug n c hv ho hn (fix_mem hi) (look_zip hi hx) (zip_lt c.2.1) hr (by rw [putW_zip hi (List.getElem?_eq_some_iff.mp hx).1]; exact h)
theorem hq_flA {C a : Addr} {f : Str} {xs : List W} {L : List Str} {k j : Int} {rd : V → V → Hp → VK → Prop} {z : W} (n i : Nat) (c : ClsF K C L) (hv : Ev K tv s (wi j)) (ho : Ev K ta s (.o a)) (hn : s.h[n]? = some (a, obL C L xs)) (hi : fix f L = some i) (hx : xs[i]? = some (wi k))
    (hr : RVs K s rd (wi k) (wi j) z) (h : HS K E tz ⟨s.g, s.h.set n (a, obL C L (xs.set i z))⟩ O) : HS K E (tSeq (sFldAug K ta tv rd f) tz) s O :=
  hq_fldaug n c hv ho hn (fix_mem hi) (look_zip hi hx) (zip_lt c.2.1) hr (by rw [putW_zip hi (List.getElem?_eq_some_iff.mp hx).1]; exact h)
theorem rv_addR {i j : Int} : RVs K s rAdd (wi i) (wi j) (wi (i + j)) := fun B σ H v u Q S a b q => by
  cases rw_i a; cases rw_i b
  exact ⟨i, j, rfl, rfl, q _ H same_refl ri⟩
theorem rv_subR {i j : Int} : RVs K s rSub (wi i) (wi j) (wi (i - j)) := fun B σ H v u Q S a b q => by
  cases rw_i a; cases rw_i b
  exact ⟨i, j, rfl, rfl, q _ H same_refl ri⟩
theorem rep_map {α β : Type} (f : α → β) (n : Nat) (xs : List α) : (List.replicate n (xs.map f)).flatten = ((List.replicate n xs).flatten).map f := by
  rw [List.map_flatten, List.map_replicate]
theorem rws_rep {M : Hp} {vs : List V} {xs : List W} (h : RWs K M vs xs) : ∀ n, RWs K M (List.replicate n vs).flatten (List.replicate n xs).flatten
  | 0 => .nil
  | n + 1 => by
    rw [List.replicate_succ, List.replicate_succ, List.flatten_cons, List.flatten_cons]
    exact h.append (rws_rep h n)
theorem rvf_rep {ds : List PyData} {k : Int} (h0 : -(2 ^ 63) ≤ k) (h1 : k < 2 ^ 63) (hz : ds.length * k.toNat ≤ sizeLine) : RVF K s rMulU (wl ds) (wi k) (((List.replicate k.toNat ds).flatten).map .d) := fun B σ H v u Q S a b q => by
  cases rw_i b
  cases a with
  | lst hs ha =>
    rename_i p vs
    have hl : vs.length = ds.length := by have := (dpa_rws ha).len; rw [List.length_map] at this; exact this
    have r := rws_rep (dpa_rws ha) k.toNat
    rw [rep_map] at r
    refine .inr ⟨p, k, vs, rfl, rfl, msk_sub _ _ hs, h0, h1, by rw [hl]; exact hz, fun a na => ?_⟩
    exact q a _ _ (same_new na) na upd_same (new_l' r na)
theorem rvf_cat {xs ys : List W} (l1 : LV s x xs) (l2 : LV s y ys) (hz : xs.length + ys.length ≤ sizeLine) (hp1 : ∀ ns, x ≠ .sc ns) (hp2 : ∀ ns, y ≠ .sc ns) : RVF K s rAddU x y (xs ++ ys) := by
  have pl : ∀ {w : W} {zs : List W}, LV s w zs → (∀ ns, w ≠ .sc ns) → ∀ {B σ H} {v : V}, Sat K B s σ H → RW K (msk H (ads s.h ++ B)) v w → ∃ a vs, v = .ref a ∧ H a = some (.lst vs) ∧ RWs K (msk H (ads s.h ++ B)) vs zs := by
    intro w zs l hp B σ H v S q
    rcases l with ⟨ds, rfl, rfl⟩ | ⟨a, rfl, m⟩ | ⟨ns, rfl, rfl⟩
    · cases q with
      | lst hs ha => exact ⟨_, _, rfl, msk_sub _ _ hs, dpa_rws ha⟩
    · cases q
      obtain ⟨vs, e, r⟩ := S.hh.cell _ m
      exact ⟨a, vs, rfl, e, r⟩
    · exact absurd rfl (hp ns)
  intro B σ H v u Q S a b q
  obtain ⟨p1, vs1, rfl, h1, r1⟩ := pl l1 hp1 S a
  obtain ⟨p2, vs2, rfl, h2, r2⟩ := pl l2 hp2 S b
  refine .inr (.inr ⟨p1, p2, vs1, vs2, rfl, rfl, h1, h2, by rw [r1.len, r2.len]; exact hz, fun a na => ?_⟩)
  exact q a _ _ (same_new na) na upd_same (new_l' (r1.append r2) na)
end
/-! ### methods, new objects -/
def tMethS (C : Addr) (m : Str) (sp : Sp) (E : L2.St → XK) (ta : TE) (t : TA) : TE := fun σ H Q => ta σ H fun x H1 => ∃ a dx fs, x = .ref a ∧ H1 a = some (.ins C dx fs) ∧ fs.lookup m = none ∧
  t σ H1 fun vs H2 => sp (x :: vs) H2 Q (E σ)
def tMakeS (C : Addr) (sp : Sp) (E : L2.St → XK) (t : TA) : TE := fun σ H Q => t σ H fun vs H1 => ∀ x dx, H1 x = none → H1 dx = none → dx ≠ x →
  sp (.ref x :: vs) (upd (upd H1 dx (.own x)) x (.ins C dx [])) (fun v H2 => v = .non ∧ Q (.ref x) H2) (E σ)
def KnM (P : Program) (w : World) (K : PySem.W.Frag) (mg : Str → Option Value) (base : Heap) (CX : CXT) (k : Nat) (C : Addr) (m : Str) (ps : List Str) (t : Tr) : Prop :=
  ∃ f fd, FnOk P w K mg base CX k f fd ps (spOf K t) ∧ Meth K C m f ∧ Binds K fd ps []
def KnI (P : Program) (w : World) (K : PySem.W.Frag) (mg : Str → Option Value) (base : Heap) (CX : CXT) (k : Nat) (x : Str) (C : Addr) (ps : List Str) (t : Tr) : Prop :=
  ∃ f fd, FnOk P w K mg base CX k f fd ps (spOf K t) ∧ Mk K C f ∧ Binds K fd ps [] ∧ mg x = some (.ref C)
section
variable {X : Cx} {CX : CXT} {k j : Nat} {f C : Addr} {fd : FuncData} {ps : List Str} {sp : Sp} {E : L2.St → XK} {x m : Str} {p pos apos : Pos} {e o : Expr} {es : List Expr} {ta : TE} {t : TA} {tr : Tr} {Wv : WX}
variable {P : Program} {w : World} {K : PySem.W.Frag} {mg : Str → Option Value} {base : Heap} {A : Around}
theorem pe_methS {pl : Sem Bool} (he : PE X o ta) (c : Cls X.K C) (hm : Meth X.K C m f) (F : FnOk X.prog X.w X.K X.mg X.base CX k f fd ps sp) (hr : Room k X.A) (hb : Binds X.K fd ps []) (hx : ∀ σ, PassesAt CX X σ (E σ)) (ha : PA X (e :: es) t)
    (hst : starEach (e :: es) X.env = (false, eval e X.env) :: starEach es X.env := by rfl) (hpl : (backTo pos (starEach es X.env)).any (·.1) = false := by rfl)
    (ht : eval (.Call (.Attribute o m apos) (e :: es) [] pos) X.env = (do
      let ov ← eval o X.env
      standAt apos.atName
      let (f, first) ← holding [ov] (getMethod ov m pl)
      callWith pos f first (backTo pos (starEach (e :: es) X.env)) (backToKw pos (keywordEach [] X.env))) := by rfl) :
    PE X (.Call (.Attribute o m apos) (e :: es) [] pos) (tMethS C m sp E ta t) := by
  refine ⟨fun pins s σ H Q I h => ?_⟩
  refine PySem.W.methodCall_KW (pl := pl) (thn (he.run pins s σ H _ I h) fun u s1 ⟨x, H1, I1, rx, a, dx, fs, ex, ea, l, q⟩ => ?_) ht
  subst ex
  obtain rfl : u = Value.ref a := rx
  refine getmeth_ok I1 ea c hm l ?_
  refine PySem.W.callWith_K (first := [.ref a]) (h₀ := X.base) I.ok.mod.kin hm.kp (thn (ha.run pos pins s1 σ H1 _ I1 q) fun us s2 ⟨vs, H2, I2, r, q2⟩ => ⟨I2.kIn, ?_⟩) hst hpl
  exact run_fnS (us := .ref a :: us) (vs := .ref a :: vs) F hr hb (hx σ) I2 (.cons rfl r) q2
theorem pe_methS0 {pl : Sem Bool} (he : PE X o ta) (c : Cls X.K C) (hm : Meth X.K C m f) (F : FnOk X.prog X.w X.K X.mg X.base CX k f fd ps sp) (hr : Room k X.A) (hb : Binds X.K fd ps []) (hx : ∀ σ, PassesAt CX X σ (E σ))
    (ht : eval (.Call (.Attribute o m apos) [] [] pos) X.env = (do
      let ov ← eval o X.env
      standAt apos.atName
      let (f, first) ← holding [ov] (getMethod ov m pl)
      callWith pos f first (backTo pos (starEach [] X.env)) (backToKw pos (keywordEach [] X.env))) := by rfl) :
    PE X (.Call (.Attribute o m apos) [] [] pos) (tMethS C m sp E ta tNil) := by
  refine ⟨fun pins s σ H Q I h => ?_⟩
  refine PySem.W.methodCall_KW (pl := pl) (thn (he.run pins s σ H _ I h) fun u s1 ⟨x, H1, I1, rx, a, dx, fs, ex, ea, l, q⟩ => ?_) ht
  subst ex
  obtain rfl : u = Value.ref a := rx
  refine getmeth_ok I1 ea c hm l ?_
  exact PySem.W.callWith_K0 (first := [.ref a]) I1.kIn hm.kp (run_fnS (us := [.ref a]) (vs := [.ref a]) F hr hb (hx σ) I1 (.cons rfl .nil) q)
theorem run_makeS {pins : List (Addr × Obj)} {σ : L2.St} {H : Hp} {s : Shared} {Q : VK} {us : List Value} {vs : List V} (M : Mk X.K C f) (F : FnOk X.prog X.w X.K X.mg X.base CX k f fd ps sp) (hr : Room (k + 1) X.A) (hb : Binds X.K fd ps [])
    (hx : ∀ σ, PassesAt CX X σ (E σ)) (I : Inv X pins σ H s) (r : Vals vs us)
    (h : ∀ x dx, H x = none → H dx = none → dx ≠ x → sp (.ref x :: vs) (upd (upd H dx (.own x)) x (.ins C dx [])) (fun v H2 => v = .non ∧ Q (.ref x) H2) (E σ)) :
    wpAny (model X.prog X.w) X.A (call (.ref C) us) (EP X pins σ Q) X.xe s := by
  have hq := h (s.heap.objs.size + 1) s.heap.objs.size (I.hok.fresh (Nat.le_succ _)) (I.hok.fresh (Nat.le_refl _)) (Nat.ne_of_lt (Nat.lt_succ_self _))
  have I2 := Inv.made (C := C) I
  have r2 : Vals (V.ref (s.heap.objs.size + 1) :: vs) (Value.ref (s.heap.objs.size + 1) :: us) := .cons rfl r
  have hl : (Value.ref (s.heap.objs.size + 1) :: us ++ ([] : List Value)).length = ps.length := by
    have e := r2.length
    rw [F.len _ _ _ _ hq] at e
    rw [List.append_nil]
    exact e.symm
  have hbb := hb _ (Value.ref (s.heap.objs.size + 1) :: us) I2.kIn hl
  rw [List.append_nil] at hbb
  refine wpAny_call (make_map (f := f) I.kIn M.makes M.init (beq_iff_eq.mp M.fn) (codeAny_mono (F.run _ X.stack _ _ ⟨Value.ref (s.heap.objs.size + 1) :: us, []⟩ (Value.ref (s.heap.objs.size + 1) :: us) _ _ (E σ) (hr.make C us [])
    (I2.env0.make C us []) hbb r2 hq) fun r s' hq' => ?_))
  cases r with
  | error e => exact hx σ pins _ _ e s' I2 hq'
  | ok fl =>
    cases fl with
    | ret u =>
      obtain ⟨v, H', I3, rv, ev, q3⟩ := I2.after hq'
      subst ev
      exact ⟨rv, ⟨V.ref (s.heap.objs.size + 1), H', I3, rfl, q3⟩⟩
    | next => exact False.elim hq'
    | brk => exact False.elim hq'
    | cont => exact False.elim hq'
theorem pe_makeS (M : Mk X.K C f) (F : FnOk X.prog X.w X.K X.mg X.base CX k f fd ps sp) (hr : Room (k + 1) X.A) (hg : Gl X x) (hm : X.mg x = some (.ref C)) (hb : Binds X.K fd ps []) (hx : ∀ σ, PassesAt CX X σ (E σ))
    (ha : PA X (e :: es) t) (hdb : (x == ("__debug__" : Str)) = false := by decide) (he : starEach (e :: es) X.env = (false, eval e X.env) :: starEach es X.env := by rfl) (hpl : (backTo pos (starEach es X.env)).any (·.1) = false := by rfl) :
    PE X (.Call (.Name x p) (e :: es) [] pos) (tMakeS C sp E t) := by
  refine ⟨fun pins s σ H Q I h => ?_⟩
  refine wpAny_Call_Name_kw (ld_glob I hg hm ?_ hdb)
  refine PySem.W.callWith_K (h₀ := X.base) I.ok.mod.kin M.kp (thn (ha.run pos pins s σ H _ I h) fun us s1 ⟨vs, H1, I1, r, q⟩ => ⟨I1.kIn, ?_⟩) he hpl
  exact run_makeS M F hr hb hx I1 r q
theorem pe_makeS0 (M : Mk X.K C f) (F : FnOk X.prog X.w X.K X.mg X.base CX k f fd ps sp) (hr : Room (k + 1) X.A) (hg : Gl X x) (hm : X.mg x = some (.ref C)) (hb : Binds X.K fd ps []) (hx : ∀ σ, PassesAt CX X σ (E σ))
    (hdb : (x == ("__debug__" : Str)) = false := by decide) : PE X (.Call (.Name x p) [] [] pos) (tMakeS C sp E tNil) := by
  refine ⟨fun pins s σ H Q I h => ?_⟩
  refine wpAny_Call_Name_kw (ld_glob I hg hm ?_ hdb)
  exact PySem.W.callWith_K0 I.kIn M.kp (run_makeS (us := []) M F hr hb hx I .nil h)
/-! by what is known -/
theorem pe_kmS {pl : Sem Bool} {L : List Str} (c : ClsF K C L) (h : KnM P w K mg base (L2.CX P w) k C m ps tr) (hr : Room j A) (hj : k ≤ j) (he : PE X o ta) (ha : PA X (e :: es) t) (tk : Takes X Wv) (hA : X.A = A := by rfl) (hX : At X P w K mg base := by exact ⟨rfl, rfl, rfl, rfl, rfl⟩)
    (hst : starEach (e :: es) X.env = (false, eval e X.env) :: starEach es X.env := by rfl) (hpl : (backTo pos (starEach es X.env)).any (·.1) = false := by rfl)
    (ht : eval (.Call (.Attribute o m apos) (e :: es) [] pos) X.env = (do
      let ov ← eval o X.env
      standAt apos.atName
      let (f, first) ← holding [ov] (getMethod ov m pl)
      callWith pos f first (backTo pos (starEach (e :: es) X.env)) (backToKw pos (keywordEach [] X.env))) := by rfl) :
    PE X (.Call (.Attribute o m apos) (e :: es) [] pos) (tMethS C m (spOf K tr) (WE Wv) ta t) := by
  obtain ⟨f, fd, F, hm, hb⟩ := h
  obtain ⟨rfl, rfl, rfl, rfl, rfl⟩ := hX
  subst hA
  exact pe_methS (pl := pl) he c.1 hm F (hr.mono hj) hb (fun σ => passAt tk σ) ha hst hpl ht
theorem pe_kmS0 {pl : Sem Bool} {L : List Str} (c : ClsF K C L) (h : KnM P w K mg base (L2.CX P w) k C m ps tr) (hr : Room j A) (hj : k ≤ j) (he : PE X o ta) (tk : Takes X Wv) (hA : X.A = A := by rfl) (hX : At X P w K mg base := by exact ⟨rfl, rfl, rfl, rfl, rfl⟩)
    (ht : eval (.Call (.Attribute o m apos) [] [] pos) X.env = (do
      let ov ← eval o X.env
      standAt apos.atName
      let (f, first) ← holding [ov] (getMethod ov m pl)
      callWith pos f first (backTo pos (starEach [] X.env)) (backToKw pos (keywordEach [] X.env))) := by rfl) :
    PE X (.Call (.Attribute o m apos) [] [] pos) (tMethS C m (spOf K tr) (WE Wv) ta tNil) := by
  obtain ⟨f, fd, F, hm, hb⟩ := h
  obtain ⟨rfl, rfl, rfl, rfl, rfl⟩ := hX
  subst hA
  exact pe_methS0 (pl := pl) he c.1 hm F (hr.mono hj) hb (fun σ => passAt tk σ) ht
theorem pe_kiS (h : KnI P w K mg base (L2.CX P w) k x C ps tr) (hr : Room j A) (hj : k + 1 ≤ j) (ha : PA X (e :: es) t) (tk : Takes X Wv) (hA : X.A = A := by rfl) (hX : At X P w K mg base := by exact ⟨rfl, rfl, rfl, rfl, rfl⟩) (hg : Gl X x := by rfl)
    (hdb : (x == ("__debug__" : Str)) = false := by decide) (he : starEach (e :: es) X.env = (false, eval e X.env) :: starEach es X.env := by rfl) (hpl : (backTo pos (starEach es X.env)).any (·.1) = false := by rfl) :
    PE X (.Call (.Name x p) (e :: es) [] pos) (tMakeS C (spOf K tr) (WE Wv) t) := by
  obtain ⟨f, fd, F, M, hb, hm⟩ := h
  obtain ⟨rfl, rfl, rfl, rfl, rfl⟩ := hX
  subst hA
  exact pe_makeS M F (hr.mono hj) hg hm hb (fun σ => passAt tk σ) ha hdb he hpl
theorem pe_kiS0 (h : KnI P w K mg base (L2.CX P w) k x C ps tr) (hr : Room j A) (hj : k + 1 ≤ j) (tk : Takes X Wv) (hA : X.A = A := by rfl) (hX : At X P w K mg base := by exact ⟨rfl, rfl, rfl, rfl, rfl⟩) (hg : Gl X x := by rfl)
    (hdb : (x == ("__debug__" : Str)) = false := by decide) : PE X (.Call (.Name x p) [] [] pos) (tMakeS C (spOf K tr) (WE Wv) tNil) := by
  obtain ⟨f, fd, F, M, hb, hm⟩ := h
  obtain ⟨rfl, rfl, rfl, rfl, rfl⟩ := hX
  subst hA
  exact pe_makeS0 M F (hr.mono hj) hg hm hb (fun σ => passAt tk σ) hdb
theorem pe_fldK (K : PySem.W.Frag) {ff : Str} {fpos : Pos} (he : PE X e ta) (hK : X.K = K := by rfl) (hb : attributeBase e ff X.env (eval e X.env) = eval e X.env := by rfl) : PE X (.Attribute e ff fpos) (tFld K ta ff) := hK ▸ pe_fld he hb
theorem ps_fldK (K : PySem.W.Frag) {value : Expr} {tv : TE} {ff : Str} {pos' : Pos} (ha : PE X o ta) (hv : PE X value tv) (hK : X.K = K := by rfl) (hs : swapsWith value (some (.Attribute o ff pos')) pos.line X.env = pure false := by rfl) : PS X (.Assign [.Attribute o ff pos'] value pos) (sFld K ta tv ff) := hK ▸ ps_fld ha hv hs
theorem ps_fldaugK (K : PySem.W.Frag) {op : Operator} {rd : V → V → Hp → VK → Prop} {value : Expr} {tv : TE} {ff : Str} {tpos : Pos} (ha : PE X o ta) (hv : PE X value tv) (hop : InOp X op rd) (hK : X.K = K := by rfl) : PS X (.AugAssign (.Attribute o ff tpos) op value pos) (sFldAug K ta tv rd ff) := hK ▸ ps_fldaug ha hv hop
end
section
variable {P : Program} {w : World} {K : PySem.W.Frag} {mg : Str → Option Value} {base : Heap}
theorem km_ofX {q : Str} {C : Addr} {m : Str} {st : Stmt} {f : Addr} {fd : FuncData} {N ps : List Str} {k : Nat} {t : Tr} (F : Fun K m q st f fd) (hm : Meth K C m f) (hb : Binds K fd ps []) (S : FnScope N ps (defScope st)) (len : ∀ xs Δ k ex, t xs Δ k ex → xs.length = ps.length)
    (h : ∀ (cdv : Value) (A : Around) (outer : List Env) (s : Shared) (H : Hp) (E : XK), Room k (A.deeper (envOfC q (defScope st) s.heap.objs.size f cdv)) →
      ∃ ts, PSs (cxOf (L2.CX P w) P w K mg base N q (defScope st) f cdv A outer s H E) (defBody st) ts ∧ ∀ xs Δ k ex, t xs Δ k ex → HS K (fun _ => E) ts ⟨xs.map some ++ List.replicate (N.length - xs.length) none, Δ⟩ { n := fun s' => k wn s'.h, r := k, x := fun c s' => ex c s'.h }) :
    KnM P w K mg base (L2.CX P w) (k + 1) C m ps t := ⟨f, fd, fn_okX F S len h, hm, hb⟩
theorem ki_ofX {q : Str} {x : Str} {C : Addr} {m : Str} {st : Stmt} {f : Addr} {fd : FuncData} {N ps : List Str} {k : Nat} {t : Tr} (F : Fun K m q st f fd) (hm : Mk K C f) (hg : mg x = some (.ref C)) (hb : Binds K fd ps []) (S : FnScope N ps (defScope st)) (len : ∀ xs Δ k ex, t xs Δ k ex → xs.length = ps.length)
    (h : ∀ (cdv : Value) (A : Around) (outer : List Env) (s : Shared) (H : Hp) (E : XK), Room k (A.deeper (envOfC q (defScope st) s.heap.objs.size f cdv)) →
      ∃ ts, PSs (cxOf (L2.CX P w) P w K mg base N q (defScope st) f cdv A outer s H E) (defBody st) ts ∧ ∀ xs Δ k ex, t xs Δ k ex → HS K (fun _ => E) ts ⟨xs.map some ++ List.replicate (N.length - xs.length) none, Δ⟩ { n := fun s' => k wn s'.h, r := k, x := fun c s' => ex c s'.h }) :
    KnI P w K mg base (L2.CX P w) (k + 1) x C ps t := ⟨f, fd, fn_okX F S len h, hm, hb, hg⟩
end
section
variable {K : PySem.W.Frag} {s s1 s' : S} {ta tb te tl tv to : TE} {tr : TA} {x y z w : W} {B : List Addr} {H H' : Hp} {σ : L2.St} {E : L2.St → XK} {O : Out} {sp : Tr} {C a : Addr} {m : Str}
theorem obj_no {fs : List (Str × W)} {n : Nat} (hn : s.h[n]? = some (a, .obj C fs)) (hm : fs.lookup m = none) (S : Sat K B s σ H) : ∃ dx vs, H a = some (.ins C dx vs) ∧ vs.lookup m = none := by
  obtain ⟨dx, vs, h1, h2, h3⟩ := obj_get hn S
  exact ⟨dx, vs, h1, look_none h2 hm⟩
theorem evg_meth (bs : List Bool) {n : Nat} {fs : List (Str × W)} {xs : List W} {k : W → Del → Prop} {ex : Value → Del → Prop} (ho : Ev K ta s (.o a)) (hn : s.h[n]? = some (a, .obj C fs)) (hm : fs.lookup m = none) (h : EvAW K tr s xs)
    (ht : sp (.o a :: xs) (pick bs s.h) (fun w Δ' => k w (put bs Δ' s.h)) (fun c Δ' => ex c (put bs Δ' s.h))) : EvG K E (tMethS C m (spOf K sp) E ta tr) s k ex := fun B σ H Q S q qx =>
  ho B σ H _ S fun v H1 e1 r1 => by
    cases (show v = V.ref a from r1)
    have S1 := S.mono e1
    obtain ⟨dx, vs, h1, h2⟩ := obj_no hn hm S1
    refine ⟨a, dx, vs, rfl, h1, h2, h B σ H1 _ S1 fun us H2 S2 f2 r2 => ?_⟩
    exact callG bs S2 (.cons (w := .o a) rfl r2) ht (fun w Δ' v H3 kk S3 f3 r3 => q w _ v H3 kk S3 (((Fr.of e1).trans f2).trans f3) r3) fun c Δ' H3 xx S3 f3 => qx c _ H3 xx S3 (((Fr.of e1).trans f2).trans f3)
theorem evw_meth (bs : List Bool) {n : Nat} {fs : List (Str × W)} {xs : List W} (ho : Ev K ta s (.o a)) (hn : s.h[n]? = some (a, .obj C fs)) (hm : fs.lookup m = none) (h : EvAW K tr s xs)
    (ht : sp (.o a :: xs) (pick bs s.h) (fun w' Δ' => w' = w ∧ Δ' = pick bs s.h) (fun _ _ => False)) : EvW K (tMethS C m (spOf K sp) E ta tr) s w := fun B σ H Q S q =>
  ho B σ H _ S fun v H1 e1 r1 => by
    cases (show v = V.ref a from r1)
    have S1 := S.mono e1
    obtain ⟨dx, vs, h1, h2⟩ := obj_no hn hm S1
    refine ⟨a, dx, vs, rfl, h1, h2, h B σ H1 _ S1 fun us H2 S2 f2 r2 => ?_⟩
    exact callG bs S2 (.cons (w := .o a) rfl r2) ht (fun w' Δ' v H3 kk S3 f3 r3 => by
      obtain ⟨rfl, rfl⟩ := kk
      rw [put_pick] at S3 f3 r3
      exact q v H3 S3 (((Fr.of e1).trans f2).trans f3) r3) fun c Δ' H3 xx S3 f3 => xx.elim
/-- a method that hands back a new list of flat things: data -/
theorem evw_methF (bs : List Bool) {n : Nat} {fs : List (Str × W)} {xs : List W} {ds : List PyData} (ho : Ev K ta s (.o a)) (hn : s.h[n]? = some (a, .obj C fs)) (hm : fs.lookup m = none) (h : EvAW K tr s xs)
    (ht : sp (.o a :: xs) (pick bs s.h) (fun w' Δ' => ∃ b, w' = .o b ∧ Δ' = (b, .lst (ds.map .d)) :: pick bs s.h) (fun _ _ => False)) : EvW K (tMethS C m (spOf K sp) E ta tr) s (wl ds) := fun B σ H Q S q =>
  ho B σ H _ S fun v H1 e1 r1 => by
    cases (show v = V.ref a from r1)
    have S1 := S.mono e1
    obtain ⟨dx, vs, h1, h2⟩ := obj_no hn hm S1
    refine ⟨a, dx, vs, rfl, h1, h2, h B σ H1 _ S1 fun us H2 S2 f2 r2 => ?_⟩
    have P0 := perm_pick bs s.h
    have S0 : SatH K B (pick bs s.h ++ rest bs s.h) H2 := sath_perm S2.hh P0
    have m0 : msk H2 (ads s.h ++ B) = msk H2 (ads (pick bs s.h) ++ (ads (rest bs s.h) ++ B)) := msk_mem fun b => by
      rw [← List.append_assoc, ← ads_app, List.mem_append, List.mem_append, (ads_perm P0).mem_iff]
    refine ⟨ads (rest bs s.h) ++ B, .o a :: xs, pick bs s.h, _, _, sath_left S0, by rw [← m0]; exact .cons rfl r2, ht, ?_, fun _ _ _ z => z.elim⟩
    rintro w' Δ' v H3 ⟨b, rfl, rfl⟩ h3 f3 r3
    have fj : Fr s.h H2 ((b, .lst (ds.map .d)) :: s.h) H3 := fr_perm (fr_from (fr_join (Δ2 := rest bs s.h) f3) P0.symm) ((P0.symm.cons _))
    have sj : SatH K B ((b, .lst (ds.map .d)) :: s.h) H3 := sath_perm (sath_join S0 h3 f3) (P0.symm.cons _)
    have Sj : Sat K B ⟨s.g, [(b, .lst (ds.map .d))] ++ s.h⟩ σ H3 := ⟨sj, S2.gg.mono fj.msk⟩
    have rr := share1 (s := s) (v := v) Sj r3
    have sub : Same (msk H3 (ads ((b, Cell.lst (ds.map .d)) :: s.h) ++ B)) (msk H3 (ads s.h ++ B)) := msk_less fun b hb => List.mem_cons_of_mem _ hb
    refine q v H3 ⟨⟨fun p hp => (sj.cell p (List.mem_cons_of_mem _ hp)).mono sub, (List.nodup_cons.mp sj.nd).2, sj.bt, (fun b hb z => sj.db b hb (List.mem_cons_of_mem _ z)), sj.nt⟩, S2.gg.mono ?_⟩ ?_ rr
    · exact fun c o e => sub _ _ (fj.msk c o e)
    · refine ((Fr.of e1).trans f2).trans fun c o nc e => ?_
      obtain ⟨g1, g2⟩ := fj c o nc e
      exact ⟨nc, g2⟩
theorem evg_mt (bs : List Bool) (n : Nat) {L : List Str} {ys xs : List W} {k : W → Del → Prop} {ex : Value → Del → Prop} (ho : Ev K ta s (.o a)) (hn : s.h[n]? = some (a, obL C L ys)) (hm : m ∉ L) (h : EvAW K tr s xs)
    (ht : sp (.o a :: xs) (pick bs s.h) (fun w Δ' => k w (put bs Δ' s.h)) (fun c Δ' => ex c (put bs Δ' s.h))) : EvG K E (tMethS C m (spOf K sp) E ta tr) s k ex := evg_meth bs ho hn (look_zip_none hm) h ht
theorem evw_mt (bs : List Bool) (n : Nat) {L : List Str} {ys xs : List W} (ho : Ev K ta s (.o a)) (hn : s.h[n]? = some (a, obL C L ys)) (hm : m ∉ L) (h : EvAW K tr s xs)
    (ht : sp (.o a :: xs) (pick bs s.h) (fun w' Δ' => w' = w ∧ Δ' = pick bs s.h) (fun _ _ => False)) : EvW K (tMethS C m (spOf K sp) E ta tr) s w := evw_meth bs ho hn (look_zip_none hm) h ht
theorem evw_mtF (bs : List Bool) (n : Nat) {L : List Str} {ys xs : List W} {ds : List PyData} (ho : Ev K ta s (.o a)) (hn : s.h[n]? = some (a, obL C L ys)) (hm : m ∉ L) (h : EvAW K tr s xs)
    (ht : sp (.o a :: xs) (pick bs s.h) (fun w' Δ' => ∃ b, w' = .o b ∧ Δ' = (b, .lst (ds.map .d)) :: pick bs s.h) (fun _ _ => False)) : EvW K (tMethS C m (spOf K sp) E ta tr) s (wl ds) := evw_methF bs ho hn (look_zip_none hm) h ht
/-- .. that raises nothing there -/
theorem evg_mt0 {E' : L2.St → XK} (bs : List Bool) (n : Nat) {L : List Str} {ys xs : List W} {k : W → Del → Prop} {ex : Value → Del → Prop} (ho : Ev K ta s (.o a)) (hn : s.h[n]? = some (a, obL C L ys)) (hm : m ∉ L) (h : EvAW K tr s xs)
    (ht : sp (.o a :: xs) (pick bs s.h) (fun w Δ' => k w (put bs Δ' s.h)) (fun _ _ => False)) : EvG K E (tMethS C m (spOf K sp) E' ta tr) s k ex := fun B σ H Q S q _ =>
  evg_mt (E := E') (ex := fun _ _ => False) bs n ho hn hm h ht B σ H Q S q fun _ _ _ z => z.elim
theorem evg_callS0 {E' : L2.St → XK} (bs : List Bool) {xs : List W} {k : W → Del → Prop} {ex : Value → Del → Prop} (h : EvAW K tr s xs) (ht : sp xs (pick bs s.h) (fun w Δ' => k w (put bs Δ' s.h)) (fun _ _ => False)) : EvG K E (tCallS (spOf K sp) E' tr) s k ex := fun B σ H Q S q _ =>
  evg_call (E := E') (ex := fun _ _ => False) bs h ht B σ H Q S q fun _ _ _ z => z.elim
/-- a method of what an expression has just made -/
theorem evg_mtG {k : W → Del → Prop} {ex : Value → Del → Prop} (ho : EvG K E ta s (fun (w : W) (Δ1 : Del) => ∃ a, w = .o a ∧ ∃ (L : List Str) (ys : List W) (n : Nat) (bs : List Bool), Δ1[n]? = some (a, obL C L ys) ∧ m ∉ L ∧ sp [.o a] (pick bs Δ1) (fun w Δ' => k w (put bs Δ' Δ1)) (fun c Δ' => ex c (put bs Δ' Δ1))) ex) : EvG K E (tMethS C m (spOf K sp) E ta tNil) s k ex := fun B σ H Q S q qx =>
  ho B σ H _ S (fun w Δ1 v H1 kk S1 f1 r1 => by
    obtain ⟨a, rfl, L, ys, n, bs, hn, hm, ht⟩ := kk
    cases (show v = V.ref a from r1)
    obtain ⟨dx, vs, h1, h2⟩ := obj_no (s := ⟨s.g, Δ1⟩) hn (look_zip_none hm) S1
    refine ⟨a, dx, vs, rfl, h1, h2, ?_⟩
    exact callG (s := ⟨s.g, Δ1⟩) bs S1 (.cons (w := .o a) rfl .nil) ht (fun w Δ' v H3 kk S3 f3 r3 => q w _ v H3 kk S3 (f1.trans f3) r3) fun c Δ' H3 xx S3 f3 => qx c _ H3 xx S3 (f1.trans f3)) qx
/-- a new object -/
theorem evg_make {xs : List W} {k : W → Del → Prop} {ex : Value → Del → Prop} (h : EvAW K tr s xs) (ht : ∀ b, b ∉ ads s.h → sp (.o b :: xs) [(b, .obj C [])] (fun w Δ' => w = wn ∧ k (.o b) (Δ' ++ s.h)) (fun c Δ' => ex c (Δ' ++ s.h))) : EvG K E (tMakeS C (spOf K sp) E tr) s k ex := fun B σ H Q S q qx =>
  h B σ H _ S fun us H1 S1 f1 r1 b dx nb nd ne => by
    have e0 : Same H1 (upd (upd H1 dx (.own b)) b (.ins C dx [])) := fun c o e => by
      rw [upd_ne (ne_of_none e nb), upd_ne (ne_of_none e nd)]
      exact e
    have nA : b ∉ ads s.h ++ B := S1.hh.out nb
    have fb : Fr s.h H1 ((b, .obj C []) :: s.h) (upd (upd H1 dx (.own b)) b (.ins C dx [])) := fun c o hc e => ⟨fun z => (List.mem_cons.mp z).elim (ne_of_none e nb) hc, e0 _ _ e⟩
    have Sm := S1.mono e0
    have S2 : Sat K B ⟨s.g, (b, .obj C []) :: s.h⟩ σ (upd (upd H1 dx (.own b)) b (.ins C dx [])) := by
      refine ⟨⟨fun p hp => ?_, List.nodup_cons.mpr ⟨fun z => nA (List.mem_append_left _ z), S.hh.nd⟩, Sm.hh.bt, fun c hc z => ?_, Sm.hh.nt⟩, S1.gg.mono fb.msk⟩
      · rcases List.mem_cons.mp hp with rfl | hp
        · exact ⟨dx, [], upd_same, rfl, .nil⟩
        · have q := S1.hh.cell p hp
          obtain ⟨o, ho⟩ := q.some
          rw [ho] at q
          rw [e0 _ _ ho]
          exact q.mono fb.msk
      · rcases List.mem_cons.mp z with z | z
        · have z : c = b := z
          exact nA (List.mem_append_right _ (z ▸ hc))
        · exact S1.hh.db c hc z
    have r2 := RWs.mono fb.msk r1
    refine callG (s := ⟨s.g, (b, .obj C []) :: s.h⟩) (t := sp) [true] S2 (.cons (w := .o b) rfl r2) (ht b fun z => nA (List.mem_append_left _ z)) (fun w Δ' v H3 kk S3 f3 r3 => ?_) (fun c Δ' H3 xx S3 f3 => ?_)
    · have ep : put [true] Δ' ((b, Cell.obj C []) :: s.h) = Δ' ++ s.h := by
        cases Δ' with
        | nil => rfl
        | cons _ _ => rfl
      rw [show put [true] Δ' (DL.S.h ⟨s.g, (b, Cell.obj C []) :: s.h⟩) = Δ' ++ s.h from ep] at S3 f3 r3
      obtain ⟨rfl, kk⟩ := kk
      exact ⟨rw_n r3, q (.o b) _ _ H3 kk S3 ((f1.trans fb).trans f3) rfl⟩
    · have ep : put [true] Δ' ((b, Cell.obj C []) :: s.h) = Δ' ++ s.h := by
        cases Δ' with
        | nil => rfl
        | cons _ _ => rfl
      rw [show put [true] Δ' (DL.S.h ⟨s.g, (b, Cell.obj C []) :: s.h⟩) = Δ' ++ s.h from ep] at S3 f3
      exact qx c _ H3 xx S3 ((f1.trans fb).trans f3)
theorem evg_make0 {E' : L2.St → XK} {xs : List W} {k : W → Del → Prop} {ex : Value → Del → Prop} (h : EvAW K tr s xs) (ht : ∀ b, b ∉ ads s.h → sp (.o b :: xs) [(b, .obj C [])] (fun w Δ' => w = wn ∧ k (.o b) (Δ' ++ s.h)) (fun _ _ => False)) : EvG K E (tMakeS C (spOf K sp) E' tr) s k ex := fun B σ H Q S q _ =>
  evg_make (E := E') (ex := fun _ _ => False) h ht B σ H Q S q fun _ _ _ z => z.elim
/-! ### try .. except, several clauses -/
def tTryMany (K : PySem.W.Frag) (l : List (Value × (Addr → Value → Option Addr → TS))) (tb : WX → TS) (Wout : WX) : TS := fun D σ H => tb (wMany K Wout D l) D σ H
def Cat (K : PySem.W.Frag) (E2 : L2.St → XK) (O : Out) (c : Value) (s' : S) : List (Value × (Addr → Value → Option Addr → TS)) → Prop
  | [] => False
  | (cx, ts) :: r => ∃ b, PySem.W.exmOne K c cx = some b ∧ (b = true → ∀ a, HS K E2 (ts a c none) s' { O with x := fun _ _ => False }) ∧ (b = false → Cat K E2 O c s' r)
theorem hs_tryMany0 {E2 : L2.St → XK} {l : List (Value × (Addr → Value → Option Addr → TS))} {tb : WX → TS} {Wout : WX} (Xb : Value → S → Prop)
    (hb : ∀ Wv : WX, HS K (WE Wv) (tb Wv) s { O with x := Xb }) (hs : ∀ c s', Xb c s' → Cat K E2 O c s' l) : HS K E (tTryMany K l tb Wout) s O := fun B σ H D S q =>
  hb (wMany K Wout D l) B σ H D S ⟨q.n, q.r, q.b, q.c, fun c s' σ' H' hx S' f => by
    have go : ∀ l' : List (Value × (Addr → Value → Option Addr → TS)), Cat K E2 O c s' l' → wMany K Wout D l' c none σ' H' := by
      intro l'
      induction l' with
      | nil => exact fun z => z.elim
      | cons p r ih =>
        obtain ⟨cx, ts⟩ := p
        rintro ⟨b, e, h1, h2⟩
        refine ⟨b, e, fun hb a ha => ?_, fun hb => ih (h2 hb)⟩
        exact h1 hb a B σ' H' _ S' ⟨fun s2 σ2 H2 hn S2 f2 => q.n _ _ H2 hn S2 (f.trans f2), fun w Δ v H2 hr S2 f2 r2 => q.r w Δ v H2 hr S2 (f.trans f2) r2,
          fun s2 σ2 H2 hn S2 f2 => q.b _ _ H2 hn S2 (f.trans f2), fun s2 σ2 H2 hn S2 f2 => q.c _ _ H2 hn S2 (f.trans f2), fun _ _ _ _ z => z.elim⟩
    exact go l (hs c s' hx)⟩
end
section
variable {X : Cx} {body : List Stmt} {h₀ : ExceptHandler} {hds : List ExceptHandler} {l : List (Value × (Addr → Value → Option Addr → TS))} {pos : Pos} {tb : WX → TS} {Wout : WX}
theorem ps_try_manyD (hs : X.stack = X.env :: X.outer) (hf : X.env.frame = some X.env.locals) (tk : L2.Takes X Wout)
    (hb : ∀ (W : WX) (pn : List (Addr × Obj)) (xe : Value → Shared → Prop), L2.Takes (X.tr pn xe) W → PassesOwn (model X.prog X.w) X.A X.env xe → PSs (X.tr pn xe) body (tb W))
    (hh : HdsOk X (h₀ :: hds) l) : PS X (.Try body (h₀ :: hds) [] [] pos) (tTryMany X.K l tb Wout) := L2.ps_try_many hs hf tk hb hh
end
theorem kit_bty {K : PySem.W.Frag} {A : Addr} {T : String} {b : Bool} (hm : PySem.W.kitMeta T = true) (h4 : PySem.W.subIn K (.ref A) (.type T) = some b) : PySem.W.kitOne K (.ref A) (.type T) = some b := by
  unfold PySem.W.kitOne
  rw [if_neg (fun h => by cases (beq_iff_eq.mp h))]
  show (if PySem.W.kitMeta T = true then PySem.W.subIn K (.ref A) (.type T) else none) = some b
  rw [if_pos hm]
  exact h4
theorem rc_isET {K : PySem.W.Frag} {s : S} {D a : Addr} {T : String} {b : Bool} (h : PySem.W.kitOne K (.ref D) (.type T) = some b) : RCs K s (rIsE K D a) [.x (.ref a), .x (.ty T)] (wb b) := fun B σ H vs Q S r q => by
  cases r with
  | cons r1 r2 =>
    cases r2 with
    | cons r2 r3 =>
      cases r3
      cases r1
      cases r2
      exact ⟨_, .type T, b, rfl, fun u hu => by cases hu; rfl, h, q _ H same_refl rb⟩
theorem get0 {α : Type} {x : α} {l : List α} : (x :: l)[0]? = some x := rfl
theorem get1 {α : Type} {x y : α} {l : List α} : (x :: y :: l)[1]? = some y := rfl
theorem get2 {α : Type} {x y z : α} {l : List α} : (x :: y :: z :: l)[2]? = some z := rfl
theorem get3 {α : Type} {x y z u : α} {l : List α} : (x :: y :: z :: u :: l)[3]? = some u := rfl
theorem get4 {α : Type} {x y z u v : α} {l : List α} : (x :: y :: z :: u :: v :: l)[4]? = some v := rfl
theorem get5 {α : Type} {x y z u v w : α} {l : List α} : (x :: y :: z :: u :: v :: w :: l)[5]? = some w := rfl
theorem cut_from (z : Str) (n : Nat) : cutS z (some (n : Int)) none = mk ((tl z).drop n) := by
  refine str_ext ?_
  rw [tlmk]
  unfold cutS
  rw [HT.sIx_nat, HT.sIx_none]
  show ((z.cps.toList.drop (min n z.length)).take (z.length - min n z.length)).toArray.toList = _
  have hl : (tl z).length = z.length := tl_len z
  show ((tl z).drop (min n z.length)).take (z.length - min n z.length) = (tl z).drop n
  rw [← hl]
  by_cases h1 : n ≤ (tl z).length
  · rw [Nat.min_eq_left h1]
    exact List.take_of_length_le (by rw [List.length_drop]; omega)
  · rw [List.drop_eq_nil_of_le (by omega), List.drop_eq_nil_of_le (by omega)]
    simp
end DL

namespace DL
open PySem PySem.Spec PyProof.Rows L2 TL
/-! ### sorted of alike data -/
def sortD (ds : List PyData) : List PyData := ds.mergeSort (PySem.W.dataLe false fun d => d)
/-- a value and what it reads as, out of a list of such -/
inductive Each (P : V → PyData → Prop) : List V → List PyData → Prop
  | nil : Each P [] []
  | cons {y : V} {d : PyData} {ys : List V} {ds : List PyData} : P y d → Each P ys ds → Each P (y :: ys) (d :: ds)
def rSortD (K : PySem.W.Frag) : List V → Hp → VK → Prop := fun xs H Q => ∃ (a : Addr) (vs : List V) (ds : List PyData), xs = [.ref a] ∧ SqL K H a vs ∧ DpAll K H vs ds ∧ PySem.W.AllAlike ds ∧ PySem.W.Sortable ds ∧ (∀ d ∈ ds, d.depth ≤ 64) ∧
  ∀ ys p, Each (fun y d => (y, d) ∈ vs.zip ds) ys (sortD ds) → H p = none → Q (.ref p) (upd H p (.lst ys))
section
variable {X : Cx}
theorem each_vals {vs : List V} {us : List Value} (r : Vals vs us) : ∀ {ds : List PyData}, vs.length = ds.length → PySem.W.EachIs (fun u d => ∃ y, RelV y u ∧ (y, d) ∈ vs.zip ds) us ds := by
  have go : ∀ {vs : List V} {us : List Value}, Vals vs us → ∀ {ds : List PyData} (Z : List (V × PyData)), vs.length = ds.length → (∀ q ∈ vs.zip ds, q ∈ Z) → PySem.W.EachIs (fun u d => ∃ y, RelV y u ∧ (y, d) ∈ Z) us ds := by
    intro vs us r
    induction r with
    | nil =>
      intro ds Z hl _
      cases ds with
      | nil => exact .nil
      | cons _ _ => cases hl
    | cons h _ ih =>
      intro ds Z hl hz
      cases ds with
      | nil => cases hl
      | cons d ds => exact .cons ⟨_, h, hz _ List.mem_cons_self⟩ (ih Z (by simpa using hl) fun q hq => hz q (List.mem_cons_of_mem _ hq))
  intro ds hl
  exact go r _ hl fun q hq => hq
theorem each_back {P : V → PyData → Prop} {us : List Value} {ds : List PyData} (h : PySem.W.EachIs (fun u d => ∃ y, RelV y u ∧ P y d) us ds) : ∃ ys, Vals ys us ∧ Each P ys ds := by
  induction h with
  | nil => exact ⟨[], .nil, .nil⟩
  | cons h _ ih =>
    obtain ⟨y, r, p⟩ := h
    obtain ⟨ys, r2, e2⟩ := ih
    exact ⟨y :: ys, .cons r r2, .cons p e2⟩
theorem Each.len {P : V → PyData → Prop} {ys : List V} {ds : List PyData} (h : Each P ys ds) : ys.length = ds.length := by
  induction h with
  | nil => rfl
  | cons _ _ ih => simp [ih]
theorem each_reads {h : Heap} : ∀ {us : List Value} {ds : List PyData} {as : List Addr}, ReadsAll h us ds as → PySem.W.EachIs (fun v d => ∃ as, Reads h v d as) us ds
  | _, _, _, .nil => .nil
  | _, _, _, .cons r t => .cons ⟨_, r⟩ (each_reads t)
theorem cr_sortD (hu : X.A.units + 100 < cLine) : CallR X (.builtin "sorted") (rSortD X.K) := by
  intro pins s σ H xs us Q I r h
  obtain ⟨a, vs, ds, rfl, hs, hd, hal, hk, hdep, q⟩ := h
  obtain ⟨its, rv, hl, hz⟩ := I.list hs
  obtain ⟨u, rfl, ru⟩ := vals1 r
  obtain rfl : u = Value.ref a := ru
  obtain ⟨as, ra⟩ := Dp.readsAll I ds vs its hd rv
  have hlen : vs.length = ds.length := by rw [rv.length]; exact SeqAt.ReadsAll.length ds its as ra
  refine PySem.W.sorted_vals (κ := PySem.W.dataKind (PySem.W.sortingHeap (PySem.W.copyHeap s.heap its) (s.heap.objs.size + 1) its) ds) hl.isList ?_ (by rw [← rv.length]; exact hz) ?_
  · refine PySem.W.SortsAt.data (s := { s with heap := PySem.W.sortingHeap (PySem.W.copyHeap s.heap its) (s.heap.objs.size + 1) its }) (each_reads (ReadsAll.keeps (fun b o e => PySem.W.sorting_copy_old e) ra)) hal hk fun d hd => ?_
    have := hdep d hd
    show X.A.units + 1 + 1 + d.depth < cLine
    omega
  · have e1 := PySem.W.each_keys hal (each_reads (ReadsAll.keeps (h' := PySem.W.sortingHeap (PySem.W.copyHeap s.heap its) (s.heap.objs.size + 1) its) (fun b o e => PySem.W.sorting_copy_old e) ra))
    have e2 := PySem.W.sortVals_each (κ := PySem.W.dataKind (PySem.W.sortingHeap (PySem.W.copyHeap s.heap its) (s.heap.objs.size + 1) its) ds) (β := PyData) (rev := false) PySem.W.keyToks (each_vals rv hlen) e1
    obtain ⟨ys, ry, ey⟩ := each_back e2
    obtain ⟨n, hn⟩ := sortedAll_at s.heap its (PySem.W.sortVals (PySem.W.dataKind (PySem.W.sortingHeap (PySem.W.copyHeap s.heap its) (s.heap.objs.size + 1) its) ds) false its its).toArray
    refine ⟨.ref (s.heap.objs.size + 1), upd H (s.heap.objs.size + 1) (.lst ys), I.laid (t' := s.toks) (fun b o e => sortedAll_old e) (Nat.le_succ _) ⟨?_, _, n, ry, hn⟩, rfl, q ys _ ey (I.hok.fresh (Nat.le_succ _))⟩
    rw [ey.len.trans (List.length_mergeSort ..)]
    omega
end
section
variable {K : PySem.W.Frag} {s : S} {x : W}
theorem dqa_mem {M : Hp} : ∀ {vs : List V} {ds : List PyData}, DqAll K M vs ds → ∀ {y d}, (y, d) ∈ vs.zip ds → Dq K M y d
  | _, [], h, _, _, m => by cases h; cases m
  | _, e :: ds, h, y, d, m => by
    cases h with
    | cons h1 h2 =>
      rcases List.mem_cons.mp m with q | m
      · cases q; exact h1
      · exact dqa_mem h2 m
theorem each_rws {M : Hp} {vs : List V} {ds es : List PyData} {ys : List V} (h : DqAll K M vs ds) (e : Each (fun y d => (y, d) ∈ vs.zip ds) ys es) : RWs K M ys (es.map .d) := by
  induction e with
  | nil => exact .nil
  | cons h1 _ ih => exact .cons (dqa_mem h h1) ih
theorem rcf_sortD {ds : List PyData} (l : LV s x (ds.map .d)) (h1 : PySem.W.AllAlike ds) (h2 : PySem.W.Sortable ds) (h3 : ∀ d ∈ ds, d.depth ≤ 64) : RCF K s (rSortD K) [x] ((sortD ds).map .d) := fun B σ H vs Q S a q => by
  cases a with
  | cons a1 a2 =>
    cases a2
    obtain ⟨p, vs, rfl, g, rr⟩ := l.get S a1
    have hd := rws_dpa rr
    refine ⟨p, vs, ds, rfl, g, dqa_dpa (dpa_mono msk_sub hd), h1, h2, h3, fun ys r ey nr => ?_⟩
    exact q r ys _ (same_new nr) nr upd_same (new_l' (each_rws hd ey) nr)
theorem sortedDK (K : PySem.W.Frag) {X : Cx} {j : Nat} {A : Around} (hr : Room j A) (hA : X.A = A := by rfl) (hK : X.K = K := by rfl) : CallR X (.builtin "sorted") (rSortD K) := hK ▸ cr_sortD (by rw [hA]; have := hr.un; omega)
/-! ### its order -/
theorem perm_sortD (ds : List PyData) : (sortD ds).Perm ds := List.mergeSort_perm ..
theorem srt_sortD (ds : List PyData) : (sortD ds).Pairwise fun a b => PySem.W.dataLe false (fun d => d) a b = true := by
  have T := PySem.W.sortLe_total (PyProof.Rows.listOrd itemOrd) false (fun d : PyData => PySem.W.keyToks d)
  exact List.pairwise_mergeSort T.trans (fun a b => by rw [Bool.or_eq_true]; exact T.total a b) ds
/-- ((int, text), int) -/
def tsi (q : (Int × Str) × Int) : PyData := .tuple [.tuple [.int q.1.1, .str q.1.2], .int q.2]
def tsiLt (p q : (Int × Str) × Int) : Prop := p.1.1 < q.1.1 ∨ (p.1.1 = q.1.1 ∧ (tl p.1.2 < tl q.1.2 ∨ (tl p.1.2 = tl q.1.2 ∧ p.2 < q.2)))
theorem eqv_is (x y : Int × Str) : PyData.eqv (.tuple [.int x.1, .str x.2]) (.tuple [.int y.1, .str y.2]) = decide (x = y) := by
  obtain ⟨a, b⟩ := x
  obtain ⟨c, d⟩ := y
  by_cases h1 : a = c <;> by_cases h2 : b = d <;> simp [PyData.eqv, PyData.eqvAll, h1, h2]
theorem dataLt_tsi (p q : (Int × Str) × Int) : PySem.W.dataLt (tsi p) (tsi q) = true ↔ tsiLt p q := by
  obtain ⟨⟨a, z⟩, i⟩ := p
  obtain ⟨⟨b, y⟩, j⟩ := q
  unfold tsi tsiLt
  simp only
  have A1 : PySem.W.alike (.tuple [.int a, .str z]) (.tuple [.int b, .str y]) = true := by simp [PySem.W.alike, PySem.W.alikeAll]
  rw [PySem.W.dataLt_pair A1 (by simp [PySem.W.alike]), PySem.W.dataLt_pair (by simp [PySem.W.alike]) (by simp [PySem.W.alike]), PySem.W.dataLt_int, PySem.W.dataLt_int, PySem.W.dataLt_str, eqv_is (a, z) (b, y)]
  have irr : ∀ l : List Nat, ¬ l < l := fun l => List.lt_irrefl l
  by_cases h1 : a = b
  · subst h1
    by_cases h2 : z = y
    · subst h2
      by_cases h3 : i = j
      · subst h3; simp [PyData.eqv, irr]
      · simp [PyData.eqv, h3, irr]
    · have h2' : ¬ tl z = tl y := fun e => h2 (str_ext e)
      simp [PyData.eqv, h2, h2']
  · simp [PyData.eqv, h1]
theorem alike_tsi (p q : (Int × Str) × Int) : PySem.W.alike (tsi p) (tsi q) = true := by simp [tsi, PySem.W.alike, PySem.W.alikeAll]
theorem all_tsi (l : List ((Int × Str) × Int)) : PySem.W.AllAlike (l.map tsi) := fun d hd e he => by
  obtain ⟨p, _, rfl⟩ := List.mem_map.mp hd
  obtain ⟨q, _, rfl⟩ := List.mem_map.mp he
  exact alike_tsi p q
theorem sortable_tsi (l : List ((Int × Str) × Int)) : PySem.W.Sortable (l.map tsi) := .inl fun d hd => by
  obtain ⟨p, _, rfl⟩ := List.mem_map.mp hd
  exact ⟨_, _, rfl⟩
theorem depth_tsi (p : (Int × Str) × Int) : (tsi p).depth ≤ 64 := by simp [tsi, PyData.depth, PyData.depthAll]
def untsi : PyData → (Int × Str) × Int
  | .tuple [.tuple [.int a, .str z], .int i] => ((a, z), i)
  | _ => ((0, ⟨#[]⟩), 0)
theorem untsi_tsi (p : (Int × Str) × Int) : (untsi ∘ tsi) p = id p := rfl
/-- the sorted list, as one of these -/
theorem sortD_tsi (l : List ((Int × Str) × Int)) : ∃ m : List ((Int × Str) × Int), sortD (l.map tsi) = m.map tsi ∧ m.Perm l ∧ m.Pairwise fun p q => ¬ tsiLt q p := by
  have hp := perm_sortD (l.map tsi)
  have hs := srt_sortD (l.map tsi)
  have hm : ∀ d ∈ sortD (l.map tsi), ∃ p, tsi p = d := fun d hd => by
    obtain ⟨p, _, e⟩ := List.mem_map.mp (hp.mem_iff.mp hd)
    exact ⟨p, e⟩
  have inj : ∀ p q, tsi p = tsi q → p = q := fun p q e => by
    obtain ⟨⟨a, z⟩, i⟩ := p
    obtain ⟨⟨b, y⟩, j⟩ := q
    simp [tsi] at e
    simp [e]
  obtain ⟨m, hm⟩ : ∃ m : List ((Int × Str) × Int), sortD (l.map tsi) = m.map tsi := by
    clear hp hs
    generalize sortD (l.map tsi) = ds at hm
    induction ds with
    | nil => exact ⟨[], rfl⟩
    | cons d ds ih =>
      obtain ⟨p, e⟩ := hm d List.mem_cons_self
      obtain ⟨m, e2⟩ := ih (fun d hd => hm d (List.mem_cons_of_mem _ hd))
      exact ⟨p :: m, by rw [List.map_cons, e, e2]⟩
  refine ⟨m, hm, ?_, ?_⟩
  · rw [hm] at hp
    have h2 := hp.map untsi
    rw [List.map_map, List.map_map, show untsi ∘ tsi = id from funext untsi_tsi, List.map_id, List.map_id] at h2
    exact h2
  · rw [hm, List.pairwise_map] at hs
    refine hs.imp fun {p q} h hc => ?_
    have h2 : (!PySem.W.dataLt (tsi q) (tsi p)) = true := h
    rw [(dataLt_tsi q p).mpr hc] at h2
    cases h2
end
end DL

namespace DL
open PySem PySem.Spec PyProof.Rows L2 TL
theorem ltCps_true {a b : List Nat} (h : a < b) : ltCps a b = true := by rw [PyProof.Rows.ltCps_eq]; exact decide_eq_true h
def leS (a b : Str) : Bool := decide (tl a ≤ tl b)
def sortK (ks : List Str) : List Str := ks.mergeSort leS
theorem leS_trans (a b c : Str) (h1 : leS a b = true) (h2 : leS b c = true) : leS a c = true := decide_eq_true (List.le_trans (of_decide_eq_true h1) (of_decide_eq_true h2))
theorem leS_total (a b : Str) : (leS a b || leS b a) = true := by
  rcases List.le_total (tl a) (tl b) with h | h
  · simp [leS, h]
  · simp [leS, h]
theorem leS_anti {a b : Str} (h1 : leS a b = true) (h2 : leS b a = true) : a = b := str_ext (List.le_antisymm (of_decide_eq_true h1) (of_decide_eq_true h2))
theorem sortedS_pw : ∀ {ys : List Str}, sortedS ys = true → ys.Pairwise fun a b => leS a b = true := by
  have step : ∀ {ys : List Str}, sortedS ys = true → ys.Pairwise fun a b => leS a b = true := by
    intro ys
    induction ys with
    | nil => exact fun _ => .nil
    | cons a ys ih =>
      intro h
      cases ys with
      | nil => exact List.pairwise_singleton _ _
      | cons b r =>
        have h2 : (!ltCps b.cps.toList a.cps.toList && risingS b r) = true := h
        rw [Bool.and_eq_true] at h2
        have hab : leS a b = true := by
          refine decide_eq_true (List.not_lt.mp fun hc => ?_)
          rw [ltCps_true hc] at h2
          exact absurd h2.1 (by decide)
        have hb := ih h2.2
        refine List.pairwise_cons.mpr ⟨fun c hc => ?_, hb⟩
        rcases List.mem_cons.mp hc with rfl | hc
        · exact hab
        · exact leS_trans _ _ _ hab (List.rel_of_pairwise_cons hb hc)
  exact @step
theorem sortK_uniq {ys ks : List Str} (hp : ys.Perm ks) (hs : ys.Pairwise fun a b => leS a b = true) : ys = sortK ks :=
  List.Perm.eq_of_pairwise (fun a b _ _ h1 h2 => leS_anti h1 h2) hs (List.pairwise_mergeSort leS_trans leS_total ks) (hp.trans (List.mergeSort_perm ks leS).symm)
theorem sortK_perm (ks : List Str) : (sortK ks).Perm ks := List.mergeSort_perm ks leS
theorem sortK_pw (ks : List Str) : (sortK ks).Pairwise fun a b => leS a b = true := List.pairwise_mergeSort leS_trans leS_total ks
/-! ### dicts -/
def valW {α : Type} [DecidableEq α] (kvs : List (α × W)) (k : α) : Option W := (kvs.find? fun kv => decide (kv.1 = k)).map (·.2)
def putKW {α : Type} [DecidableEq α] (kvs : List (α × W)) (k : α) (v : W) : List (α × W) :=
  if (kvs.any fun kv => decide (kv.1 = k)) = true then kvs.map (fun kv => if kv.1 = k then (kv.1, v) else kv) else kvs ++ [(k, v)]
def dropKW {α : Type} [DecidableEq α] (kvs : List (α × W)) (k : α) : List (α × W) := kvs.filter fun kv => decide (kv.1 ≠ k)
def kW : Key → W
  | .inl i => wi i
  | .inr z => ws z
section
variable {K : PySem.W.Frag} {M : Hp}
theorem rw_k {v : V} : ∀ {k : Key}, RW K M v (kW k) → v = kV k
  | .inl _, r => rw_i r
  | .inr _, r => rw_s r
theorem rk : ∀ (k : Key), RW K M (kV k) (kW k)
  | .inl _ => ri
  | .inr _ => rs
/-- the pairs and what they stand for -/
def DR {α : Type} (K : PySem.W.Frag) (M : Hp) (vs : List (α × V)) (kvs : List (α × W)) : Prop := vs.map (·.1) = kvs.map (·.1) ∧ RWs K M (vs.map (·.2)) (kvs.map (·.2))
variable {α : Type} [DecidableEq α]
theorem DR.len {vs : List (α × V)} {kvs : List (α × W)} (h : DR K M vs kvs) : vs.length = kvs.length := by
  have e := congrArg List.length h.1
  simpa using e
theorem dr_cons {p : α × V} {q : α × W} {vs : List (α × V)} {kvs : List (α × W)} (h : DR K M (p :: vs) (q :: kvs)) : p.1 = q.1 ∧ RW K M p.2 q.2 ∧ DR K M vs kvs := by
  obtain ⟨h1, h2⟩ := h
  cases h2 with
  | cons a b => exact ⟨(List.cons.inj h1).1, a, (List.cons.inj h1).2, b⟩
theorem dr_val {k : α} : ∀ {vs : List (α × V)} {kvs : List (α × W)}, DR K M vs kvs → (∀ w, valW kvs k = some w → ∃ v, L2.valV vs k = some v ∧ RW K M v w) ∧ (valW kvs k = none → L2.valV vs k = none)
  | [], [], _ => ⟨(fun w h => by cases h), fun _ => rfl⟩
  | [], _ :: _, h => by cases h.1
  | _ :: _, [], h => by cases h.1
  | (a, v) :: vs, (b, x) :: kvs, h => by
    obtain ⟨h1, h2, h3⟩ := dr_cons h
    have h1 : a = b := h1
    subst h1
    have ih := dr_val (k := k) h3
    unfold valW L2.valV
    rw [List.find?_cons, List.find?_cons]
    by_cases e : a = k
    · simp only [e, decide_true]
      exact ⟨fun w hw => ⟨v, rfl, by cases (Option.some.inj hw); exact h2⟩, fun hw => by cases hw⟩
    · simp only [e, decide_false]
      exact ih
theorem dr_any {k : α} : ∀ {vs : List (α × V)} {kvs : List (α × W)}, DR K M vs kvs → (vs.any fun kv => decide (kv.1 = k)) = (kvs.any fun kv => decide (kv.1 = k))
  | [], [], _ => rfl
  | [], _ :: _, h => by cases h.1
  | _ :: _, [], h => by cases h.1
  | (a, v) :: vs, (b, x) :: kvs, h => by
    obtain ⟨h1, h2, h3⟩ := dr_cons h
    have h1 : a = b := h1
    subst h1
    rw [List.any_cons, List.any_cons, dr_any h3]
theorem dr_map {k : α} {v : V} {w : W} (r : RW K M v w) : ∀ {vs : List (α × V)} {kvs : List (α × W)}, DR K M vs kvs → DR K M (vs.map fun kv => if kv.1 = k then (kv.1, v) else kv) (kvs.map fun kv => if kv.1 = k then (kv.1, w) else kv)
  | [], [], _ => ⟨rfl, .nil⟩
  | [], _ :: _, h => by cases h.1
  | _ :: _, [], h => by cases h.1
  | (a, v0) :: vs, (b, x) :: kvs, h => by
    obtain ⟨h1, h2, h3⟩ := dr_cons h
    have h1 : a = b := h1
    subst h1
    obtain ⟨i1, i2⟩ := dr_map r h3
    by_cases e : a = k
    · refine ⟨?_, ?_⟩
      · simp only [List.map_cons, e, if_pos]
        exact congrArg _ i1
      · simp only [List.map_cons, e, if_pos]
        exact .cons r i2
    · refine ⟨?_, ?_⟩
      · simp only [List.map_cons, e, if_false]
        exact congrArg _ i1
      · simp only [List.map_cons, e, if_false]
        exact .cons h2 i2
theorem dr_put {k : α} {v : V} {w : W} (r : RW K M v w) {vs : List (α × V)} {kvs : List (α × W)} (h : DR K M vs kvs) : DR K M (L2.putK vs k v) (putKW kvs k w) := by
  unfold L2.putK putKW
  rw [dr_any h]
  split
  · exact dr_map r h
  · refine ⟨?_, ?_⟩
    · rw [List.map_append, List.map_append, h.1]; rfl
    · rw [List.map_append, List.map_append]; exact h.2.append (.cons r .nil)
theorem dr_get {vs : List (α × V)} {kvs : List (α × W)} (h : DR K M vs kvs) {i : Nat} {k : α} {v : V} (e : vs[i]? = some (k, v)) : ∃ w, kvs[i]? = some (k, w) ∧ RW K M v w := by
  have e1 : (vs.map (·.1))[i]? = some k := by rw [List.getElem?_map, e]; rfl
  have e2 : (vs.map (·.2))[i]? = some v := by rw [List.getElem?_map, e]; rfl
  obtain ⟨w, hw, r⟩ := h.2.getv e2
  rw [h.1] at e1
  rw [List.getElem?_map] at e1 hw
  cases q : kvs[i]? with
  | none => rw [q] at e1; cases e1
  | some p =>
    rw [q] at e1 hw
    obtain ⟨a, b⟩ := p
    cases e1
    cases hw
    exact ⟨_, rfl, r⟩
end
/-- a dict that is to be read -/
def DicAt (s : S) (d : Addr) (kvs : List (Key × W)) : Prop := (d, Cell.dic kvs) ∈ s.h ∨ ∃ u, (d, Cell.fz u kvs) ∈ s.h
section
variable {K : PySem.W.Frag} {s s1 s' : S} {ta tb te tl td ty tv : TE} {tr : TA} {tt : TT} {x y z w : W} {B : List Addr} {H H' : Hp} {σ : L2.St} {X : Cx} {E : L2.St → XK} {O : Out} {t1 t2 tz tu tw : TS} {g : TG} {d : Addr} {kvs : List (Key × W)} {key : Key}
theorem da_d (n : Nat) (h : s.h[n]? = some (d, .dic kvs)) : DicAt s d kvs := .inl (List.mem_of_getElem? h)
theorem da_f (n : Nat) {u : HO} (h : s.h[n]? = some (d, .fz u kvs)) : DicAt s d kvs := .inr ⟨u, List.mem_of_getElem? h⟩
theorem DicAt.get (h : DicAt s d kvs) (S : Sat K B s σ H) : ∃ vs, L2.Rd H d (.dK vs) ∧ DR K (msk H (ads s.h ++ B)) vs kvs := by
  rcases h with m | ⟨u, m⟩
  · obtain ⟨vs, e, h1, h2⟩ := S.hh.cell _ m
    exact ⟨vs, .inl e, h1, h2⟩
  · obtain ⟨e, od, vs, eu, h1, h2⟩ := S.hh.cell _ m
    exact ⟨vs, .inr ⟨od, by rw [← eu]; exact e⟩, h1, h2⟩
theorem ev_dget (hd : Ev K td s (.o d)) (hk : Ev K ty s (kW key)) (h : DicAt s d kvs) (hv : valW kvs key = some w) : Ev K (tDGet td ty) s w := fun B σ H Q S q =>
  hd B σ H _ S fun a H1 e1 r1 => hk B σ H1 _ (S.mono e1) fun b H2 e2 r2 => by
    cases (show a = V.ref d from r1)
    have S2 := (S.mono e1).mono e2
    obtain ⟨vs, rd, dr⟩ := h.get S2
    obtain ⟨v, hv2, rv⟩ := (dr_val (k := key) dr).1 w hv
    refine ⟨d, v, rfl, .inl ⟨vs, key, rd, rw_k r2, hv2.symm⟩, q v H2 (e1.trans e2) rv⟩
theorem ev_din (hk : Ev K ty s (kW key)) (hd : Ev K td s (.o d)) (h : DicAt s d kvs) : Ev K (tDIn ty td) s (wb (valW kvs key).isSome) := fun B σ H Q S q =>
  hk B σ H _ S fun b H1 e1 r1 => hd B σ H1 _ (S.mono e1) fun a H2 e2 r2 => by
    cases (show a = V.ref d from r2)
    have S2 := (S.mono e1).mono e2
    obtain ⟨vs, rd, dr⟩ := h.get S2
    have hv := dr_val (k := key) dr
    cases q2 : valW kvs key with
    | none =>
      refine ⟨d, _, rfl, .inl ⟨vs, key, rd, rw_k r1, rfl⟩, ?_⟩
      rw [hv.2 q2]
      rw [q2] at q
      exact q _ H2 (e1.trans e2) rb
    | some w =>
      obtain ⟨v, hv2, rv⟩ := hv.1 w q2
      refine ⟨d, _, rfl, .inl ⟨vs, key, rd, rw_k r1, rfl⟩, ?_⟩
      rw [hv2]
      rw [q2] at q
      exact q _ H2 (e1.trans e2) rb
theorem ev_dnotin (hk : Ev K ty s (kW key)) (hd : Ev K td s (.o d)) (h : DicAt s d kvs) : Ev K (tDNotIn ty td) s (wb (!(valW kvs key).isSome)) := fun B σ H Q S q =>
  hk B σ H _ S fun b H1 e1 r1 => hd B σ H1 _ (S.mono e1) fun a H2 e2 r2 => by
    cases (show a = V.ref d from r2)
    have S2 := (S.mono e1).mono e2
    obtain ⟨vs, rd, dr⟩ := h.get S2
    have hv := dr_val (k := key) dr
    cases q2 : valW kvs key with
    | none =>
      refine ⟨d, _, rfl, .inl ⟨vs, key, rd, rw_k r1, rfl⟩, ?_⟩
      rw [hv.2 q2]
      rw [q2] at q
      exact q _ H2 (e1.trans e2) rb
    | some w =>
      obtain ⟨v, hv2, rv⟩ := hv.1 w q2
      refine ⟨d, _, rfl, .inl ⟨vs, key, rd, rw_k r1, rfl⟩, ?_⟩
      rw [hv2]
      rw [q2] at q
      exact q _ H2 (e1.trans e2) rb
theorem cell_newG {c : Cell} {o : HO} (S : Sat K B s σ H) {a : Addr} (n : H a = none) (r : RC K (msk (upd H a o) (a :: (ads s.h ++ B))) (some o) c) : SatH K B ((a, c) :: s.h) (upd H a o) ∧ Fr s.h H ((a, c) :: s.h) (upd H a o) ∧ Same (msk H (ads s.h ++ B)) (msk (upd H a o) (ads ((a, c) :: s.h) ++ B)) := by
  have e : Same H (upd H a o) := same_new n
  have nA : a ∉ ads s.h := fun z => S.hh.out n (List.mem_append_left _ z)
  have nB : a ∉ B := fun z => S.hh.out n (List.mem_append_right _ z)
  have f : Fr s.h H ((a, c) :: s.h) (upd H a o) := fun b o hb e2 => ⟨fun z => (List.mem_cons.mp z).elim (ne_of_none e2 n) hb, e _ _ e2⟩
  refine ⟨⟨fun p hp => ?_, List.nodup_cons.mpr ⟨nA, S.hh.nd⟩, fun b hb => (S.mono e).hh.bt b hb, fun b hb z => ?_, (S.mono e).hh.nt⟩, f, f.msk⟩
  · rcases List.mem_cons.mp hp with rfl | hp
    · show RC K _ (upd H a o a) c
      rw [upd_same]
      exact r
    · have q := S.hh.cell p hp
      obtain ⟨o2, ho⟩ := q.some
      rw [ho] at q
      rw [e _ _ ho]
      exact q.mono f.msk
  · rcases List.mem_cons.mp z with z | z
    · have z : b = a := z
      exact nB (z ▸ hb)
    · exact S.hh.db b hb z
theorem hq_newD {j : Nat} (h2 : ∀ a, a ∉ ads s.h → HS K E tz ⟨s.g.set j (some (.o a)), (a, .dic []) :: s.h⟩ O) : HS K E (tSeq (tAsg tDNewK (gName j)) tz) s O := fun B σ H D S q a n => by
  obtain ⟨c1, c2, c3⟩ := cell_newG (c := .dic []) (o := .dK []) S n ⟨[], rfl, rfl, .nil⟩
  refine h2 a (fun z => S.hh.out n (List.mem_append_left _ z)) B _ _ D ⟨c1, ?_⟩ (q.step c2)
  exact (S.gg.mono c3).set (w := .o a) rfl j
/-- d[k] = e -/
theorem dput_core {n : Nat} {Q : Hp → Prop} (hn : s.h[n]? = some (d, .dic kvs)) (hv : Ev K tv s w) (hd : Ev K td s (.o d)) (hk : Ev K ty s (kW key)) (hz : kvs.length < sizeLine) (S : Sat K B s σ H)
    (q : ∀ H', Sat K B ⟨s.g, s.h.set n (d, .dic (putKW kvs key w))⟩ σ H' → Fr s.h H (s.h.set n (d, .dic (putKW kvs key w))) H' → Q H') :
    tv σ H fun v H1 => td σ H1 fun x H2 => ty σ H2 fun y H3 => ∃ a H4, x = .ref a ∧ DPut H3 a y v H4 ∧ Q H4 :=
  hv B σ H _ S fun v H1 e1 r1 => hd B σ H1 _ (S.mono e1) fun a H2 e2 r2 => hk B σ H2 _ ((S.mono e1).mono e2) fun b H3 e3 r3 => by
    cases (show a = V.ref d from r2)
    have S3 := ((S.mono e1).mono e2).mono e3
    obtain ⟨vs, e, h1, h2⟩ := S3.hh.cell _ (List.mem_of_getElem? hn)
    have dr : DR K (msk H3 (ads s.h ++ B)) vs kvs := ⟨h1, h2⟩
    have rv : RW K (msk H3 (ads s.h ++ B)) v w := r1.mono (msk_same (e2.trans e3))
    have dp := dr_put (k := key) rv dr
    have k := cell_set (c' := .dic (putKW kvs key w)) (o := .dK (L2.putK vs key v)) S3 hn ⟨_, rfl, dp.1, dp.2⟩
    exact ⟨d, _, rfl, .inl ⟨vs, key, e, rw_k r3, by rw [dr.len]; exact hz, rfl⟩, q _ k.1 ((Fr.of ((e1.trans e2).trans e3)).trans k.2)⟩
theorem hs_dput {n : Nat} (hn : s.h[n]? = some (d, .dic kvs)) (hv : Ev K tv s w) (hd : Ev K td s (.o d)) (hk : Ev K ty s (kW key)) (hz : kvs.length < sizeLine) (h : O.n ⟨s.g, s.h.set n (d, .dic (putKW kvs key w))⟩) : HS K E (sDPut td ty tv) s O := fun B σ H D S q =>
  dput_core hn hv hd hk hz S fun H' S' f => q.n _ σ H' h S' f
theorem hq_dput {n : Nat} (hn : s.h[n]? = some (d, .dic kvs)) (hv : Ev K tv s w) (hd : Ev K td s (.o d)) (hk : Ev K ty s (kW key)) (hz : kvs.length < sizeLine) (h : HS K E tz ⟨s.g, s.h.set n (d, .dic (putKW kvs key w))⟩ O) : HS K E (tSeq (sDPut td ty tv) tz) s O := fun B σ H D S q =>
  dput_core hn hv hd hk hz S fun H' S' f => h B σ H' D S' (q.step f)
/-- sorted(d), keys that are texts -/
def rSortDk : List V → Hp → VK → Prop := fun xs H Q => ∃ (a : Addr) (kvs : List (Key × V)) (ks : List Str), xs = [.ref a] ∧ Rd H a (.dK kvs) ∧ kvs.map (·.1) = ks.map Sum.inr ∧ ks.length < 64 ∧
    ∀ ys p, ys.Perm ks → sortedS ys = true → H p = none → Q (.ref p) (upd H p (.lst (ys.map V.str)))
theorem cr_sortDk (hc : X.calm = true) : CallR X (.builtin "sorted") rSortDk := call_sortedD hc
theorem rcf_sortDk {ks : List Str} (h : DicAt s d kvs) (hk : kvs.map (·.1) = ks.map Sum.inr) (h64 : ks.length < 64) : RCF K s rSortDk [.o d] (((sortK ks).map PyData.str).map .d) := fun B σ H vs Q S a q => by
  cases a with
  | cons a1 a2 =>
    cases a2
    cases a1
    obtain ⟨us, rd, dr⟩ := h.get S
    refine ⟨d, us, ks, rfl, rd, dr.1.trans hk, h64, fun ys p hp hs np => ?_⟩
    have e := sortK_uniq hp (sortedS_pw hs)
    subst e
    exact q p _ _ (same_new np) np upd_same (dpa_rws (strs_new _))
/-! ### walks -/
/-- for k in d -/
theorem hs_forD {n : Nat} {M : S → Prop} (hn : s.h[n]? = some (d, .dic kvs)) (I : HO → Nat → S → Prop) (ht : ∀ u, Ev K td ⟨s.g, s.h.set n (d, .fz u kvs)⟩ (.o d)) (h0 : ∀ u, Wk (I u 0) ⟨s.g, s.h.set n (d, .fz u kvs)⟩)
    (hI : ∀ u i s', I u i s' → s'.h[n]? = some (d, .fz u kvs))
    (hb : ∀ u i k w s', kvs[i]? = some (k, w) → I u i s' → ∃ s1, GS K g (kW k) s' s1 ∧ HS K E tu s1 { n := Wk (I u (i + 1)), c := Wk (I u (i + 1)) }) (hd : ∀ u s', I u kvs.length s' → M ⟨s'.g, s'.h.set n (d, .dic kvs)⟩) : HS K E (tLock (tFor (iKeys td) g tu)) s { O with n := M } := fun B σ H D S q => by
  obtain ⟨vs, eH, d1, d2⟩ := S.hh.cell _ (List.mem_of_getElem? hn)
  refine ⟨d, .dK vs, eH, True.intro, fun od => ?_⟩
  have C := cell_set (c' := .fz (.frz od (.dK vs)) kvs) (o := .frz od (.dK vs)) S hn ⟨rfl, od, vs, rfl, d1, d2⟩
  generalize hu : HO.frz od (.dK vs) = u at C
  have S1 := C.1
  refine ht u B σ _ _ S1 fun v H2 e2 r2 => ?_
  cases (show v = V.ref d from r2)
  have S2 := S1.mono e2
  have f2 : Fr s.h H (s.h.set n (d, .fz u kvs)) H2 := C.2.trans (Fr.of e2)
  obtain ⟨G0, hI0, lG⟩ := h0 u
  have hn2 : (s.h.set n (d, .fz u kvs))[n]? = some (d, .fz u kvs) := List.getElem?_set_self (List.getElem?_eq_some_iff.mp hn).1
  have hd0 : H2 d = some (.frz od (.dK vs)) := by
    have := (S2.hh.cell _ (List.mem_of_getElem? hn2)).1
    rw [hu]; exact this
  refine ⟨d, od, rfl, .inl ⟨vs, hd0, fun i m σ' H' => m = vs.length - i ∧ i ≤ vs.length ∧ ∃ s', I u i s' ∧ Sat K B s' σ' H' ∧ Fr s.h H s'.h H', ⟨vs.length, by simp, Nat.zero_le _, ⟨G0, _⟩, hI0, ⟨S2.hh, lG.sat S2.gg⟩, f2⟩, ?_⟩⟩
  rintro i m σ' H' ⟨rfl, hi, s', hs', S', f⟩
  have hcell := hI u i s' hs'
  have hc := S'.hh.cell _ (List.mem_of_getElem? hcell)
  have eu : H' d = some (.frz od (.dK vs)) := by rw [hu]; exact hc.1
  have dr : DR K (msk H' (ads s'.h ++ B)) vs kvs := by
    obtain ⟨_, od', vs', e, k1, k2⟩ := hc
    rw [← hu] at e
    cases e
    exact ⟨k1, k2⟩
  by_cases hlt : i < vs.length
  · refine .inr ⟨⟨eu, hlt⟩, fun σ2 H2 => ∃ s', I u (i + 1) s' ∧ Sat K B s' σ2 H2 ∧ Fr s.h H s'.h H2, fun σ2 H2 n2 => ⟨vs.length - (i + 1), by omega, rfl, hlt, n2⟩, fun y' H2 yy => ?_⟩
    obtain ⟨e, k, v, hk, ey⟩ := yy
    subst e ey
    obtain ⟨w, hw, _⟩ := dr_get dr hk
    obtain ⟨s1, hg, hbody'⟩ := hb u i k w s' hw hs'
    have hbody := hs_wk (O := { n := I u (i + 1), c := I u (i + 1) }) (hs_mono hbody' (fun _ m => m) (fun _ _ m => m) (fun _ m => m.elim) (fun _ m => m) fun _ _ m => m)
    refine hg B σ' _ _ _ S' (rk k) fun σ2 H3 S2 f2 => ?_
    have f3 : Fr s.h H s1.h H3 := f.trans f2
    exact hbody B σ2 H3 _ S2 ⟨fun s3 σ3 H4 m3 S3 f4 => ⟨s3, m3, S3, f3.trans f4⟩, fun w Δ' v H4 r S3 f4 rr => r.elim, fun s3 σ3 H4 m3 S3 f4 => m3.elim, fun s3 σ3 H4 m3 S3 f4 => ⟨s3, m3, S3, f3.trans f4⟩, fun c s3 σ3 H4 xx S3 f4 => xx.elim⟩
  · have e : i = vs.length := by omega
    subst e
    refine .inl ⟨⟨eu, Nat.le_refl _⟩, (by first | exact eu | (rw [← hu]; exact eu)), ?_⟩
    have C2 := cell_set (c' := .dic kvs) (o := .dK vs) S' hcell ⟨vs, rfl, dr.1, dr.2⟩
    exact q.n _ σ' _ (hd u s' (by rw [← dr.len]; exact hs')) C2.1 (f.trans C2.2)
/-- for x in reversed(xs) -/
theorem hs_forV {M : S → Prop} {xs : List W} (h : EvA K tr s [x]) (I : Nat → S → Prop) (h0 : Wk (I 0) s) (l : ∀ i s', I i s' → LV s' x xs)
    (hb : ∀ i u s', i < xs.length → xs[xs.length - 1 - i]? = some u → I i s' → ∃ s1, GS K g u s' s1 ∧ HS K E tu s1 { O with n := Wk (I (i + 1)), c := Wk (I (i + 1)), b := Wk M }) (hd : ∀ s', I xs.length s' → M s') : HS K E (tFor (iRev K tr) g tu) s { O with n := M } := fun B σ H D S q =>
  h B σ H _ S fun vs1 H1 e1 r1 => by
    cases r1 with
    | cons r1 rn =>
    rename_i v us
    cases rn
    have S1 := S.mono e1
    have q1 := q.step (Fr.of e1 (Δ := s.h))
    obtain ⟨G0, hI0, lG⟩ := h0
    have Sw : Sat K B ⟨G0, s.h⟩ σ H1 := ⟨S1.hh, lG.sat S1.gg⟩
    obtain ⟨a, vs0, rfl, g0, rv0⟩ := (l 0 _ hI0).get Sw r1
    have hl0 := rv0.len
    refine ⟨a, vs0, rfl, g0, fun i m σ' H' => m = xs.length - i ∧ i ≤ xs.length ∧ ∃ s', I i s' ∧ Sat K B s' σ' H' ∧ Fr s.h H1 s'.h H', ⟨xs.length, by simp, Nat.zero_le _, ⟨G0, s.h⟩, hI0, Sw, Fr.refl⟩, ?_⟩
    rintro i m σ' H' ⟨rfl, hi, s', hI, S', f⟩
    have r' : RW K (msk H' (ads s'.h ++ B)) (.ref a) x := r1.mono f.msk
    obtain ⟨a', vs, ea, gv, rv⟩ := (l i s' hI).get S' r'
    cases ea
    by_cases hlt : i < xs.length
    · have hix : xs.length - 1 - i < xs.length := by omega
      obtain ⟨y, hy, ry⟩ := rv.get (List.getElem?_eq_getElem hix)
      refine .inr ⟨⟨by rw [hl0]; exact hlt, vs, y, gv, by rw [hl0]; exact hy⟩, fun σ2 H2 => ∃ s', I (i + 1) s' ∧ Sat K B s' σ2 H2 ∧ Fr s.h H1 s'.h H2, fun σ2 H2 n2 => ⟨xs.length - (i + 1), by omega, rfl, hlt, n2⟩, fun y' H2 yy => ?_⟩
      obtain ⟨e, yy⟩ := yy
      subst e
      have hyy := yy vs gv
      rw [hl0] at hyy
      have ey : y' = y := Option.some.inj (hyy.symm.trans hy)
      subst ey
      obtain ⟨s1, hg, hbody'⟩ := hb i _ s' hlt (List.getElem?_eq_getElem hix) hI
      have hbody := hs_wk (O := { O with n := I (i + 1), c := I (i + 1), b := M }) hbody'
      refine hg B σ' _ y' _ S' ry fun σ2 H3 S2 f2 => ?_
      have f3 : Fr s.h H1 s1.h H3 := f.trans f2
      exact hbody B σ2 H3 _ S2 ⟨fun s3 σ3 H4 m3 S3 f4 => ⟨s3, m3, S3, f3.trans f4⟩, fun w Δ' v H4 r S3 f4 rr => q1.r w Δ' v H4 r S3 (f3.trans f4) rr, fun s3 σ3 H4 m3 S3 f4 => q1.n s3 σ3 H4 m3 S3 (f3.trans f4), fun s3 σ3 H4 m3 S3 f4 => ⟨s3, m3, S3, f3.trans f4⟩, fun c s3 σ3 H4 xx S3 f4 => q1.x c s3 σ3 H4 xx S3 (f3.trans f4)⟩
    · have e : i = xs.length := by omega
      subst e
      exact .inl ⟨by rw [hl0]; exact Nat.le_refl _, q1.n s' σ' H' (hd s' hI) S' f⟩
/-- xs.pop(), its value kept -/
theorem hq_pop {n j : Nat} {a : Addr} {xs : List W} (hn : s.h[n]? = some (a, .lst (xs ++ [w]))) (ho : Ev K ta s (.o a)) (h : HS K E tz ⟨s.g.set j (some w), s.h.set n (a, .lst xs)⟩ O) : HS K E (tSeq (tAsg (tBM0 K "list" rPop ta) (gName j)) tz) s O := fun B σ H D S q =>
  ho B σ H _ S fun v H1 e1 r1 => by
    cases (show v = V.ref a from r1)
    have S1 := S.mono e1
    refine ⟨tyw_v (tyw_l (lv_o n hn)) S1 r1, ?_⟩
    obtain ⟨vs, hv, rv⟩ := S1.hh.cell _ (List.mem_of_getElem? hn)
    have hl := rv.len
    rw [List.length_append, List.length_singleton] at hl
    obtain ⟨u, hu, ru⟩ := rv.get (i := xs.length) (w := w) (by simp)
    have hdl : RWs K (msk H1 (ads s.h ++ B)) vs.dropLast xs := by
      have := rv.take xs.length
      rw [List.take_left, show vs.take xs.length = vs.dropLast by rw [List.dropLast_eq_take]; congr 1; omega] at this
      exact this
    have k := cell_set (c' := .lst xs) (o := .lst vs.dropLast) S1 hn ⟨_, rfl, hdl⟩
    refine ⟨a, vs, u, rfl, rfl, hv, by rw [show vs.length - 1 = xs.length by omega]; exact hu, ?_⟩
    refine h B _ _ D ⟨k.1.hh, ?_⟩ (q.step ((Fr.of e1).trans k.2))
    exact k.1.gg.set (ru.mono k.2.msk) j
end
section
variable {X : Cx} {K : PySem.W.Frag} {e : Expr} {te : TE} {tg : Expr}
theorem pi_revK (K : PySem.W.Frag) {mg : Str → Option Value} {ta : TA} {p pos : Pos} (hm : mg "reversed" = none) (ha : PA X [e] ta) (hX : X.mg = mg := by rfl) (hK : X.K = K := by rfl) (hg : Gl X "reversed" := by rfl) (hs : starEach [e] X.env = [(false, eval e X.env)] := by rfl) : PI X tg (.Call (.Name "reversed" p) [e] [] pos) (iRev K ta) := by
  subst hX
  exact hK ▸ pi_reversed hg hm ha hs
theorem mt_popM : MtR X "list.pop" rPop := mt_pop
end
section
variable {K : PySem.W.Frag} {s : S} {te : TE}
theorem ev_kS {z : Str} (h : Ev K te s (ws z)) : Ev K te s (kW (.inr z)) := h
theorem ev_kI {i : Int} (h : Ev K te s (wi i)) : Ev K te s (kW (.inl i)) := h
/-- is None -/
theorem isn_t {ds : List PyData} : ∀ (M : Hp) v, RW K M v (wt ds) → decide (v = .non) = false := fun M v r => by
  cases r with
  | tup hs ha => exact decide_eq_false fun z => by cases z
theorem isn_n : ∀ (M : Hp) v, RW K M v wn → decide (v = .non) = true := fun M v r => by
  rw [rw_n r]; exact decide_eq_true rfl
theorem isn_s {z : Str} : ∀ (M : Hp) v, RW K M v (ws z) → decide (v = .non) = false := fun M v r => by
  rw [rw_s r]; exact decide_eq_false fun z => by cases z
theorem isn_i {z : Int} : ∀ (M : Hp) v, RW K M v (wi z) → decide (v = .non) = false := fun M v r => by
  rw [rw_i r]; exact decide_eq_false fun z => by cases z
theorem rv_notnT {ds : List PyData} : RVs K s rNotN (wt ds) wn (wb true) := rv_notn (b := false) isn_t
theorem rv_notnS {z : Str} : RVs K s rNotN (ws z) wn (wb true) := rv_notn (b := false) isn_s
theorem rv_notnI {z : Int} : RVs K s rNotN (wi z) wn (wb true) := rv_notn (b := false) isn_i
theorem isn_l {ds : List PyData} : ∀ (M : Hp) v, RW K M v (wl ds) → decide (v = .non) = false := fun M v r => by
  cases r with
  | lst hs ha => exact decide_eq_false fun z => by cases z
end
section
variable {P : Program} {w : World} {K : PySem.W.Frag} {mg : Str → Option Value} {base : Heap}
theorem kn_none {CX : CXT} {j : Nat} {x : Str} {st : Stmt} {f : Addr} {fd : FuncData} {ps : List Str} {t : Tr} (F : Fun K x x st f fd) (hg : mg x = some (.ref f)) (hb : Binds K fd ps []) (no : ∀ xs Δ k ex, ¬ t xs Δ k ex) : Kn P w K mg base CX j x ps t := by
  refine ⟨f, fd, ⟨fun vs H Q E h => ?_, fun A outer s H args us vs Q E _ _ _ _ h => ?_⟩, hg, F.kp, hb⟩
  · obtain ⟨_, _, _, _, _, _, _, ht, _⟩ := h
    exact absurd ht (no _ _ _ _)
  · obtain ⟨_, _, _, _, _, _, _, ht, _⟩ := h
    exact absurd ht (no _ _ _ _)
end
end DL

namespace DL
open PySem PySem.Spec PyProof.Rows L2 TL
section
variable {K : PySem.W.Frag} {s s1 s' : S} {ta tb te tl : TE} {tu tz : TS} {E : L2.St → XK} {O : Out} {x y z w : W} {B : List Addr} {H H' : Hp} {σ : L2.St} {g : TG}
theorem tv_get {ds : List PyData} (S : Sat K B s σ H) {v : V} (q : RW K (msk H (ads s.h ++ B)) v (wt ds)) : ∃ a vs, v = .ref a ∧ SqT K H a vs ∧ RWs K (msk H (ads s.h ++ B)) vs (ds.map .d) := by
  cases q with
  | tup hs ha => exact ⟨_, _, rfl, (hs.mono msk_sub).sq, dpa_rws ha⟩
/-- for x in a tuple of data -/
theorem hs_forT {M : S → Prop} {ds : List PyData} (h : Ev K tl s (wt ds)) (I : Nat → S → Prop) (h0 : Wk (I 0) s)
    (hb : ∀ i d s', ds[i]? = some d → I i s' → ∃ s1, GS K g (.d d) s' s1 ∧ HS K E tu s1 { O with n := Wk (I (i + 1)), c := Wk (I (i + 1)), b := Wk M }) (hd : ∀ s', I ds.length s' → M s') : HS K E (tFor (iTup K tl) g tu) s { O with n := M } := fun B σ H D S q =>
  h B σ H _ S fun v H1 e1 r1 => by
    have S1 := S.mono e1
    have q1 := q.step (Fr.of e1 (Δ := s.h))
    obtain ⟨G0, hI0, lG⟩ := h0
    have Sw : Sat K B ⟨G0, s.h⟩ σ H1 := ⟨S1.hh, lG.sat S1.gg⟩
    obtain ⟨a, vs0, rfl, g0, _⟩ := tv_get Sw r1
    refine ⟨a, rfl, ⟨vs0, g0⟩, fun i m σ' H' => m = ds.length - i ∧ i ≤ ds.length ∧ ∃ s', I i s' ∧ Sat K B s' σ' H' ∧ Fr s.h H1 s'.h H', ⟨ds.length, by simp, Nat.zero_le _, ⟨G0, s.h⟩, hI0, Sw, Fr.refl⟩, ?_⟩
    rintro i m σ' H' ⟨rfl, hi, s', hI, S', f⟩
    have r' : RW K (msk H' (ads s'.h ++ B)) (.ref a) (wt ds) := r1.mono f.msk
    obtain ⟨a', vs, ea, gv, rv⟩ := tv_get S' r'
    cases ea
    by_cases hlt : i < ds.length
    · obtain ⟨y, hy, ry⟩ := rv.get (i := i) (w := .d ds[i]) (by rw [List.getElem?_map, List.getElem?_eq_getElem hlt]; rfl)
      refine .inr ⟨⟨vs, y, gv, hy⟩, fun σ2 H2 => ∃ s', I (i + 1) s' ∧ Sat K B s' σ2 H2 ∧ Fr s.h H1 s'.h H2, fun σ2 H2 n2 => ⟨ds.length - (i + 1), by omega, rfl, hlt, n2⟩, fun y' H2 yy => ?_⟩
      obtain ⟨e, yy⟩ := yy
      subst e
      have ey : y' = y := Option.some.inj ((yy vs gv).symm.trans hy)
      subst ey
      obtain ⟨s1, hg, hbody'⟩ := hb i _ s' (List.getElem?_eq_getElem hlt) hI
      have hbody := hs_wk (O := { O with n := I (i + 1), c := I (i + 1), b := M }) hbody'
      refine hg B σ' _ y' _ S' ry fun σ2 H3 S2 f2 => ?_
      have f3 : Fr s.h H1 s1.h H3 := f.trans f2
      exact hbody B σ2 H3 _ S2 ⟨fun s3 σ3 H4 m3 S3 f4 => ⟨s3, m3, S3, f3.trans f4⟩, fun w Δ' v H4 r S3 f4 rr => q1.r w Δ' v H4 r S3 (f3.trans f4) rr, fun s3 σ3 H4 m3 S3 f4 => q1.n s3 σ3 H4 m3 S3 (f3.trans f4), fun s3 σ3 H4 m3 S3 f4 => ⟨s3, m3, S3, f3.trans f4⟩, fun c s3 σ3 H4 xx S3 f4 => q1.x c s3 σ3 H4 xx S3 (f3.trans f4)⟩
    · have e : i = ds.length := by omega
      subst e
      exact .inl ⟨⟨vs, gv, by rw [rv.len, List.length_map]; exact Nat.le_refl _⟩, q1.n s' σ' H' (hd s' hI) S' f⟩
/-- .. whose body ends well in every turn; no break -/
theorem hl_forT {ds : List PyData} (h : Ev K tl s (wt ds)) (I : Nat → S → Prop) (h0 : Wk (I 0) s)
    (hb : ∀ i d s', ds[i]? = some d → I i s' → ∃ s1, GS K g (.d d) s' s1 ∧ HS K E tu s1 { O with n := Wk (I (i + 1)), c := Wk (I (i + 1)), b := O.n }) (hd : ∀ s', I ds.length s' → O.n s') : HS K E (tFor (iTup K tl) g tu) s O := hs_forT (O := O) (M := O.n) h I h0 (fun i u s' hu hI => let ⟨s1, hg, hh⟩ := hb i u s' hu hI; ⟨s1, hg, hs_bwk hh⟩) hd
/-- for x in range(i, j, c), n turns -/
theorem hs_forR3 {M : S → Prop} {tr : TA} {lo hi c : Int} (n : Nat) (h : EvA K tr s [wi lo, wi hi, wi c]) (hc : RgC lo hi c n) (I : Nat → S → Prop) (h0 : Wk (I 0) s)
    (hb : ∀ i s', i < n → I i s' → ∃ s1, GS K g (wi (lo + (i : Nat) * c)) s' s1 ∧ HS K E tu s1 { O with n := Wk (I (i + 1)), c := Wk (I (i + 1)), b := Wk M }) (hd : ∀ s', I n s' → M s') : HS K E (tFor (iRng3 tr) g tu) s { O with n := M } := fun B σ H D S q =>
  h B σ H _ S fun vs H1 e1 r1 => by
    cases r1 with
    | cons r1 r2 =>
      cases r2 with
      | cons r2 r3 =>
        cases r3 with
        | cons r3 r4 =>
          cases r4; cases rw_i r1; cases rw_i r2; cases rw_i r3
          have S1 := S.mono e1
          have q1 := q.step (Fr.of e1 (Δ := s.h))
          obtain ⟨G0, hI0, lG⟩ := h0
          have Sw : Sat K B ⟨G0, s.h⟩ σ H1 := ⟨S1.hh, lG.sat S1.gg⟩
          refine ⟨lo, hi, c, n, rfl, hc, fun i m σ' H' => m = n - i ∧ i ≤ n ∧ ∃ s', I i s' ∧ Sat K B s' σ' H' ∧ Fr s.h H1 s'.h H', ⟨n, by simp, Nat.zero_le _, ⟨G0, s.h⟩, hI0, Sw, Fr.refl⟩, ?_⟩
          rintro i m σ' H' ⟨rfl, hi', s', hI, S', f⟩
          by_cases hlt : i < n
          · refine .inr ⟨hlt, fun σ2 H2 => ∃ s', I (i + 1) s' ∧ Sat K B s' σ2 H2 ∧ Fr s.h H1 s'.h H2, fun σ2 H2 n2 => ⟨n - (i + 1), by omega, rfl, hlt, n2⟩, fun y' H2 yy => ?_⟩
            obtain ⟨e, ey⟩ := yy
            subst e ey
            obtain ⟨s1, hg, hbody'⟩ := hb i s' hlt hI
            have hbody := hs_wk (O := { O with n := I (i + 1), c := I (i + 1), b := M }) hbody'
            refine hg B σ' _ _ _ S' ri fun σ2 H3 S2 f2 => ?_
            have f3 : Fr s.h H1 s1.h H3 := f.trans f2
            exact hbody B σ2 H3 _ S2 ⟨fun s3 σ3 H4 m3 S3 f4 => ⟨s3, m3, S3, f3.trans f4⟩, fun w Δ' v H4 r S3 f4 rr => q1.r w Δ' v H4 r S3 (f3.trans f4) rr, fun s3 σ3 H4 m3 S3 f4 => q1.n s3 σ3 H4 m3 S3 (f3.trans f4), fun s3 σ3 H4 m3 S3 f4 => ⟨s3, m3, S3, f3.trans f4⟩, fun c s3 σ3 H4 xx S3 f4 => q1.x c s3 σ3 H4 xx S3 (f3.trans f4)⟩
          · have e : i = n := by omega
            subst e
            exact .inl ⟨Nat.le_refl _, q1.n s' σ' H' (hd s' hI) S' f⟩
/-- a list's truth -/
theorem et_lst {xs : List W} (h : Ev K te s x) (l : LV s x xs) : EvT K (tTruthU K te) s (!xs.isEmpty) := fun B σ H Q S q => h B σ H _ S fun v H1 e1 r1 => by
  obtain ⟨a, vs, rfl, gv, rv⟩ := l.get (S.mono e1) r1
  refine ⟨_, .inl ⟨vs, gv, rfl⟩, ?_⟩
  have : vs.isEmpty = xs.isEmpty := by cases rv <;> rfl
  rw [this]
  exact q H1 e1
/-- xs.pop(), to any target -/
theorem hq_popG {n : Nat} {a : Addr} {xs : List W} (hn : s.h[n]? = some (a, .lst (xs ++ [w]))) (ho : Ev K ta s (.o a)) (hg : GS K g w ⟨s.g, s.h.set n (a, .lst xs)⟩ s1) (h : HS K E tz s1 O) : HS K E (tSeq (tAsg (tBM0 K "list" rPop ta) g) tz) s O := fun B σ H D S q =>
  ho B σ H _ S fun v H1 e1 r1 => by
    cases (show v = V.ref a from r1)
    have S1 := S.mono e1
    refine ⟨tyw_v (tyw_l (lv_o n hn)) S1 r1, ?_⟩
    obtain ⟨vs, hv, rv⟩ := S1.hh.cell _ (List.mem_of_getElem? hn)
    have hl := rv.len
    rw [List.length_append, List.length_singleton] at hl
    obtain ⟨u, hu, ru⟩ := rv.get (i := xs.length) (w := w) (by simp)
    have hdl : RWs K (msk H1 (ads s.h ++ B)) vs.dropLast xs := by
      have := rv.take xs.length
      rw [List.take_left, show vs.take xs.length = vs.dropLast by rw [List.dropLast_eq_take]; congr 1; omega] at this
      exact this
    have k := cell_set (c' := .lst xs) (o := .lst vs.dropLast) S1 hn ⟨_, rfl, hdl⟩
    refine ⟨a, vs, u, rfl, rfl, hv, by rw [show vs.length - 1 = xs.length by omega]; exact hu, ?_⟩
    refine hg B σ _ u _ k.1 (ru.mono k.2.msk) fun σ2 H2 S2 f2 => ?_
    exact h B σ2 H2 D S2 (q.step (((Fr.of e1).trans k.2).trans f2))
theorem gs_tup4 {d1 d2 d3 d4 : PyData} {g1 g2 g3 g4 : TG} {s2 s3 : S} (h1 : GS K g1 (.d d1) s s1) (h2 : GS K g2 (.d d2) s1 s2) (h3 : GS K g3 (.d d3) s2 s3) (h4 : GS K g4 (.d d4) s3 s') : GS K (gTup K 4 (gCons g1 (gCons g2 (gCons g3 (gCons g4 gNil))))) (wt [d1, d2, d3, d4]) s s' := fun B σ H v Q S r q => by
  cases r with
  | tup hs ha =>
    cases ha with
    | cons a1 a2 =>
      cases a2 with
      | cons a2 a3 =>
        cases a3 with
        | cons a3 a4 =>
          cases a4 with
          | cons a4 a5 =>
            cases a5
            exact ⟨_, _, rfl, (hs.mono msk_sub).sq, rfl, _, _, rfl, h1 B σ H _ _ S a1 fun σ1 H1 S1 f1 => ⟨_, _, rfl, h2 B σ1 H1 _ _ S1 (dp_mono f1.msk a2) fun σ2 H2 S2 f2 => ⟨_, _, rfl, h3 B σ2 H2 _ _ S2 (dp_mono (f1.trans f2).msk a3) fun σ3 H3 S3 f3 => ⟨_, _, rfl, h4 B σ3 H3 _ _ S3 (dp_mono ((f1.trans f2).trans f3).msk a4) fun σ4 H4 S4 f4 => ⟨rfl, q σ4 H4 S4 (((f1.trans f2).trans f3).trans f4)⟩⟩⟩⟩⟩
theorem rv_isnB {a b : Bool} : RVs K s (fun x y H Q => ∃ a b, x = .bl a ∧ y = .bl b ∧ Q (.bl (!decide (a = b))) H) (wb a) (wb b) (wb (!decide (a = b))) := fun B σ H v u Q S p q k => by
  cases rw_b p; cases rw_b q
  exact ⟨a, b, rfl, rfl, k _ H same_refl rb⟩
theorem rv_geS {i j : Str} : RVs K s rGeU (ws i) (ws j) (wb (!decide (i.cps.toList < j.cps.toList))) := fun B σ H v u Q S a b q => by
  cases rw_s a; cases rw_s b
  exact .inr ⟨i, j, rfl, rfl, q _ H same_refl rb⟩
end
end DL

namespace DL
open PySem PySem.Spec PyProof.Rows L2 TL
/-! ### a caught error that is handed to a def, in the suite that caught it -/
/-- the promise may speak of the error that is handled, p -/
structure FnE (P : Program) (w : World) (K : PySem.W.Frag) (mg : Str → Option Value) (base : Heap) (k : Nat) (f : Addr) (fd : FuncData) (ps : List Str) (sp : Addr × Obj → Sp) : Prop where
  ln : ∀ p vs H Q E, sp p vs H Q E → vs.length = ps.length
  go : ∀ (A : Around) (fr : List Env) (s : Shared) (H : Hp) (as : Args) (us : List Value) (vs : List V) (Q : VK) (E : XK) (p : Addr × Obj), L2H.RoomH k A → L2H.PinOk fr H s p → Env0 P w K mg base A fr s H →
    BindsTo s fd as (ps.zip us) → Vals vs us → sp p vs H Q E → codeAny (model P w) A (.call (.ref f) as) (CR CX0 fr P w H s Q E) s
section
variable {P : Program} {w : World} {K : PySem.W.Frag} {mg : Str → Option Value} {base : Heap}
theorem fnE_of {x qual : Str} {st : Stmt} {f : Addr} {fd : FuncData} {N ps : List Str} {k : Nat} {t : Addr × Obj → Tr} (F : Fun K x qual st f fd) (S : FnScope N ps (defScope st)) (ln : ∀ p xs Δ k ex, t p xs Δ k ex → xs.length = ps.length)
    (hb : ∀ (cdv : Value) (A : Around) (fr : List Env) (s : Shared) (H : Hp) (E : XK) (p : Addr × Obj), L2H.RoomH k (A.deeper (envOfC qual (defScope st) s.heap.objs.size f cdv)) →
      ∃ ts, PSs (L2H.cxH CX0 P w K mg base N qual (defScope st) f cdv A fr s H E p) (defBody st) ts ∧ ∀ xs Δ k ex, t p xs Δ k ex → HS K (fun _ => E) ts ⟨xs.map some ++ List.replicate (N.length - xs.length) none, Δ⟩ { n := fun s' => k wn s'.h, r := k, x := fun c s' => ex c s'.h }) :
    FnE P w K mg base (k + 1) f fd ps (fun p => spOf K (t p)) := by
  obtain ⟨oc, od, kV, doc, pm, an, cdv, ct, osl, rfl, atF, isC⟩ := F.ex
  have lens : ∀ p vs H Q E, spOf K (t p) vs H Q E → vs.length = ps.length := fun p vs H Q E h => by
    obtain ⟨B, xs, Δ, k, ex, sh, r, ht, _⟩ := h
    exact r.len.trans (ln p _ _ _ _ ht)
  refine ⟨lens, fun A fr s H as us vs Q E p room pinned env bind rel prom => ?_⟩
  have heapK : K.In s.heap := env.mod.kin.keeps fun b o z => (env.bs b o z).1
  have noLim : s.heap.NoLimit := env.mod.nolimit.keeps fun b o z => (env.bs b o z).1
  have kinds : ∀ y ∈ ps.zip us, (defScope st).names.lookup y.1 = some .local ∨ ((defScope st).names.lookup y.1 = some .cell ∧ ((cellsFrom (s.heap.objs.size + 1) (defScope st).names []).lookup y.1).isSome = true) := fun y hy =>
    (S.par y.1 (List.of_mem_zip (a := y.1) (b := y.2) hy).1).imp id fun z => ⟨z, PySem.W.cellsFrom_some _ _ _ (.inl z)⟩
  refine codeAny_call_function room.depth (heapK _ _ atF) rfl S.co S.gen rfl (PySem.W.codeRec_of heapK isC) (bind _ _ _ _ ?_)
  refine wpAny_newFunctionEnv_cells S.kind kinds fun env1 he s1 inC => ?_
  subst he
  refine ⟨noLim.keeps inC.toInCall.keep, codeAny_func ?_⟩
  obtain ⟨ts, hts, rd⟩ := hb cdv A fr s H E p (room.deeper _)
  have J := L2H.inv_startH (CX := CX0) (E := E) S pinned env (lens _ _ _ _ _ prom) rel inC
  have run := hts.run [] s1 (L2.start N vs) H _ J (body_ok (fun xs Δ k ex ht _ => rd xs Δ k ex ht) prom)
  refine wpAny_mono run (fun fl s2 hs => ?_) fun e s2 hs => hs
  cases fl with
  | next =>
    obtain ⟨σ2, H2, J2, q2⟩ := hs
    exact ⟨.non, H2, J2.os, J2.bare, J2.base, J2.hok, rfl, q2⟩
  | ret u =>
    obtain ⟨v2, σ2, H2, J2, r2, q2⟩ := hs
    exact ⟨v2, H2, J2.os, J2.bare, J2.base, J2.hok, r2, q2⟩
  | brk => exact hs.elim fun _ z => z.elim fun _ z => z.2.elim
  | cont => exact hs.elim fun _ z => z.elim fun _ z => z.2.elim
/-- a def that is known so -/
def KnE (P : Program) (w : World) (K : PySem.W.Frag) (mg : Str → Option Value) (base : Heap) (k : Nat) (x : Str) (ps : List Str) (t : Addr × Obj → Tr) : Prop :=
  ∃ f fd, FnE P w K mg base k f fd ps (fun p => spOf K (t p)) ∧ mg x = some (.ref f) ∧ PySem.W.keepIn K (.ref f) = true ∧ Binds K fd ps []
theorem knE_of {x : Str} {st : Stmt} {f : Addr} {fd : FuncData} {N ps : List Str} {k : Nat} {t : Addr × Obj → Tr} (F : Fun K x x st f fd) (hg : mg x = some (.ref f)) (hb : Binds K fd ps []) (S : FnScope N ps (defScope st)) (ln : ∀ p xs Δ k ex, t p xs Δ k ex → xs.length = ps.length)
    (h : ∀ (cdv : Value) (A : Around) (fr : List Env) (s : Shared) (H : Hp) (E : XK) (p : Addr × Obj), L2H.RoomH k (A.deeper (envOfC x (defScope st) s.heap.objs.size f cdv)) →
      ∃ ts, PSs (L2H.cxH CX0 P w K mg base N x (defScope st) f cdv A fr s H E p) (defBody st) ts ∧ ∀ xs Δ k ex, t p xs Δ k ex → HS K (fun _ => E) ts ⟨xs.map some ++ List.replicate (N.length - xs.length) none, Δ⟩ { n := fun s' => k wn s'.h, r := k, x := fun c s' => ex c s'.h }) :
    KnE P w K mg base (k + 1) x ps t := ⟨f, fd, fnE_of F S ln h, hg, F.kp, hb⟩
end
section
variable {X : Cx} {k j : Nat} {f a : Addr} {oe : Obj} {cls : Value} {d : Option Addr} {pn : List (Addr × Obj)} {x : Str} {ps : List Str} {sp : Sp} {t : Addr × Obj → Tr} {p pos : Pos} {e : Expr} {es : List Expr} {ta : TA} {A : Around}
variable {P : Program} {w : World} {K : PySem.W.Frag} {mg : Str → Option Value} {base : Heap} {s : S}
/-- f(.., n, ..), n the error that the suite holds -/
def tCallE (sp : Addr × Obj → Sp) (a : Addr) (cls : Value) (d : Option Addr) (t : TA) : TE := fun σ H Q => t σ H fun vs H1 => ∀ oe : Obj, L2.Zc cls d oe → (∃ vs, oe.data = .fields vs) → sp (a, oe) vs H1 Q L2.E0
theorem pe_knE (h : KnE P w K mg base k x ps t) (hr : Room j A) (hj : k ≤ j) (hz : L2.Zc cls d oe) (hf : ∃ vs, oe.data = .fields vs) (ha : PA (X.suite a ((a, oe) :: pn)) (e :: es) ta) (hA : X.A = A := by rfl)
    (hX : At X P w K mg base := by exact ⟨rfl, rfl, rfl, rfl, rfl⟩) (hg : Gl (X.suite a ((a, oe) :: pn)) x := by rfl) (hdb : (x == ("__debug__" : Str)) = false := by decide) (he : starEach (e :: es) X.env = (false, eval e X.env) :: starEach es X.env := by rfl)
    (hpl : (backTo pos (starEach es X.env)).any (·.1) = false := by rfl) : PE (X.suite a ((a, oe) :: pn)) (.Call (.Name x p) (e :: es) [] pos) (tCallE (fun p => spOf K (t p)) a cls d ta) := by
  obtain ⟨f, fd, F, hm, hk, hb⟩ := h
  obtain ⟨rfl, rfl, rfl, rfl, rfl⟩ := hX
  subst hA
  refine ⟨fun pins s σ H Q I h0 => wpAny_Call_Name_kw (ld_glob I hg hm (PySem.W.callWith_K (h₀ := X.base) I.ok.mod.kin hk (thn (ha.run pos pins s σ H _ I h0) fun us s1 hh => ?_) he hpl) hdb)⟩
  obtain ⟨vs, H1, I1, r, q⟩ := hh
  refine ⟨I1.kIn, ?_⟩
  have q1 := q oe hz hf
  obtain ⟨e1, n1, nL, nF, nc⟩ := I1.pin (a, oe) (List.mem_append_left _ List.mem_cons_self)
  have hl : us.length = ps.length := by rw [← r.length]; exact F.ln _ _ _ _ _ q1
  have bd := hb s1 us I1.kIn (by rw [List.append_nil]; exact hl)
  rw [List.append_nil] at bd
  have pinned : L2H.PinOk X.stack H1 s1 (a, oe) := ⟨e1, n1, fun hm => by
    rcases I1.ok.stk with z | ⟨z, z2⟩
    · exact nF (show a ∈ frs X.outer from z ▸ hm)
    · have hm' : a ∈ frs (X.env :: X.outer) := z ▸ hm
      unfold frs at hm'
      rw [List.filterMap_cons, (z2 : X.env.frame = _)] at hm'
      exact (List.mem_cons.mp hm').elim nL nF, nc⟩
  have rm : L2H.RoomH k (X.suite a ((a, oe) :: pn)).A := ⟨(hr.mono hj).dp, (hr.mono hj).un⟩
  refine wpAny_call (codeAny_mono (F.go (X.suite a ((a, oe) :: pn)).A X.stack s1 H1 ⟨us, []⟩ us vs Q L2.E0 (a, oe) rm pinned I1.env0 bd r q1) fun rr s2 hq => ?_)
  cases rr with
  | error _ => exact hq.elim
  | ok fl =>
    cases fl with
    | ret u => exact I1.after hq
    | _ => exact False.elim hq
theorem ev_callE {xs : List W} {b : Bool} (h : EvA K ta s xs) (ht : ∀ oe, L2.Zc cls d oe → (∃ vs, oe.data = .fields vs) → t (a, oe) xs [] (fun w' Δ' => w' = wb b ∧ Δ' = []) (fun _ _ => False)) : Ev K (tCallE (fun p => spOf K (t p)) a cls d ta) s (wb b) := fun B σ H Q S q =>
  h B σ H _ S fun vs H1 e1 r oe hz hf => by
    have S1 := S.mono e1
    refine ⟨ads s.h ++ B, xs, [], _, _, sath_mt S1.hh, by rw [show ads ([] : Del) = [] from rfl, List.nil_append]; exact r, ht oe hz hf, ?_, fun _ _ _ z => z.elim⟩
    rintro w' Δ' v H' ⟨rfl, rfl⟩ _ f rr
    have hv := rw_b rr
    subst hv
    exact q _ H' (e1.trans (fr_nil_same f)) rb
/-! isinstance of such an error: one class, or a tuple of classes -/
def KitC (K : PySem.W.Frag) (D : Addr) (c : V) (H : Hp) (b : Bool) : Prop := (∃ cv, (∀ u, RelV c u → u = cv) ∧ PySem.W.kitOne K (.ref D) cv = some b) ∨ ∃ (q : Addr) (cs : List Addr), c = .ref q ∧ H q = some (.tup (cs.map V.ref)) ∧ PySem.W.kitAny K (.ref D) (cs.map Value.ref) = some b
theorem vals_ref : ∀ {cs : List Addr} {its : List Value}, Vals (cs.map V.ref) its → its = cs.map Value.ref
  | [], _, h => by cases h; rfl
  | c :: cs, _, h => by
    cases h with
    | cons r rr =>
      cases r
      rw [vals_ref rr]
      rfl
theorem inst_at {h : Heap} {D : Addr} (e : h.get? a = some oe) (z : L2.Zc (.ref D) none oe) (f : ∃ vs, oe.data = .fields vs) : PySem.W.InstAt h a oe D none := by
  obtain ⟨vs, hv⟩ := f
  obtain ⟨oc, od, oda, osl⟩ := oe
  obtain ⟨z1, z2⟩ := z
  dsimp only at z1 z2 hv
  subst z1 z2 hv
  exact ⟨e, rfl, rfl, trivial⟩
theorem isi_err {pins : List (Addr × Obj)} {s : Shared} {σ : L2.St} {H : Hp} {us : List Value} {Q : VK} {D : Addr} {c : V} {b : Bool} (I : Inv X pins σ H s) (hp : (a, oe) ∈ X.pn ++ pins) (r : Vals [.ref a, c] us) (hz : L2.Zc (.ref D) none oe) (hf : ∃ vs, oe.data = .fields vs) (C : ExcC X.K D) (hc : KitC X.K D c H b) (q : Q (.bl b) H) :
    wpAny (model X.prog X.w) X.A (call (.builtin "isinstance") us) (EP X pins σ Q) X.xe s := by
  obtain ⟨e, _⟩ := I.pin (a, oe) hp
  have J := inst_at e hz hf
  have Z := PySem.W.handS_kitx_exc (x := a) (ox := oe) C.hg C.hk C.hs C.hd C.ha C.hn C.ht C.hm
  cases r with
  | cons rx rr =>
    cases rr with
    | cons rt rr =>
      cases rr
      cases rx
      rcases hc with ⟨cv, hcv, e2⟩ | ⟨p, cs, rfl, hp, e2⟩
      · have ec := hcv _ rt
        subst ec
        refine PySem.W.kia_one Z I.kIn J e2 (fun z => nomatch z) fun tk => ?_
        exact ⟨.bl b, H, I.tok tk, rfl, q⟩
      · cases rt
        obtain ⟨_, its, rv, o, g1, g2, n, g3⟩ := (show ObjOk X.prog X.w H s.heap p (.tup (cs.map V.ref)) from I.hok p _ hp)
        rw [vals_ref rv] at g3
        obtain ⟨oc, od, dt, sl⟩ := o
        simp only at g2 g3
        subst g2 g3
        refine PySem.W.kia_tup Z I.kIn J g1 e2 (fun z => nomatch z) fun tk => ?_
        exact ⟨.bl b, H, I.tok tk, rfl, q⟩
/-- in the suite -/
def rIsS (K : PySem.W.Frag) (D a : Addr) : List V → Hp → VK → Prop := fun xs H Q => ∃ c b, xs = [.ref a, c] ∧ KitC K D c H b ∧ Q (.bl b) H
theorem call_isS {D : Addr} (C : ExcC X.K D) (hz : L2.Zc (.ref D) none oe) (hf : ∃ vs, oe.data = .fields vs) : CallR (X.suite a ((a, oe) :: pn)) (.builtin "isinstance") (rIsS X.K D a) := by
  intro pins s σ H xs us Q I r h
  obtain ⟨c, b, rfl, hc, q⟩ := h
  exact isi_err I (List.mem_append_left _ List.mem_cons_self) r hz hf C hc q
/-- in the def that it is handed to -/
def rIsP (K : PySem.W.Frag) (p : Addr × Obj) : List V → Hp → VK → Prop := fun xs H Q => ∃ D c b, xs = [.ref p.1, c] ∧ L2.Zc (.ref D) none p.2 ∧ (∃ vs, p.2.data = .fields vs) ∧ ExcC K D ∧ KitC K D c H b ∧ Q (.bl b) H
theorem call_isP (K : PySem.W.Frag) (q : Addr × Obj) (hq : X.pn = [q] := by rfl) (hK : X.K = K := by rfl) : CallR X (.builtin "isinstance") (rIsP K q) := by
  subst hK
  intro pins s σ H xs us Q I r h
  obtain ⟨D, c, b, rfl, hz, hf, C, hc, q1⟩ := h
  exact isi_err I (by rw [hq]; exact List.mem_append_left _ List.mem_cons_self) r hz hf C hc q1
/-- the class, or the tuple of classes, as an argument -/
def EvC (K : PySem.W.Frag) (te : TE) (s : S) (D : Addr) (b : Bool) : Prop := ∀ (B : List Addr) (σ : L2.St) (H : Hp) (Q : VK), Sat K B s σ H → (∀ v H', Same H H' → KitC K D v H' b → Q v H') → te σ H Q
theorem evc_one {C D : Addr} {b : Bool} (h : PySem.W.kitOne K (.ref D) (.ref C) = some b) : EvC K (tC (.ref C)) s D b := fun B σ H Q S q => q _ H same_refl (.inl ⟨.ref C, fun u hu => by cases hu; rfl, h⟩)
theorem evc_ty {T : String} {D : Addr} {b : Bool} (h : PySem.W.kitOne K (.ref D) (.type T) = some b) : EvC K (tC (.ty T)) s D b := fun B σ H Q S q => q _ H same_refl (.inl ⟨.type T, fun u hu => by cases hu; rfl, h⟩)
theorem evc_two {C1 C2 D : Addr} {b1 b2 : Bool} (h1 : PySem.W.kitOne K (.ref D) (.ref C1) = some b1) (h2 : PySem.W.kitOne K (.ref D) (.ref C2) = some b2) : EvC K (tTup (tCons (tC (.ref C1)) (tCons (tC (.ref C2)) tNil))) s D (b1 || b2) := fun B σ H Q S q => by
  refine ⟨show 2 ≤ sizeLine by decide +kernel, fun p hp => q _ _ (same_new hp) (.inr ⟨p, [C1, C2], rfl, upd_same, ?_⟩)⟩
  exact kitAny_cons h1 (fun e => by subst e; exact kitAny_cons h2 (fun e => by subst e; rfl) (fun e => by subst e; rfl)) fun e => by subst e; rfl
theorem ev_isS {D : Addr} {b : Bool} {tc : TE} {te : TE} (he : Ev K te s (.x (.ref a))) (h : EvC K tc s D b) : Ev K (tCB (rIsS K D a) (tCons te (tCons tc tNil))) s (wb b) := fun B σ H Q S q =>
  he B σ H _ S fun v H1 e1 r1 => h B σ H1 _ (S.mono e1) fun c H2 e2 hc => by
    cases r1
    exact ⟨c, b, rfl, hc, q _ H2 (e1.trans e2) rb⟩
theorem ev_isP {y : Addr × Obj} {D : Addr} {b : Bool} {tc te : TE} (hz : L2.Zc (.ref D) none y.2) (hf : ∃ vs, y.2.data = .fields vs) (C : ExcC K D) (he : Ev K te s (.x (.ref y.1))) (h : EvC K tc s D b) : Ev K (tCB (rIsP K y) (tCons te (tCons tc tNil))) s (wb b) := fun B σ H Q S q =>
  he B σ H _ S fun v H1 e1 r1 => h B σ H1 _ (S.mono e1) fun c H2 e2 hc => by
    cases r1
    exact ⟨D, c, b, rfl, hz, hf, C, hc, q _ H2 (e1.trans e2) rb⟩
end
end DL
namespace DL
open PySem PySem.Spec PyProof.Rows L2 TL
theorem rm_find3 {K : PySem.W.Frag} {s : S} {a b : Str} {i : Int} : RMs K s (fun x xs H Q => ∃ (a b : Str) (i : Int), x = .str a ∧ xs = [.str b, .int i] ∧ Q (.int (Txt.find3 a b i)) H) (ws a) [ws b, wi i] (wi (Txt.find3 a b i)) := fun B σ H v vs Q S r1 r2 q => by
  cases rw_s r1
  cases r2 with
  | cons r2 r3 =>
    cases r3 with
    | cons r3 r4 =>
      cases r4
      cases rw_s r2
      cases rw_i r3
      exact ⟨a, b, i, rfl, rfl, q _ H same_refl ri⟩
end DL
namespace DL
open PySem PySem.Spec PyProof.Rows L2 TL
/-- what is raised leaves the own cells behind -/
theorem hs_x0 {K : PySem.W.Frag} {E : L2.St → XK} {t1 : TS} {s : S} {O : Out} (h : HS K E t1 s { O with x := fun c s' => O.x c ⟨s'.g, []⟩ }) : HS K E t1 s O := fun B σ H D S q =>
  h B σ H D S ⟨q.n, q.r, q.b, q.c, fun c s' σ' H' hx S' f => q.x c ⟨s'.g, []⟩ σ' H' hx ⟨sath_nil S'.hh, S'.gg.mono (msk_less fun b hb => List.mem_append_right _ (by simpa [ads] using hb))⟩ (fr_nil f)⟩
end DL
namespace DL
open PySem PySem.Spec PyProof.Rows L2 TL
section
variable {K : PySem.W.Frag} {s : S} {E : L2.St → XK} {tr : TA} {O : Out} {tz : TS}
theorem hs_retT {t : Tr} {xs : List W} (h : EvA K tr s xs) (ht : t xs [] (fun w' Δ' => Δ' = [] ∧ O.r w' []) (fun _ _ => False)) : HS K E (tRet (tCall (spOf K t) [] E0 tr)) s O := fun B σ H D S q =>
  h B σ H _ S fun vs H1 e1 r1 => by
    have S1 := S.mono e1
    refine ⟨ads s.h ++ B, xs, [], _, _, sath_mt S1.hh, by rw [List.append_nil]; exact r1, ht, ?_, fun _ _ _ z => z.elim⟩
    rintro w' Δ' v H' ⟨rfl, hr⟩ _ f r
    have e2 := e1.trans (fr_nil_same f)
    exact q.r w' [] v H' hr (sath_nil (S.mono e2).hh) (fr_nil (Fr.of e2 (Δ := s.h))) (r.mono (msk_less fun b hb => List.mem_append_right _ (List.mem_append_right _ (show b ∈ B from hb))))
theorem hs_asgT {t : Tr} {xs : List W} {j : Nat} (h : EvA K tr s xs) (ht : t xs [] (fun w' Δ' => Δ' = [] ∧ O.n ⟨s.g.set j (some w'), s.h⟩) (fun _ _ => False)) : HS K E (tAsg (tCall (spOf K t) [] E0 tr) (gName j)) s O := fun B σ H D S q =>
  h B σ H _ S fun vs H1 e1 r1 => by
    have S1 := S.mono e1
    refine ⟨ads s.h ++ B, xs, [], _, _, sath_mt S1.hh, by rw [List.append_nil]; exact r1, ht, ?_, fun _ _ _ z => z.elim⟩
    rintro w' Δ' v H' ⟨rfl, hr⟩ _ f r
    have e2 := e1.trans (fr_nil_same f)
    have S2 := S.mono e2
    exact q.n _ _ H' hr ⟨S2.hh, S2.gg.set r j⟩ (Fr.of e2)
end
end DL

namespace DL
open PySem PySem.Spec PyProof.Rows L2 TL
/-! ### dicts with tuples of atoms as keys -/
def kD : Key → PyData
  | .inl i => .int i
  | .inr z => .str z
def keyD (k : List Key) : PyData := .tuple (k.map kD)
def sDDelT (K : PySem.W.Frag) (td ty : TE) : TS := fun D σ H => td σ H fun x H1 => ty σ H1 fun y H2 => ∃ a kvs k b, x = .ref a ∧ H2 a = some (.dT kvs) ∧ y = .ref b ∧ SqT K H2 b (k.map kV) ∧ (valV kvs k).isSome = true ∧ D.nx σ (upd H2 a (.dT (dropK kvs k)))
section
variable {X : Cx} {o i : Expr} {pos tpos : Pos} {td ty : TE}
theorem del_tup {pins : List (Addr × Obj)} {s : Shared} {σ : L2.St} {H : Hp} {a b : Addr} {kvs : List (List Key × V)} {k : List Key} {Q : Unit → Shared → Prop} (hu : X.A.units + 1 < cLine) (I : Inv X pins σ H s) (e : H a = some (.dT kvs)) (eb : SqT X.K H b (k.map kV))
    (hv : (valV kvs k).isSome = true) (q : ∀ s', Inv X pins σ (upd H a (.dT (dropK kvs k))) s' → Q () s') : wpAny (model X.prog X.w) X.A (delItem (.ref a) (.ref b)) Q X.xe s := by
  obtain ⟨z, hd, xs, rel, dd⟩ := dt_of I.hok e
  have hz : xs.length ≤ sizeLine := by rw [← Paired.length rel]; exact z
  have r := rel.val k
  obtain ⟨p, hp⟩ : ∃ p, atKey xs k = some p := by
    cases hp : atKey xs k with
    | some p => exact ⟨p, rfl⟩
    | none =>
      rw [hp] at r
      cases ev : valV kvs k with
      | none => rw [ev] at hv; cases hv
      | some v0 =>
        rw [ev] at r
        exact (show False from r).elim
  have key : (tupleKind (mixKind X.prog X.w)).is s.heap k b := by
    obtain ⟨its, rv, ⟨o, e1, c1, n, d1⟩, _⟩ := I.tuple eb
    exact ⟨o, its.toArray, n, e1, c1, d1, by simpa using items_are rv⟩
  refine wpAny_delItem_heap (hsz := hz) (tupleKind_room_in1 hu) key hd dd hp fun h' dd' hs => q _ ?_
  obtain ⟨ob, es, ep, hq, h2, h3, h4, _, h5⟩ := dd'
  have hk2 : KT (upd H a (.dT (dropK kvs k))) (dropK kvs k) (DT.dropH xs k) := (L2.DX.KT_drop k rel).keeps fun c ys ec => by
    rw [upd_ne (ne_of ec e (fun z => nomatch z))]
    exact ec
  exact d_write I (by rw [e]; exact True.intro) hs ⟨ob, hq⟩ ⟨Nat.le_trans (dropK_le kvs k) z, hd, _, hk2, ob, es, ep, hq, h2, h3, h4, h5⟩
theorem ps_ddelT (K : PySem.W.Frag) (hu : X.A.units + 1 < cLine) (ho : PE X o td) (hi : PE X i ty) (hK : X.K = K := by rfl) : PS X (.Delete [.Subscript o i tpos] pos) (sDDelT K td ty) := by
  subst hK
  refine ⟨fun pins s σ H D I h => wpAny_Delete (wpAny_deleteEach_cons (wpAny_delete_Subscript (thn (ho.run pins s σ H _ I h) fun u s1 hh => ?_)))⟩
  obtain ⟨x, H1, I1, rx, q1⟩ := hh
  refine thn (hi.run pins s1 σ H1 _ I1 q1) fun iv s2 hh => ?_
  obtain ⟨y, H2, I2, ry, a, kvs, k, b, ex, e, ey, eb, l, q2⟩ := hh
  subst ex ey
  cases (show u = Value.ref a from rx)
  cases (show iv = Value.ref b from ry)
  exact del_tup hu I2 e eb l fun s3 I3 => wpAny_deleteEach_nil ⟨σ, _, I3, q2⟩
end
/-! sorted(d) -/
def rSortDt : List V → Hp → VK → Prop := fun xs H Q => ∃ (a : Addr) (kvs : List (List Key × V)) (ds : List PyData), xs = [.ref a] ∧ H a = some (.dT kvs) ∧ ds = kvs.map (fun kv => keyD kv.1) ∧ PySem.W.AllAlike ds ∧ PySem.W.Sortable ds ∧ (∀ d ∈ ds, d.depth ≤ 64) ∧
  ∀ ys p, Each (fun y d => ∃ k b, d = keyD k ∧ y = V.ref b ∧ H b = some (.tup (k.map kV))) ys (sortD ds) → H p = none → Q (.ref p) (upd H p (.lst ys))
theorem dp_atoms {K : PySem.W.Frag} {H : Hp} : ∀ k : List Key, DpAll K H (k.map kV) (k.map kD)
  | [] => .nil
  | .inl i :: k => .cons (.int i) (dp_atoms k)
  | .inr z :: k => .cons (.str z) (dp_atoms k)
theorem keys_dp {K : PySem.W.Frag} {H : Hp} {kvs : List (List Key × V)} {xs : List (List Key × Addr × Value)} (r : KT H kvs xs) : DpAll K H (xs.map fun x => V.ref x.2.1) (kvs.map fun kv => keyD kv.1) := by
  induction r with
  | nil => exact .nil
  | cons h _ ih => exact .cons (.tup (SqT.of h.2.1) (dp_atoms _)) ih
theorem keys_zip {H : Hp} {kvs : List (List Key × V)} {xs : List (List Key × Addr × Value)} (r : KT H kvs xs) : ∀ y d, (y, d) ∈ (xs.map fun x => V.ref x.2.1).zip (kvs.map fun kv => keyD kv.1) → ∃ k b, d = keyD k ∧ y = V.ref b ∧ H b = some (.tup (k.map kV)) := by
  induction r with
  | nil => intro y d h; cases h
  | cons h _ ih =>
    intro y d hm
    rw [List.map_cons, List.map_cons, List.zip_cons_cons] at hm
    rcases List.mem_cons.mp hm with e | e
    · cases e
      exact ⟨_, _, rfl, rfl, h.2.1⟩
    · exact ih y d e
theorem Each.imp {P R : V → PyData → Prop} {ys : List V} {ds : List PyData} (h : Each P ys ds) (f : ∀ y d, P y d → R y d) : Each R ys ds := by
  induction h with
  | nil => exact .nil
  | cons a _ ih => exact .cons (f _ _ a) ih
theorem refs_vals : ∀ xs : List (List Key × Addr × Value), Vals (xs.map fun x => V.ref x.2.1) (xs.map fun x => Value.ref x.2.1)
  | [] => .nil
  | _ :: xs => .cons rfl (refs_vals xs)
section
variable {X : Cx}
theorem cr_sortDt (hu : X.A.units + 100 < cLine) (hc : X.calm = true) : CallR X (.builtin "sorted") rSortDt := by
  intro pins s σ H xs us Q I r h
  obtain ⟨a, kvs, ds, rfl, hd, rfl, hal, hk, hdep, q⟩ := h
  obtain ⟨u, rfl, ru⟩ := vals1 r
  obtain rfl : u = Value.ref a := ru
  obtain ⟨z, hs, ks, pr, o, es, ep, ho, hx, hdt, he, hn⟩ := (show ObjOk X.prog X.w H s.heap a (.dT kvs) from I.hok a _ hd)
  have l1 : es.size = ks.length := size_of_entries he
  have l2 : kvs.length = ks.length := Paired.length pr
  refine Calls.call_function_entry PyProof.Rows.kind_sorted PyProof.Rows.plain_sorted PyProof.Rows.entry_sorted (PyProof.Rows.args_sorted1 _) ?_
  unfold Builtin.«sorted»
  refine wpAny_bind (m := checkCount "sorted" 1 1 _) (wpAny_pure ?_)
  refine wpAny_bind (PySem.W.kdu_collect (A := X.A.in1) (kdl_raw hs hx hdt) (I.ok.hd hc) ho (by omega) fun h1 tk acc kp it => ?_)
  have hl : acc.toList.length = ks.length := by rw [Array.length_toList, it.1]; exact l1
  have ea : acc.toList = ks.map fun x => Value.ref x.2.1 := by
    refine List.ext_getElem? fun j => ?_
    rw [List.getElem?_map]
    cases hj : acc.toList[j]? with
    | none =>
      have g1 := List.getElem?_eq_none_iff.mp hj
      rw [List.getElem?_eq_none (by omega)]
      rfl
    | some v =>
      obtain ⟨en, hen, hv⟩ := it.2 j v (by rw [← Array.getElem?_toList]; exact hj)
      have qe := entry_at he j
      rw [hen] at qe
      cases hb : ks[j]? with
      | none =>
        rw [hb] at qe
        exact nomatch (show some en = none from qe)
      | some y =>
        rw [hb] at qe
        have e2 : en = entryOfKey (tupleKind (mixKind X.prog X.w)) y := Option.some.inj qe
        rw [hv, e2]
        rfl
  have rv : Vals (ks.map fun x => V.ref x.2.1) acc.toList := by rw [ea]; exact refs_vals ks
  have I1 : Inv X pins σ H { s with heap := h1, toks := tk } := I.kept kp
  obtain ⟨as, ra⟩ := Dp.readsAll I1 _ _ acc.toList (keys_dp pr) rv
  have hz : acc.toList.length ≤ sizeLine := by omega
  refine wpAny_bind (wpAny_newList ?_ hz)
  generalize hds : (kvs.map fun kv => keyD kv.1) = ds at hal hk hdep q ra
  have hlen : (ks.map fun x => V.ref x.2.1).length = ds.length := by rw [← hds, List.length_map, List.length_map]; exact l2.symm
  have hL : (h1.push (seqObj "list" acc.toList.toArray 0)).get? h1.objs.size = some (seqObj "list" acc.toList.toArray 0) := Heap.get?_push_size _ rfl
  show wpAny _ _ _ _ _ { s with heap := h1.push (seqObj "list" acc.toList.toArray 0), toks := tk }
  have old : ∀ b u, h1.get? b = some u → (PySem.W.sortingHeap (h1.push (seqObj "list" acc.toList.toArray 0)) h1.objs.size acc.toList).get? b = some u := fun b u e => PySem.W.sortingHeap_old (Nat.ne_of_lt (Heap.lt_size e)) (Heap.get?_push_of_some _ e)
  have ra2 := ReadsAll.keeps (h' := PySem.W.sortingHeap (h1.push (seqObj "list" acc.toList.toArray 0)) h1.objs.size acc.toList) old ra
  have e1 := PySem.W.each_keys hal (each_reads ra2)
  have e2 := PySem.W.sortVals_each (κ := PySem.W.dataKind (PySem.W.sortingHeap (h1.push (seqObj "list" acc.toList.toArray 0)) h1.objs.size acc.toList) ds) (β := PyData) (rev := false) PySem.W.keyToks (each_vals rv hlen) e1
  obtain ⟨ys, ry, ey⟩ := each_back e2
  have ey2 : Each (fun y d => (y, d) ∈ (ks.map fun x => V.ref x.2.1).zip ds) ys (sortD ds) := ey
  obtain ⟨n, hnS⟩ := PyProof.Rows.sortedHeap_at (vs := acc.toList) (out := (PySem.W.sortVals (PySem.W.dataKind (PySem.W.sortingHeap (h1.push (seqObj "list" acc.toList.toArray 0)) h1.objs.size acc.toList) ds) false acc.toList acc.toList).toArray) hL
  refine wpAny_bind (wpAny_holding (wpAny_call_entry PyProof.Rows.slot_list_sort ⟨_, hL, rfl⟩ PyProof.Rows.entry_list_sort
    (PySem.W.list_sort_vals (s := { s with heap := h1.push (seqObj "list" acc.toList.toArray 0), toks := tk }) (κ := PySem.W.dataKind (PySem.W.sortingHeap (h1.push (seqObj "list" acc.toList.toArray 0)) h1.objs.size acc.toList) ds) hL
      (PySem.W.SortsAt.data (each_reads ra2) hal hk fun d hd => by
        have := hdep d hd
        show X.A.units + 1 + 1 + d.depth < cLine
        omega) hz ⟨_, rfl, ?_⟩)
    (PyProof.Rows.args_list_sort _)))
  have hys : ys.length ≤ sizeLine := by rw [ey.len.trans (List.length_mergeSort ..), ← hlen, List.length_map]; omega
  refine wpAny_pure ⟨_, rfl, .ref h1.objs.size, upd H h1.objs.size (.lst ys), I1.laid (t' := tk) (fun b u e => ?_) (Nat.le_refl _) (show ObjOk X.prog X.w _ _ _ (.lst ys) from ⟨hys, _, n, ry, hnS⟩), rfl, q ys _ (ey2.imp fun y d hm => keys_zip pr y d (by rw [hds]; exact hm)) (I1.hok.fresh (Nat.le_refl _))⟩
  have hb : b < h1.objs.size := Heap.lt_size e
  rw [PyProof.Rows.sortedHeap_old (Nat.ne_of_lt hb) (by rw [size_push']; exact Nat.lt_succ_of_lt hb)]
  exact Heap.get?_push_of_some _ e
end
end DL
namespace DL
open PySem PySem.Spec PyProof.Rows L2 TL
section
variable {K : PySem.W.Frag} {s s1 s' : S} {ta tb te tl td ty tv : TE} {tr : TA} {tt : TT} {x y z w : W} {B : List Addr} {H H' : Hp} {σ : L2.St} {E : L2.St → XK} {O : Out} {t1 t2 tz tu : TS} {d : Addr} {kvs : List (List Key × W)} {key : List Key}
theorem rws_key {M : Hp} : ∀ {k : List Key} {vs : List V}, RWs K M vs (k.map kW) → vs = k.map kV
  | [], _, h => by cases h; rfl
  | k :: ks, _, h => by
    cases h with
    | cons r rr => rw [List.map_cons, rw_k r, rws_key rr]
theorem key_rws {M : Hp} : ∀ k : List Key, DqAll K M (k.map kV) (k.map kD)
  | [] => .nil
  | .inl i :: k => .cons (.int i) (key_rws k)
  | .inr z :: k => .cons (.str z) (key_rws k)
theorem rws_keyD {M : Hp} : ∀ {k : List Key} {vs : List V}, DqAll K M vs (k.map kD) → vs = k.map kV
  | [], _, h => by cases h; rfl
  | .inl i :: ks, _, h => by
    cases h with
    | cons r rr => cases r; rw [rws_keyD rr]; rfl
  | .inr z :: ks, _, h => by
    cases h with
    | cons r rr => cases r; rw [rws_keyD rr]; rfl
theorem dr_drop {α : Type} [DecidableEq α] {M : Hp} (k : α) : ∀ {vs : List (α × V)} {ws : List (α × W)}, DR K M vs ws → DR K M (L2.dropK vs k) (dropKW ws k)
  | [], [], _ => ⟨rfl, .nil⟩
  | [], _ :: _, h => by cases h.1
  | _ :: _, [], h => by cases h.1
  | (a, v) :: vs, (b, x) :: ws, h => by
    obtain ⟨h1, h2, h3⟩ := dr_cons h
    have h1 : a = b := h1
    subst h1
    have ih := dr_drop k h3
    unfold L2.dropK dropKW at ih ⊢
    rw [List.filter_cons, List.filter_cons]
    by_cases e : a = k
    · simp only [e, ne_eq, not_true_eq_false, decide_false, Bool.false_eq_true, if_false]
      exact ih
    · simp only [e, ne_eq, not_false_eq_true, decide_true, if_true]
      exact ⟨congrArg _ ih.1, .cons h2 ih.2⟩
/-- o.f = {} -/
theorem fldDt_core {C a : Addr} {f : Str} {fs : List (Str × W)} {L : List Str} {Q : Hp → Prop} (n : Nat) (c : ClsF K C L) (ho : ∀ Δ, Ev K ta ⟨s.g, Δ⟩ (.o a)) (hn : s.h[n]? = some (a, .obj C fs)) (hf : f ∈ L) (hl : fs.length < 1000) (S : Sat K B s σ H)
    (q : ∀ b H', Sat K B ⟨s.g, (b, .dit []) :: s.h.set n (a, .obj C (putW f (.o b) fs))⟩ σ H' → Fr s.h H ((b, .dit []) :: s.h.set n (a, .obj C (putW f (.o b) fs))) H' → Q H') :
    tDNewT σ H fun y H1 => ta σ H1 fun x H2 => ∃ a C dx fs, x = .ref a ∧ H2 a = some (.ins C dx fs) ∧ Cls K C ∧ NoAttr K C f ∧ fs.length < 1000 ∧ Q (upd H2 a (.ins C dx (putF f y fs))) := fun b nb => by
  obtain ⟨c1, c2, c3⟩ := cell_newG (c := .dit []) (o := .dT []) S nb ⟨[], rfl, rfl, .nil⟩
  have S1 : Sat K B ⟨s.g, (b, .dit []) :: s.h⟩ σ (upd H b (.dT [])) := ⟨c1, S.gg.mono c3⟩
  refine ho _ B σ _ _ S1 fun v H2 e2 r2 => ?_
  cases (show v = V.ref a from r2)
  have S2 := S1.mono e2
  have hn' : ((b, Cell.dit []) :: s.h)[n + 1]? = some (a, .obj C fs) := hn
  obtain ⟨dx, vs, h1, h2, h3⟩ := obj_get (s := ⟨s.g, (b, .dit []) :: s.h⟩) hn' S2
  have p := putF_W (f := f) (v := .ref b) (w := .o b) (M := msk H2 (ads ((b, Cell.dit []) :: s.h) ++ B)) rfl h2 h3
  have k := cell_set (s := ⟨s.g, (b, .dit []) :: s.h⟩) (c' := .obj C (putW f (.o b) fs)) (o := .ins C dx (putF f (.ref b) vs)) S2 hn' ⟨dx, _, rfl, p.1, p.2⟩
  refine ⟨a, C, dx, vs, rfl, h1, c.1, c.2.2 f hf, ?_, q b _ k.1 ((c2.trans (Fr.of e2)).trans k.2)⟩
  have e := congrArg List.length h2
  rw [List.length_map, List.length_map] at e
  omega
theorem hs_flDt {C a : Addr} {f : Str} {L : List Str} {xs : List W} (n i : Nat) (c : ClsF K C L) (ho : ∀ Δ, Ev K ta ⟨s.g, Δ⟩ (.o a)) (hn : s.h[n]? = some (a, obL C L xs)) (hi : fix f L = some i) (hl : xs.length = i)
    (h : ∀ b, O.n ⟨s.g, (b, .dit []) :: s.h.set n (a, obL C L (xs ++ [.o b]))⟩) : HS K E (sFld K ta tDNewT f) s O := fun B σ H D S q =>
  fldDt_core n c ho hn (fix_mem hi) (zip_lt c.2.1) S fun b H' S' f => by
    subst hl
    rw [putW_new hi] at S' f
    exact q.n _ σ H' (h b) S' f
/-- d[(a, b)] = e -/
theorem dputT_core {n : Nat} {Q : Hp → Prop} (hn : s.h[n]? = some (d, .dit kvs)) (hv : Ev K tv s w) (hd : Ev K td s (.o d)) (hk : EvA K tr s (key.map kW)) (hz : kvs.length < sizeLine) (hkz : key.length ≤ sizeLine) (S : Sat K B s σ H)
    (q : ∀ H', Sat K B ⟨s.g, s.h.set n (d, .dit (putKW kvs key w))⟩ σ H' → Fr s.h H (s.h.set n (d, .dit (putKW kvs key w))) H' → Q H') :
    tv σ H fun v H1 => td σ H1 fun x H2 => tTup tr σ H2 fun y H3 => ∃ a H4, x = .ref a ∧ DPut H3 a y v H4 ∧ Q H4 :=
  hv B σ H _ S fun v H1 e1 r1 => hd B σ H1 _ (S.mono e1) fun a H2 e2 r2 => hk B σ H2 _ ((S.mono e1).mono e2) fun us H3 e3 r3 => by
    cases (show a = V.ref d from r2)
    have ek := rws_key r3
    subst ek
    refine ⟨by rw [List.length_map]; exact hkz, fun p np => ?_⟩
    have e4 : Same H3 (upd H3 p (.tup (key.map kV))) := same_new np
    have S4 := (((S.mono e1).mono e2).mono e3).mono e4
    obtain ⟨vs, e, h1, h2⟩ := S4.hh.cell _ (List.mem_of_getElem? hn)
    have rv := r1.mono (msk_same (A := ads s.h ++ B) (e2.trans (e3.trans e4)))
    have dp := dr_put (k := key) rv (show DR K _ vs kvs from ⟨h1, h2⟩)
    have k := cell_set (c' := .dit (putKW kvs key w)) (o := .dT (L2.putK vs key v)) S4 hn ⟨_, rfl, dp.1, dp.2⟩
    exact ⟨d, _, rfl, DPut.t e upd_same (by have := congrArg List.length h1; simp at this; omega), q _ k.1 ((Fr.of (((e1.trans e2).trans e3).trans e4)).trans k.2)⟩
theorem hs_dputT {n : Nat} (hn : s.h[n]? = some (d, .dit kvs)) (hv : Ev K tv s w) (hd : Ev K td s (.o d)) (hk : EvA K tr s (key.map kW)) (hz : kvs.length < sizeLine) (hkz : key.length ≤ sizeLine) (h : O.n ⟨s.g, s.h.set n (d, .dit (putKW kvs key w))⟩) : HS K E (sDPut td (tTup tr) tv) s O := fun B σ H D S q =>
  dputT_core hn hv hd hk hz hkz S fun H' S' f => q.n _ σ H' h S' f
theorem ev_dgetT {n : Nat} (hn : s.h[n]? = some (d, .dit kvs)) (hd : Ev K td s (.o d)) (hk : EvA K tr s (key.map kW)) (hkz : key.length ≤ sizeLine) (hv : valW kvs key = some w) : Ev K (tDGet td (tTup tr)) s w := fun B σ H Q S q =>
  hd B σ H _ S fun a H1 e1 r1 => hk B σ H1 _ (S.mono e1) fun us H2 e2 r2 => by
    cases (show a = V.ref d from r1)
    have ek := rws_key r2
    subst ek
    refine ⟨by rw [List.length_map]; exact hkz, fun p np => ?_⟩
    have e3 : Same H2 (upd H2 p (.tup (key.map kV))) := same_new np
    have S3 := ((S.mono e1).mono e2).mono e3
    obtain ⟨vs, e, h1, h2⟩ := S3.hh.cell _ (List.mem_of_getElem? hn)
    obtain ⟨v, hv2, rv⟩ := (dr_val (k := key) (show DR K _ vs kvs from ⟨h1, h2⟩)).1 w hv
    exact ⟨d, v, rfl, by rw [← hv2]; exact DGet.t e upd_same, q v _ (e1.trans (e2.trans e3)) rv⟩
/-- del d[x], x a tuple that is data -/
theorem hs_ddelT {n : Nat} (hn : s.h[n]? = some (d, .dit kvs)) (hd : Ev K td s (.o d)) (hk : Ev K ty s (.d (keyD key))) (hv : (valW kvs key).isSome = true) (h : O.n ⟨s.g, s.h.set n (d, .dit (dropKW kvs key))⟩) : HS K E (sDDelT K td ty) s O := fun B σ H D S q =>
  hd B σ H _ S fun a H1 e1 r1 => hk B σ H1 _ (S.mono e1) fun u H2 e2 r2 => by
    cases (show a = V.ref d from r1)
    have S2 := (S.mono e1).mono e2
    obtain ⟨vs, e, h1, h2⟩ := S2.hh.cell _ (List.mem_of_getElem? hn)
    have dr : DR K (msk H2 (ads s.h ++ B)) vs kvs := ⟨h1, h2⟩
    have r2' : Dq K (msk H2 (ads s.h ++ B)) u (.tuple (key.map kD)) := r2
    cases r2' with
    | tup hs ha =>
      rw [rws_keyD ha] at hs
      obtain ⟨w0, hw⟩ := Option.isSome_iff_exists.mp hv
      obtain ⟨v, hv2, _⟩ := (dr_val (k := key) dr).1 w0 hw
      have dd := dr_drop key dr
      have k := cell_set (c' := .dit (dropKW kvs key)) (o := .dT (L2.dropK vs key)) S2 hn ⟨_, rfl, dd.1, dd.2⟩
      exact ⟨d, vs, key, _, rfl, e, rfl, (hs.mono msk_sub).sq, by rw [hv2]; rfl, q.n _ σ _ h k.1 ((Fr.of (e1.trans e2)).trans k.2)⟩
theorem rcf_sortDt {n : Nat} (hn : s.h[n]? = some (d, .dit kvs)) (h1 : PySem.W.AllAlike (kvs.map fun kv => keyD kv.1)) (h2 : PySem.W.Sortable (kvs.map fun kv => keyD kv.1)) (h3 : ∀ e ∈ kvs.map (fun kv => keyD kv.1), e.depth ≤ 64) :
    RCF K s rSortDt [.o d] ((sortD (kvs.map fun kv => keyD kv.1)).map .d) := fun B σ H vs Q S a q => by
  cases a with
  | cons a1 a2 =>
    cases a2
    cases a1
    obtain ⟨us, e, g1, g2⟩ := S.hh.cell _ (List.mem_of_getElem? hn)
    have eds : (us.map fun kv => keyD kv.1) = kvs.map fun kv => keyD kv.1 := by
      have := congrArg (List.map keyD) g1
      rw [List.map_map, List.map_map] at this
      exact this
    refine ⟨d, us, _, rfl, e, eds.symm, h1, h2, h3, fun ys p ey np => ?_⟩
    refine q p ys _ (same_new np) np upd_same ?_
    have all : ∀ {zs : List V} {ds : List PyData}, Each (fun y d => ∃ k b, d = keyD k ∧ y = V.ref b ∧ H b = some (.tup (k.map kV))) zs ds → RWs K (msk (upd H p (.lst ys)) (p :: (ads s.h ++ B))) zs (ds.map .d) := fun ez => by
     induction ez with
     | nil => exact .nil
     | cons hb _ ih =>
       obtain ⟨k, b, rfl, rfl, hb⟩ := hb
       refine .cons (Dq.tup (xs := k.map kV) (.inl ?_) (key_rws k)) ih
       have hbp : b ≠ p := ne_of_none hb np
       rw [msk_out ?_, upd_ne hbp]
       · exact hb
       · intro z
         rcases List.mem_cons.mp z with z | z
         · exact hbp z
         · exact (sath_mt S.hh).nt b z _ hb
    exact all ey
/-! ### what changes nothing: a promise of its value -/
abbrev TrP := List W → Del → W → Prop
def spP (K : PySem.W.Frag) (t : TrP) : Sp := fun vs H Q _ => ∃ (B : List Addr) (xs : List W) (Δ : Del) (w : W), SatH K B Δ H ∧ RWs K (msk H (ads Δ ++ B)) vs xs ∧ t xs Δ w ∧ ∀ v H', Same H H' → RW K (msk H' (ads Δ ++ B)) v w → Q v H'
theorem ev_mtP {C a : Addr} {m : Str} {t : TrP} (n : Nat) {L : List Str} {ys xs : List W} (ho : Ev K ta s (.o a)) (hn : s.h[n]? = some (a, obL C L ys)) (hm : m ∉ L) (h : EvA K tr s xs) (ht : t (.o a :: xs) s.h w) : Ev K (tMethS C m (spP K t) E ta tr) s w := fun B σ H Q S q =>
  ho B σ H _ S fun v H1 e1 r1 => by
    cases (show v = V.ref a from r1)
    have S1 := S.mono e1
    obtain ⟨dx, vs, h1, h2⟩ := obj_no hn (look_zip_none hm) S1
    refine ⟨a, dx, vs, rfl, h1, h2, h B σ H1 _ S1 fun us H2 e2 r2 => ?_⟩
    exact ⟨B, _, s.h, w, (S1.mono e2).hh, .cons (w := .o a) rfl r2, ht, fun v H3 e3 r3 => q v H3 (e1.trans (e2.trans e3)) r3⟩
/-! ### comprehensions over pairs -/
abbrev inB2 (s : S) (vs : List Nat) (i j : Nat) (u1 u2 : PyData) : S := ⟨((wipeG s.g vs).set i (some (.d u1))).set j (some (.d u2)), s.h⟩
theorem wipe_set2 {σ : L2.St} {i j : Nat} {u1 u2 : Option V} {vs : List Nat} (hi : i ∈ vs) (hj : j ∈ vs) : wipe (((wipe σ vs).set i u1).set j u2) vs = wipe σ vs := by
  have h : ∀ (τ : L2.St) (u : Option V) (k : Nat), k ∈ vs → wipe (τ.set k u) vs = wipe τ vs := fun τ u k hk => by
    have e : ∀ ws : List Nat, k ∈ ws → wipe (τ.set k u) ws = wipe τ ws := by
      intro ws
      induction ws with
      | nil => intro h; cases h
      | cons v ws ih =>
        intro h
        show (wipe (τ.set k u) ws).set v none = (wipe τ ws).set v none
        by_cases hm : k ∈ ws
        · rw [ih hm]
        · have ek : k = v := (List.mem_cons.mp h).resolve_right hm
          subst ek
          have out : ∀ ws : List Nat, k ∉ ws → wipe (τ.set k u) ws = (wipe τ ws).set k u := by
            intro ws
            induction ws with
            | nil => intro _; rfl
            | cons v2 ws ih2 =>
              intro hn
              have n1 : k ≠ v2 := fun e => hn (e ▸ List.mem_cons_self)
              have n2 : k ∉ ws := fun e => hn (List.mem_cons_of_mem _ e)
              show (wipe (τ.set k u) ws).set v2 none = ((wipe τ ws).set v2 none).set k u
              rw [ih2 n2, List.set_comm _ _ n1]
          rw [out ws hm, List.set_set]
    exact e vs hk
  have e3 : wipe (wipe σ vs) vs = wipe σ vs := by
    have : ∀ (τ : L2.St) (ws : List Nat), (∀ k ∈ ws, k ∈ vs) → wipe (wipe τ vs) ws = wipe τ vs := fun τ ws hw => by
      induction ws with
      | nil => rfl
      | cons v ws ih =>
        show (wipe (wipe τ vs) ws).set v none = wipe τ vs
        rw [ih fun k hk => hw k (List.mem_cons_of_mem _ hk)]
        have hv := hw v List.mem_cons_self
        have z : ∀ us : List Nat, v ∈ us → (wipe τ us).set v none = wipe τ us := by
          intro us
          induction us with
          | nil => intro h; cases h
          | cons v2 us ih2 =>
            intro h
            show ((wipe τ us).set v2 none).set v none = (wipe τ us).set v2 none
            by_cases e : v2 = v
            · subst e; rw [List.set_set]
            · have hm : v ∈ us := (List.mem_cons.mp h).resolve_left (fun z => e z.symm)
              rw [List.set_comm _ _ e, ih2 hm]
        exact z vs hv
    exact this σ vs fun k hk => hk
  rw [h _ _ _ hj, h _ _ _ hi, e3]
theorem evf_lcL2 {i j : Nat} {vs : List Nat} {ps : List (PyData × PyData)} (f : Nat → Bool) (v : Nat → W) (h : Ev K tl s x) (l : LV s x (ps.map fun p => wt [p.1, p.2])) (hl : ps.length ≤ 16000000) (hi : i ∈ vs) (hj : j ∈ vs)
    (ht : ∀ (k : Nat) (p : PyData × PyData), ps[k]? = some p → EvT K tt (inB2 s vs i j p.1 p.2) (f k)) (he : ∀ (k : Nat) (p : PyData × PyData), ps[k]? = some p → f k = true → Ev K te (inB2 s vs i j p.1 p.2) (v k)) :
    EvF K (tLc (iList K tl) (gTup K 2 (gCons (gName i) (gCons (gName j) gNil))) tt te vs) s (outs ps.length f v) := fun B σ H Q S q =>
  h B σ H _ S fun u H1 e1 r1 => by
    have S1 := S.mono e1
    obtain ⟨a, us, rfl, g, rr⟩ := l.get S1 r1
    have hlen : us.length = ps.length := by rw [rr.len, List.length_map]
    refine ⟨a, rfl, ⟨us, g⟩, fun D nD => ?_⟩
    refine lc_list (xs := us) (fun k H' => CW K B s σ H1 D (outs k f v) H') (cw_start nD) (fun k H' _ c => c.1.seq g) (fun k y H' hk c => ?_) (fun H' c => cw_end (by rw [hlen] at c; exact c) fun a us H2 e2 ha ea rr => q a us H2 (e1.trans e2) (by rw [ea]; exact e1.free nD) ha rr)
    obtain ⟨u, hu, ru⟩ := rr.getv hk
    rw [List.getElem?_map] at hu
    cases hp : ps[k]? with
    | none => rw [hp] at hu; cases hu
    | some p =>
      rw [hp] at hu
      have hu' : wt [p.1, p.2] = u := Option.some.inj hu
      subst hu'
      have hlt : k < ps.length := (List.getElem?_eq_some_iff.mp hp).1
      have hz : (outs k f v).length < sizeLine := Nat.lt_of_le_of_lt (outs_len k f v) (by rw [sizeLine_eq]; omega)
      have ru' : Dq K (msk H1 (ads s.h ++ B)) y (.tuple [p.1, p.2]) := ru
      cases ru' with
      | tup hs ha =>
        cases ha with
        | cons a1 a2 =>
          cases a2 with
          | cons a2 a3 =>
            cases a3
            rename_i v1 v2
            obtain ⟨e, acc, hD, r⟩ := c
            refine ⟨_, _, rfl, ((hs.mono msk_sub).mono e).sq, rfl, _, _, rfl, _, _, rfl, rfl, ?_⟩
            refine ⟨wipe_set2 hi hj, ?_⟩
            have S2 : Sat K B (inB2 s vs i j p.1 p.2) (((wipe σ vs).set i (some v1)).set j (some v2)) H1 := ⟨S1.hh, ((wipe_sat S1.gg vs).set (w := .d p.1) a1 i).set (w := .d p.2) a2 j⟩
            have S3 := cw_sat S2 nD e ⟨_, hD⟩
            exact cw_turn ⟨e, acc, hD, r⟩ S3 nD rfl hz (ht k p hp) (he k p hp) (fun hb H2 c2 => by rw [outs_yes hb]; exact c2) (fun hb H2 c2 => by rw [outs_no hb]; exact c2)
/-! ### xs.extend([..]) -/
theorem ext_core {n : Nat} {a : Addr} {xs ws : List W} {Q : Hp → Prop} (hn : s.h[n]? = some (a, .lst xs)) (ho : Ev K ta s (.o a)) (h : EvF K te s ws) (hz : xs.length + ws.length ≤ sizeLine) (S : Sat K B s σ H)
    (q : ∀ H', Sat K B ⟨s.g, s.h.set n (a, .lst (xs ++ ws))⟩ σ H' → Fr s.h H (s.h.set n (a, .lst (xs ++ ws))) H' → Q H') : tBM K "list" rExtend ta (tCons te tNil) σ H fun _ H1 => Q H1 :=
  ho B σ H _ S fun v H1 e1 r1 => by
    cases (show v = V.ref a from r1)
    have S1 := S.mono e1
    refine ⟨tyw_v (tyw_l (lv_o n hn)) S1 r1, h B σ H1 _ S1 fun b us H2 e2 nb hb r2 => ?_⟩
    have S2 := S1.mono e2
    obtain ⟨vs, hv, rv⟩ := S2.hh.cell _ (List.mem_of_getElem? hn)
    have r3 : RWs K (msk H2 (ads s.h ++ B)) us ws := r2.mono (msk_less fun c hc => List.mem_cons_of_mem _ hc)
    have k := cell_set (c' := .lst (xs ++ ws)) (o := .lst (vs ++ us)) S2 hn ⟨_, rfl, rv.append r3⟩
    exact ⟨a, b, vs, us, rfl, rfl, hv, hb, by rw [rv.len, r3.len]; exact hz, q _ k.1 ((Fr.of (e1.trans e2)).trans k.2)⟩
theorem hs_ext {n : Nat} {a : Addr} {xs ws : List W} (hn : s.h[n]? = some (a, .lst xs)) (ho : Ev K ta s (.o a)) (h : EvF K te s ws) (hz : xs.length + ws.length ≤ sizeLine) (h2 : O.n ⟨s.g, s.h.set n (a, .lst (xs ++ ws))⟩) :
    HS K E (tDrop (tBM K "list" rExtend ta (tCons te tNil))) s O := fun B σ H D S q => ext_core hn ho h hz S fun H' S' f => q.n _ σ H' h2 S' f
/-! ### in lists -/
theorem rv_inD {d : PyData} {ds : List PyData} (hx : DV s x d) (hy : DV s y (.list ds)) (h1 : SeqAt.shaped d = true) (h2 : SeqAt.shaped (.list ds) = true) : RVs K s (rInD K) x y (wb (ds.any fun z => PyData.eqv z d)) := fun B σ H v u Q S a b q =>
  ⟨d, ds, hx.get S a, hy.get S b, h1, h2, q _ H same_refl rb⟩
theorem rv_ninD {d : PyData} {ds : List PyData} (hx : DV s x d) (hy : DV s y (.list ds)) (h1 : SeqAt.shaped d = true) (h2 : SeqAt.shaped (.list ds) = true) : RVs K s (rNotInD K) x y (wb (!ds.any fun z => PyData.eqv z d)) := fun B σ H v u Q S a b q =>
  ⟨d, ds, hx.get S a, hy.get S b, h1, h2, q _ H same_refl rb⟩
end
section
variable {P : Program} {w : World} {K : PySem.W.Frag} {mg : Str → Option Value} {base : Heap}
def KnMP (P : Program) (w : World) (K : PySem.W.Frag) (mg : Str → Option Value) (base : Heap) (CX : CXT) (k : Nat) (C : Addr) (m : Str) (ps : List Str) (t : TrP) : Prop :=
  ∃ f fd, FnOk P w K mg base CX k f fd ps (spP K t) ∧ Meth K C m f ∧ Binds K fd ps []
theorem km_ofP {q : Str} {C : Addr} {m : Str} {st : Stmt} {f : Addr} {fd : FuncData} {N ps : List Str} {k : Nat} {t : TrP} (F : Fun K m q st f fd) (hm : Meth K C m f) (hb : Binds K fd ps []) (S : FnScope N ps (defScope st)) (len : ∀ xs Δ w, t xs Δ w → xs.length = ps.length)
    (h : ∀ (cdv : Value) (A : Around) (outer : List Env) (s : Shared) (H : Hp) (E : XK), Room k (A.deeper (envOfC q (defScope st) s.heap.objs.size f cdv)) →
      ∃ te, PSs (cxOf (L2.CX P w) P w K mg base N q (defScope st) f cdv A outer s H E) (defBody st) (tRet te) ∧ ∀ xs Δ w, t xs Δ w → Ev K te ⟨xs.map some ++ List.replicate (N.length - xs.length) none, Δ⟩ w) :
    KnMP P w K mg base (L2.CX P w) (k + 1) C m ps t := by
  refine ⟨f, fd, F.okX S (fun vs H Q E h => ?_) fun cdv A outer s H vs Q E hr h0 => ?_, hm, hb⟩
  · obtain ⟨B, xs, Δ, w, sh, r, ht, _⟩ := h
    exact r.len.trans (len _ _ _ ht)
  · obtain ⟨te, hp, rd⟩ := h cdv A outer s H E hr
    obtain ⟨B, xs, Δ, w, sh, r, ht, hq⟩ := h0
    exact ⟨_, hp, rd xs Δ w ht B (L2.start N vs) H Q ⟨sh, start_sat r⟩ hq⟩
variable {X : Cx} {CX : CXT} {k j : Nat} {C : Addr} {ps : List Str} {E : L2.St → XK} {m : Str} {p pos apos : Pos} {e o : Expr} {es : List Expr} {ta : TE} {t : TA} {tr : TrP} {Wv : WX} {A : Around}
theorem pe_kmP {pl : Sem Bool} {L : List Str} (c : ClsF K C L) (h : KnMP P w K mg base (L2.CX P w) k C m ps tr) (hr : Room j A) (hj : k ≤ j) (he : PE X o ta) (ha : PA X (e :: es) t) (tk : Takes X Wv) (hA : X.A = A := by rfl) (hX : At X P w K mg base := by exact ⟨rfl, rfl, rfl, rfl, rfl⟩)
    (hst : starEach (e :: es) X.env = (false, eval e X.env) :: starEach es X.env := by rfl) (hpl : (backTo pos (starEach es X.env)).any (·.1) = false := by rfl)
    (ht : eval (.Call (.Attribute o m apos) (e :: es) [] pos) X.env = (do
      let ov ← eval o X.env
      standAt apos.atName
      let (f, first) ← holding [ov] (getMethod ov m pl)
      callWith pos f first (backTo pos (starEach (e :: es) X.env)) (backToKw pos (keywordEach [] X.env))) := by rfl) : PE X (.Call (.Attribute o m apos) (e :: es) [] pos) (tMethS C m (spP K tr) (WE Wv) ta t) := by
  obtain ⟨f, fd, F, hm, hb⟩ := h
  obtain ⟨rfl, rfl, rfl, rfl, rfl⟩ := hX
  subst hA
  exact pe_methS (pl := pl) he c.1 hm F (hr.mono hj) hb (fun σ => passAt tk σ) ha hst hpl ht
theorem pe_kmP0 {pl : Sem Bool} {L : List Str} (c : ClsF K C L) (h : KnMP P w K mg base (L2.CX P w) k C m ps tr) (hr : Room j A) (hj : k ≤ j) (he : PE X o ta) (tk : Takes X Wv) (hA : X.A = A := by rfl) (hX : At X P w K mg base := by exact ⟨rfl, rfl, rfl, rfl, rfl⟩)
    (ht : eval (.Call (.Attribute o m apos) [] [] pos) X.env = (do
      let ov ← eval o X.env
      standAt apos.atName
      let (f, first) ← holding [ov] (getMethod ov m pl)
      callWith pos f first (backTo pos (starEach [] X.env)) (backToKw pos (keywordEach [] X.env))) := by rfl) : PE X (.Call (.Attribute o m apos) [] [] pos) (tMethS C m (spP K tr) (WE Wv) ta tNil) := by
  obtain ⟨f, fd, F, hm, hb⟩ := h
  obtain ⟨rfl, rfl, rfl, rfl, rfl⟩ := hX
  subst hA
  exact pe_methS0 (pl := pl) he c.1 hm F (hr.mono hj) hb (fun σ => passAt tk σ) ht
theorem sortedDtK {X : Cx} {j : Nat} {A : Around} (hc : X.calm = true) (hr : Room j A) (hA : X.A = A := by rfl) : CallR X (.builtin "sorted") rSortDt := cr_sortDt (by rw [hA]; have := hr.un; omega) hc
theorem op_inA (K : PySem.W.Frag) {X : Cx} {j : Nat} {A : Around} (hr : Room j A) (hA : X.A = A := by rfl) (hK : X.K = K := by rfl) : OpR X (compareOp .In) (rInD K) := hK ▸ op_inD (by rw [hA]; have := hr.un; omega)
theorem op_notInA (K : PySem.W.Frag) {X : Cx} {j : Nat} {A : Around} (hr : Room j A) (hA : X.A = A := by rfl) (hK : X.K = K := by rfl) : OpR X (compareOp .NotIn) (rNotInD K) := hK ▸ op_notInD (by rw [hA]; have := hr.un; omega)
end
end DL
namespace DL
open PySem PySem.Spec PyProof.Rows L2 TL
theorem outs_filter {α : Type} (l : List α) (d : α) (p : α → Bool) (g : α → W) : outs l.length (fun k => p (l.getD k d)) (fun k => g (l.getD k d)) = (l.filter p).map g := by
  unfold outs
  have e : (List.range l.length).map (fun k => l.getD k d) = l := by
    have := range_map l d (fun x => x)
    rwa [List.map_id'] at this
  have h2 : ∀ r : List Nat, (r.filter fun k => p (l.getD k d)).map (fun k => g (l.getD k d)) = ((r.map fun k => l.getD k d).filter p).map g := by
    intro r
    induction r with
    | nil => rfl
    | cons a r ih =>
      rw [List.filter_cons, List.map_cons, List.filter_cons]
      cases h : p (l.getD a d) with
      | true => simp only [if_true, List.map_cons]; rw [ih]
      | false => simp only [Bool.false_eq_true, if_false]; exact ih
  rw [h2, e]
/-! ### pairs of texts -/
def ptD (p : Str × Str) : PyData := .tuple [.str p.1, .str p.2]
def unP : PyData → Str × Str
  | .tuple [.str a, .str b] => (a, b)
  | _ => (⟨#[]⟩, ⟨#[]⟩)
theorem str_tri' (a b : Str) : tl a < tl b ∨ a = b ∨ tl b < tl a := by
  rcases Classical.em (tl a < tl b) with h | h
  · exact .inl h
  · rcases Classical.em (tl b < tl a) with h2 | h2
    · exact .inr (.inr h2)
    · exact .inr (.inl (str_ext (List.le_antisymm (List.not_lt.mp h2) (List.not_lt.mp h))))
theorem dataLt_pr (p q : Str × Str) : PySem.W.dataLt (ptD p) (ptD q) = true ↔ (tl p.1 < tl q.1 ∨ (p.1 = q.1 ∧ tl p.2 < tl q.2)) := by
  obtain ⟨a, b⟩ := p
  obtain ⟨c, d⟩ := q
  unfold ptD
  rw [PySem.W.dataLt_pair (by simp [PySem.W.alike]) (by simp [PySem.W.alike]), PySem.W.dataLt_str, PySem.W.dataLt_str]
  have irr : ∀ l : List Nat, ¬ l < l := fun l => List.lt_irrefl l
  by_cases h1 : a = c
  · subst h1
    by_cases h2 : b = d
    · subst h2; simp [PyData.eqv, irr]
    · simp [PyData.eqv, irr, h2]
  · simp [PyData.eqv, h1]
theorem all_pr (l : List (Str × Str)) : PySem.W.AllAlike (l.map ptD) := fun d hd e he => by
  obtain ⟨p, _, rfl⟩ := List.mem_map.mp hd
  obtain ⟨q, _, rfl⟩ := List.mem_map.mp he
  simp [ptD, PySem.W.alike, PySem.W.alikeAll]
theorem sortable_pr (l : List (Str × Str)) : PySem.W.Sortable (l.map ptD) := .inl fun d hd => by
  obtain ⟨p, _, rfl⟩ := List.mem_map.mp hd
  exact ⟨_, _, rfl⟩
theorem depth_pr (l : List (Str × Str)) : ∀ d ∈ l.map ptD, d.depth ≤ 64 := fun d hd => by
  obtain ⟨p, _, rfl⟩ := List.mem_map.mp hd
  simp [ptD, PyData.depth, PyData.depthAll]
def sortP (l : List (Str × Str)) : List (Str × Str) := (sortD (l.map ptD)).map unP
theorem unP_ptD (l : List (Str × Str)) : (l.map ptD).map unP = l := by rw [List.map_map, show unP ∘ ptD = id from funext fun p => rfl, List.map_id]
theorem sortP_perm (l : List (Str × Str)) : (sortP l).Perm l := by
  have h := (perm_sortD (l.map ptD)).map unP
  rw [unP_ptD] at h
  exact h
theorem sortD_pr (l : List (Str × Str)) : sortD (l.map ptD) = (sortP l).map ptD := by
  have hp := perm_sortD (l.map ptD)
  have hm : ∀ d ∈ sortD (l.map ptD), ptD (unP d) = d := fun d hd => by
    obtain ⟨p, _, rfl⟩ := List.mem_map.mp (hp.mem_iff.mp hd)
    rfl
  unfold sortP
  rw [List.map_map]
  exact ((List.map_congr_left (f := ptD ∘ unP) (g := id) hm).trans (List.map_id _)).symm
theorem sortP_eq {l m : List (Str × Str)} (h : l.Perm m) : sortP l = sortP m := by
  have hl := srt_sortD (l.map ptD)
  have hm := srt_sortD (m.map ptD)
  rw [sortD_pr, List.pairwise_map] at hl hm
  refine List.Perm.eq_of_pairwise (fun a b _ _ h1 h2 => ?_) hl hm ((sortP_perm l).trans (h.trans (sortP_perm m).symm))
  have g1 : (!PySem.W.dataLt (ptD b) (ptD a)) = true := h1
  have g2 : (!PySem.W.dataLt (ptD a) (ptD b)) = true := h2
  have n1 : ¬ (tl b.1 < tl a.1 ∨ (b.1 = a.1 ∧ tl b.2 < tl a.2)) := fun z => by rw [(dataLt_pr b a).mpr z] at g1; cases g1
  have n2 : ¬ (tl a.1 < tl b.1 ∨ (a.1 = b.1 ∧ tl a.2 < tl b.2)) := fun z => by rw [(dataLt_pr a b).mpr z] at g2; cases g2
  obtain ⟨a1, a2⟩ := a
  obtain ⟨b1, b2⟩ := b
  simp only at n1 n2
  rcases str_tri' a1 b1 with e | e | e
  · exact absurd (.inl e) n2
  · subst e
    rcases str_tri' a2 b2 with e | e | e
    · exact absurd (.inr ⟨rfl, e⟩) n2
    · subst e; rfl
    · exact absurd (.inr ⟨rfl, e⟩) n1
  · exact absurd (.inl e) n1
theorem sortP_pw (l : List (Str × Str)) : (sortP l).Pairwise fun p q => ¬ (tl q.1 < tl p.1 ∨ (q.1 = p.1 ∧ tl q.2 < tl p.2)) := by
  have hl := srt_sortD (l.map ptD)
  rw [sortD_pr, List.pairwise_map] at hl
  refine hl.imp fun {p q} h z => ?_
  have g1 : (!PySem.W.dataLt (ptD q) (ptD p)) = true := h
  rw [(dataLt_pr q p).mpr z] at g1
  cases g1
section
variable {K : PySem.W.Frag} {s : S} {te tl : TE} {tt : TT} {x : W}
theorem evf_lc2F {i j : Nat} {vs : List Nat} {l : List (Str × Str)} (p : Str × Str → Bool) (g : Str × Str → PyData) (h : Ev K tl s (wl (l.map ptD))) (hl : l.length ≤ 16000000) (hi : i ∈ vs) (hj : j ∈ vs)
    (ht : ∀ q ∈ l, EvT K tt (inB2 s vs i j (.str q.1) (.str q.2)) (p q)) (he : ∀ q ∈ l, p q = true → Ev K te (inB2 s vs i j (.str q.1) (.str q.2)) (.d (g q))) :
    EvF K (tLc (iList K tl) (gTup K 2 (gCons (gName i) (gCons (gName j) gNil))) tt te vs) s (((l.filter p).map g).map .d) := by
  have hx : LV s (wl (l.map ptD)) ((l.map fun q => ((PyData.str q.1, PyData.str q.2) : PyData × PyData)).map fun q => wt [q.1, q.2]) := by
    have := lv_d (s := s) (ds := l.map ptD)
    rw [List.map_map] at this ⊢
    exact this
  have key : ∀ (k : Nat) (q : PyData × PyData), (l.map fun q => ((PyData.str q.1, PyData.str q.2) : PyData × PyData))[k]? = some q → ∃ y ∈ l, q = (.str y.1, .str y.2) ∧ l.getD k (⟨#[]⟩, ⟨#[]⟩) = y := fun k q e => by
    rw [List.getElem?_map] at e
    cases hk : l[k]? with
    | none => rw [hk] at e; cases e
    | some y =>
      rw [hk] at e
      exact ⟨y, List.mem_of_getElem? hk, (Option.some.inj e).symm, by rw [List.getD_eq_getElem?_getD, hk]; rfl⟩
  have r := evf_lcL2 (i := i) (j := j) (vs := vs) (tt := tt) (te := te) (fun k => p (l.getD k (⟨#[]⟩, ⟨#[]⟩))) (fun k => .d (g (l.getD k (⟨#[]⟩, ⟨#[]⟩)))) h hx (by rw [List.length_map]; exact hl) hi hj (fun k q e => by
    obtain ⟨y, hy, rfl, e2⟩ := key k q e
    rw [e2]
    exact ht y hy) (fun k q e hp => by
    obtain ⟨y, hy, rfl, e2⟩ := key k q e
    rw [e2] at hp ⊢
    exact he y hy hp)
  rw [List.length_map, outs_filter l _ p fun q => W.d (g q)] at r
  rw [List.map_map]
  exact r
theorem evf_lcLF {α : Type} {j : Nat} {vs : List Nat} {l : List α} (e : α → PyData) (d0 : α) (p : α → Bool) (g : α → PyData) (h : Ev K tl s x) (lv : LV s x ((l.map e).map .d)) (hl : l.length ≤ 16000000) (hj : j ∈ vs)
    (ht : ∀ q ∈ l, EvT K tt (inB s vs j (.d (e q))) (p q)) (he : ∀ q ∈ l, p q = true → Ev K te (inB s vs j (.d (e q))) (.d (g q))) : EvF K (tLc (iList K tl) (gName j) tt te vs) s (((l.filter p).map g).map .d) := by
  have key : ∀ (k : Nat) (u : W), ((l.map e).map W.d)[k]? = some u → ∃ y ∈ l, u = .d (e y) ∧ l.getD k d0 = y := fun k u hu => by
    rw [List.getElem?_map, List.getElem?_map] at hu
    cases hk : l[k]? with
    | none => rw [hk] at hu; cases hu
    | some y =>
      rw [hk] at hu
      exact ⟨y, List.mem_of_getElem? hk, (Option.some.inj hu).symm, by rw [List.getD_eq_getElem?_getD, hk]; rfl⟩
  have r := evf_lcL (j := j) (vs := vs) (tt := tt) (te := te) (fun k => p (l.getD k d0)) (fun k => .d (g (l.getD k d0))) h lv (by rw [List.length_map, List.length_map]; exact hl) hj (fun k u hu => by
    obtain ⟨y, hy, rfl, e2⟩ := key k u hu
    rw [e2]
    exact ht y hy) (fun k u hu hp => by
    obtain ⟨y, hy, rfl, e2⟩ := key k u hu
    rw [e2] at hp ⊢
    exact he y hy hp)
  rw [List.length_map, List.length_map, outs_filter l d0 p fun q => W.d (g q)] at r
  rw [List.map_map]
  exact r
end
/-! ### a test that changes cells -/
section
variable {K : PySem.W.Frag} {s : S} {te ta tb : TE} {x y z w : W} {r : R2} {E : L2.St → XK} {O : Out} {tu tw tz : TS} {Δ : Del}
def EvD (K : PySem.W.Frag) (te : TE) (s : S) (w : W) (Δ : Del) : Prop := ∀ (B : List Addr) (σ : L2.St) (H : Hp) (Q : VK), Sat K B s σ H → (∀ v H', Sat K B ⟨s.g, Δ⟩ σ H' → Fr s.h H Δ H' → RW K (msk H' (ads Δ ++ B)) v w → Q v H') → te σ H Q
theorem evd_g (h : EvG K (fun _ _ _ _ => True) te s (fun w' Δ' => w' = w ∧ Δ' = Δ) (fun _ _ => False)) : EvD K te s w Δ := fun B σ H Q S q =>
  h B σ H Q S (fun w' Δ' v H' e S' f r => by obtain ⟨rfl, rfl⟩ := e; exact q v H' S' f r) fun _ _ _ z => z.elim
theorem evd_is (h : EvD K te s x Δ) (e : x = y) : EvD K te s y Δ := e ▸ h
theorem evd_op (ha : EvD K ta s x Δ) (hb : EvW K tb ⟨s.g, Δ⟩ y) (hr : RVs K ⟨s.g, Δ⟩ r x y z) : EvD K (tOp r ta tb) s z Δ := fun B σ H Q S q =>
  ha B σ H _ S fun v H1 S1 f1 r1 => hb B σ H1 _ S1 fun u H2 S2 f2 r2 => hr B σ H2 v u Q S2 (r1.mono f2.msk) r2 fun t H3 e3 r3 => q t H3 (S2.mono e3) ((f1.trans f2).trans (Fr.of e3)) r3
theorem hs_ifD {b : Bool} (h : EvD K te s (wb b) Δ) (h1 : b = true → HS K E tu ⟨s.g, Δ⟩ O) (h2 : b = false → HS K E tw ⟨s.g, Δ⟩ O) : HS K E (tIfS (tTest te) tu tw) s O := fun B σ H D S q => h B σ H _ S fun v H1 S1 f1 r1 => ⟨b, rw_b r1, by
  cases b with
  | true => exact iteT (h1 rfl B σ H1 D S1 (q.step f1))
  | false => exact iteF (h2 rfl B σ H1 D S1 (q.step f1))⟩
end
end DL

namespace DL
open PySem PySem.Spec PyProof.Rows L2 TL
/-! ### sorted of a dict whose keys are texts, as many as there are -/
def rSortDu : List V → Hp → VK → Prop := fun xs H Q => ∃ (a : Addr) (kvs : List (Key × V)) (ks : List Str), xs = [.ref a] ∧ Rd H a (.dK kvs) ∧ kvs.map (·.1) = ks.map Sum.inr ∧ PySem.W.Sortable (ks.map PyData.str) ∧ ks.length ≤ 1000000 ∧
  ∀ ys p, Each (fun y d => ∃ k, d = PyData.str k ∧ y = V.str k) ys (sortD (ks.map PyData.str)) → H p = none → Q (.ref p) (upd H p (.lst ys))
theorem all_st (ks : List Str) : PySem.W.AllAlike (ks.map PyData.str) := fun d hd e he => by
  obtain ⟨p, _, rfl⟩ := List.mem_map.mp hd
  obtain ⟨q, _, rfl⟩ := List.mem_map.mp he
  simp [PySem.W.alike]
theorem depth_st (ks : List Str) : ∀ d ∈ ks.map PyData.str, d.depth ≤ 64 := fun d hd => by
  obtain ⟨p, _, rfl⟩ := List.mem_map.mp hd
  simp [PyData.depth]
theorem dpa_st {K : PySem.W.Frag} {H : Hp} : ∀ ks : List Str, DpAll K H (ks.map V.str) (ks.map PyData.str)
  | [] => .nil
  | k :: ks => .cons (.str k) (dpa_st ks)
theorem vals_st {us : List Value} {ks : List Str} (h : StrsAre us ks) : Vals (ks.map V.str) us := by
  induction h with
  | nil => exact .nil
  | cons x t _ ih => exact .cons ⟨t, rfl⟩ ih
section
variable {X : Cx}
theorem cr_sortDu (hu : X.A.units + 100 < cLine) (hc : X.calm = true) : CallR X (.builtin "sorted") rSortDu := by
  intro pins s σ H xs us Q I r h
  obtain ⟨a, kvs, ks, rfl, hd, hks, hso, hl7, q⟩ := h
  obtain ⟨u, rfl, ru⟩ := vals1 r
  obtain rfl : u = Value.ref a := ru
  obtain ⟨z, lo, vs, rel, dd⟩ := dk_rd I.hok hd
  obtain ⟨ep, hat⟩ := dd.dictAt
  have hkeys : vs.map (·.1) = ks.map Sum.inr := rel.keys.symm.trans hks
  have hl : vs.length = ks.length := by simpa using congrArg List.length hkeys
  refine Calls.call_function_entry PyProof.Rows.kind_sorted PyProof.Rows.plain_sorted PyProof.Rows.entry_sorted (PyProof.Rows.args_sorted1 _) ?_
  unfold Builtin.«sorted»
  refine wpAny_bind (m := checkCount "sorted" 1 1 _) (wpAny_pure ?_)
  refine wpAny_bind (PySem.W.kdu_collect (A := X.A.in1) (PySem.W.kdl_dict (knd := mixKind X.prog X.w) (kvs := vs) (ep := ep) lo) (I.ok.hd hc) hat (by rw [hl, sizeLine_eq]; omega) fun h1 tk acc kp it => ?_)
  have hal : acc.toList.length = ks.length := by rw [Array.length_toList, it.1, hl]
  have hS : StrsAre acc.toList ks := strs_at hal fun j v e => by
    obtain ⟨k, x, e1, e2⟩ := it.2 j v (by rw [← Array.getElem?_toList]; exact e)
    have e3 : (vs.map (·.1))[j]? = some k := by rw [List.getElem?_map, e1]; all_goals rfl
    rw [hkeys, List.getElem?_map] at e3
    cases e4 : ks[j]? with
    | none => rw [e4] at e3; cases e3
    | some y =>
      rw [e4] at e3
      have e5 : Sum.inr y = k := Option.some.inj e3
      subst e5
      obtain ⟨t, ev⟩ := Value.isStrOf_shape (x := y) (v := v) e2
      exact ⟨y, t, rfl, ev⟩
  have I1 : Inv X pins σ H { s with heap := h1, toks := tk } := I.kept kp
  have rv := vals_st hS
  obtain ⟨as, ra⟩ := Dp.readsAll I1 _ _ acc.toList (dpa_st ks) rv
  have hz : acc.toList.length ≤ sizeLine := by rw [hal, sizeLine_eq]; omega
  refine wpAny_bind (wpAny_newList ?_ hz)
  have hlen : (ks.map V.str).length = (ks.map PyData.str).length := by rw [List.length_map, List.length_map]
  have hL : (h1.push (seqObj "list" acc.toList.toArray 0)).get? h1.objs.size = some (seqObj "list" acc.toList.toArray 0) := Heap.get?_push_size _ rfl
  show wpAny _ _ _ _ _ { s with heap := h1.push (seqObj "list" acc.toList.toArray 0), toks := tk }
  have old : ∀ b u, h1.get? b = some u → (PySem.W.sortingHeap (h1.push (seqObj "list" acc.toList.toArray 0)) h1.objs.size acc.toList).get? b = some u := fun b u e => PySem.W.sortingHeap_old (Nat.ne_of_lt (Heap.lt_size e)) (Heap.get?_push_of_some _ e)
  have ra2 := ReadsAll.keeps (h' := PySem.W.sortingHeap (h1.push (seqObj "list" acc.toList.toArray 0)) h1.objs.size acc.toList) old ra
  have e1 := PySem.W.each_keys (all_st ks) (each_reads ra2)
  have e2 := PySem.W.sortVals_each (κ := PySem.W.dataKind (PySem.W.sortingHeap (h1.push (seqObj "list" acc.toList.toArray 0)) h1.objs.size acc.toList) (ks.map PyData.str)) (β := PyData) (rev := false) PySem.W.keyToks (each_vals rv hlen) e1
  obtain ⟨ys, ry, ey⟩ := each_back e2
  have ey2 : Each (fun y d => (y, d) ∈ (ks.map V.str).zip (ks.map PyData.str)) ys (sortD (ks.map PyData.str)) := ey
  obtain ⟨n, hnS⟩ := PyProof.Rows.sortedHeap_at (vs := acc.toList) (out := (PySem.W.sortVals (PySem.W.dataKind (PySem.W.sortingHeap (h1.push (seqObj "list" acc.toList.toArray 0)) h1.objs.size acc.toList) (ks.map PyData.str)) false acc.toList acc.toList).toArray) hL
  refine wpAny_bind (wpAny_holding (wpAny_call_entry PyProof.Rows.slot_list_sort ⟨_, hL, rfl⟩ PyProof.Rows.entry_list_sort
    (PySem.W.list_sort_vals (s := { s with heap := h1.push (seqObj "list" acc.toList.toArray 0), toks := tk }) (κ := PySem.W.dataKind (PySem.W.sortingHeap (h1.push (seqObj "list" acc.toList.toArray 0)) h1.objs.size acc.toList) (ks.map PyData.str)) hL
      (PySem.W.SortsAt.data (each_reads ra2) (all_st ks) hso fun d hd => by
        have := depth_st ks d hd
        show X.A.units + 1 + 1 + d.depth < cLine
        omega) hz ⟨_, rfl, ?_⟩)
    (PyProof.Rows.args_list_sort _)))
  have hys : ys.length ≤ sizeLine := by rw [ey.len.trans (List.length_mergeSort ..), ← hlen, List.length_map, ← hal]; exact hz
  have zip_st : ∀ (ks : List Str) (y : V) (d : PyData), (y, d) ∈ (ks.map V.str).zip (ks.map PyData.str) → ∃ k, d = PyData.str k ∧ y = V.str k := by
    intro ks
    induction ks with
    | nil => intro y d h; cases h
    | cons k ks ih =>
      intro y d h
      rw [List.map_cons, List.map_cons, List.zip_cons_cons] at h
      rcases List.mem_cons.mp h with e | e
      · cases e; exact ⟨k, rfl, rfl⟩
      · exact ih y d e
  refine wpAny_pure ⟨_, rfl, .ref h1.objs.size, upd H h1.objs.size (.lst ys), I1.laid (t' := tk) (fun b u e => ?_) (Nat.le_refl _) (show ObjOk X.prog X.w _ _ _ (.lst ys) from ⟨hys, _, n, ry, hnS⟩), rfl, q ys _ (ey2.imp fun y d hm => zip_st ks y d hm) (I1.hok.fresh (Nat.le_refl _))⟩
  have hb : b < h1.objs.size := Heap.lt_size e
  rw [PyProof.Rows.sortedHeap_old (Nat.ne_of_lt hb) (by rw [size_push']; exact Nat.lt_succ_of_lt hb)]
  exact Heap.get?_push_of_some _ e
end
theorem sortD_st (ks : List Str) : sortD (ks.map PyData.str) = (sortK ks).map PyData.str := by
  have hp := perm_sortD (ks.map PyData.str)
  obtain ⟨zs, hz⟩ : ∃ zs : List Str, sortD (ks.map PyData.str) = zs.map PyData.str := by
    have : ∀ ds : List PyData, (∀ d ∈ ds, ∃ k, d = PyData.str k) → ∃ zs : List Str, ds = zs.map PyData.str := by
      intro ds
      induction ds with
      | nil => intro _; exact ⟨[], rfl⟩
      | cons d ds ih =>
        intro h
        obtain ⟨k, rfl⟩ := h d List.mem_cons_self
        obtain ⟨zs, rfl⟩ := ih fun e he => h e (List.mem_cons_of_mem _ he)
        exact ⟨k :: zs, rfl⟩
    refine this _ fun d hd => ?_
    obtain ⟨k, _, rfl⟩ := List.mem_map.mp (hp.mem_iff.mp hd)
    exact ⟨k, rfl⟩
  have hl := srt_sortD (ks.map PyData.str)
  rw [hz] at hp hl ⊢
  have hp2 : zs.Perm ks := by
    have h := hp.map fun d => match d with | .str k => k | _ => ⟨#[]⟩
    rw [List.map_map, List.map_map] at h
    have e : ∀ l : List Str, l.map ((fun d => match d with | .str k => k | _ => (⟨#[]⟩ : Str)) ∘ PyData.str) = l := fun l => List.map_id l
    rw [e, e] at h
    exact h
  congr 1
  refine sortK_uniq hp2 ?_
  rw [List.pairwise_map] at hl
  refine hl.imp fun {a b} h => ?_
  have g : (!PySem.W.dataLt (.str b) (.str a)) = true := h
  rw [PySem.W.dataLt_str] at g
  unfold leS
  refine decide_eq_true (List.not_lt.mp fun z => ?_)
  rw [decide_eq_true z] at g
  cases g
section
variable {K : PySem.W.Frag} {s : S} {ta tb te td ty : TE} {x y z w : W} {E : L2.St → XK} {O : Out} {tz : TS} {Δ : Del} {d : Addr} {kvs : List (Key × W)} {key : Key}
theorem rcf_sortDu {ks : List Str} (h : DicAt s d kvs) (hk : kvs.map (·.1) = ks.map Sum.inr) (hl : ks.length ≤ 1000000) : RCF K s rSortDu [.o d] (((sortK ks).map PyData.str).map .d) := fun B σ H vs Q S a q => by
  cases a with
  | cons a1 a2 =>
    cases a2
    cases a1
    obtain ⟨us, rd, dr⟩ := h.get S
    refine ⟨d, us, ks, rfl, rd, dr.1.trans hk, .inr fun d hd => ?_, hl, fun ys p ey np => ?_⟩
    · obtain ⟨k, _, rfl⟩ := List.mem_map.mp hd
      exact ⟨nofun, nofun⟩
    rw [sortD_st] at ey
    refine q p _ _ (same_new np) np upd_same ?_
    clear q
    generalize (sortK ks).map PyData.str = es at ey
    generalize msk (upd H p (.lst ys)) (p :: (ads s.h ++ B)) = M
    clear np
    induction ey with
    | nil => exact .nil
    | cons h1 _ ih =>
      obtain ⟨k, rfl, rfl⟩ := h1
      exact .cons (Dq.str k) ih
/-- a pair is made, its second item by a call -/
theorem evg_tup2 {dx : PyData} {k : W → Del → Prop} {ex : Value → Del → Prop} (ha : Ev K ta s (.d dx)) (hb : EvG K E tb s (fun w Δ' => ∃ dy, w = .d dy ∧ k (wt [dx, dy]) Δ') ex) : EvG K E (tTup (tCons ta (tCons tb tNil))) s k ex := fun B σ H Q S q qx =>
  ha B σ H _ S fun v H1 e1 r1 => hb B σ H1 _ (S.mono e1) (fun w Δ' u H2 hk S2 f2 r2 => by
    obtain ⟨dy, rfl, hk⟩ := hk
    refine ⟨show 2 ≤ sizeLine by decide +kernel, fun p np => ?_⟩
    have e2 : Same H2 (upd H2 p (.tup [v, u])) := fun b o e => by rw [upd_ne (ne_of_none e np)]; exact e
    have no := S2.hh.out np
    have r1' : RW K (msk H2 (ads Δ' ++ B)) v (.d dx) := r1.mono f2.msk
    refine q _ Δ' _ _ hk (S2.mono e2) (((Fr.of e1).trans f2).trans (Fr.of e2)) (Dq.tup (xs := [v, u]) (.inl ?_) (rws_dpa (ds := [dx, dy]) (.cons (r1'.mono (msk_same e2)) (.cons (r2.mono (msk_same e2)) .nil))))
    rw [msk_out no]
    exact upd_same) fun c Δ' H2 hx S2 f2 => qx c Δ' H2 hx S2 ((Fr.of e1).trans f2)
/-- a pair is handed back, its second item a list of the own cells -/
theorem hs_retTO {dx : PyData} {a : Addr} {ds : List PyData} (n : Nat) (ha : Ev K ta s (.d dx)) (hb : Ev K tb s (.o a)) (hn : s.h[n]? = some (a, .lst (ds.map .d))) (h2 : O.r (wt [dx, .list ds]) []) : HS K E (tRet (tTup (tCons ta (tCons tb tNil)))) s O := fun B σ H D S q =>
  ha B σ H _ S fun v H1 e1 r1 => hb B σ H1 _ (S.mono e1) fun u H2 e2 r2 => by
    cases (show u = V.ref a from r2)
    have S2 := (S.mono e1).mono e2
    refine ⟨show 2 ≤ sizeLine by decide +kernel, fun p np => ?_⟩
    have e3 : Same H2 (upd H2 p (.tup [v, .ref a])) := fun b o e => by rw [upd_ne (ne_of_none e np)]; exact e
    have no := S2.hh.out np
    have S3 := S2.mono e3
    obtain ⟨vs, hv, rv⟩ := S3.hh.cell _ (List.mem_of_getElem? hn)
    have mem : a ∈ ads s.h := List.mem_map.mpr ⟨_, List.mem_of_getElem? hn, rfl⟩
    have less : Same (msk (upd H2 p (.tup [v, .ref a])) (ads s.h ++ B)) (msk (upd H2 p (.tup [v, .ref a])) (ads [] ++ B)) := msk_less fun b hb => List.mem_append_right _ (by simpa [ads] using hb)
    refine q.r (wt [dx, .list ds]) [] _ _ h2 (sath_nil S3.hh) (fr_nil (Fr.of ((e1.trans e2).trans e3) (Δ := s.h))) (Dq.tup (xs := [v, .ref a]) (.inl ?_) (rws_dpa (ds := [dx, .list ds]) (.cons ((r1.mono (msk_same (e2.trans e3))).mono less) (.cons (Dq.lst (xs := vs) ?_ (rws_dpa (rv.mono less))) .nil))))
    · rw [msk_out (fun z => no (List.mem_append_right _ (by simpa [ads] using z)))]
      exact upd_same
    · rw [msk_out (fun z => S3.hh.db a (by simpa [ads] using z) mem)]
      exact hv
theorem hs_dpop {n : Nat} (hn : s.h[n]? = some (d, .dic kvs)) (hd : Ev K td s (.o d)) (hk : Ev K ty s (kW key)) (hv : (valW kvs key).isSome = true) (h : O.n ⟨s.g, s.h.set n (d, .dic (dropKW kvs key))⟩) : HS K E (tDrop (tDPop1 td ty)) s O := fun B σ H D S q =>
  hd B σ H _ S fun a H1 e1 r1 => by
    cases (show a = V.ref d from r1)
    have S1 := S.mono e1
    obtain ⟨us, eu, _, _⟩ := S1.hh.cell _ (List.mem_of_getElem? hn)
    exact ⟨d, rfl, .inl ⟨us, .inl eu⟩, hk B σ H1 _ S1 fun u H2 e2 r2 => by
      have S2 := S1.mono e2
      obtain ⟨vs, e, h1, h2⟩ := S2.hh.cell _ (List.mem_of_getElem? hn)
      have dr : DR K (msk H2 (ads s.h ++ B)) vs kvs := ⟨h1, h2⟩
      obtain ⟨w0, hw⟩ := Option.isSome_iff_exists.mp hv
      obtain ⟨v, hv2, _⟩ := (dr_val (k := key) dr).1 w0 hw
      have dd := dr_drop key dr
      have k := cell_set (c' := .dic (dropKW kvs key)) (o := .dK (L2.dropK vs key)) S2 hn ⟨_, rfl, dd.1, dd.2⟩
      exact ⟨vs, key, v, e, rw_k r2, hv2, q.n _ σ _ h k.1 ((Fr.of (e1.trans e2)).trans k.2)⟩⟩
end
theorem sortedDuK {X : Cx} {j : Nat} {A : Around} (hc : X.calm = true) (hr : Room j A) (hA : X.A = A := by rfl) : CallR X (.builtin "sorted") rSortDu := cr_sortDu (by rw [hA]; have := hr.un; omega) hc
section
variable {K : PySem.W.Frag} {s : S} {E : L2.St → XK} {O : Out} {ta : TA} {a : Addr} {cls : Value} {d : Option Addr} {t : Addr × Obj → Tr}
theorem hs_retE {xs : List W} (h : EvA K ta s xs) (ht : ∀ oe, L2.Zc cls d oe → (∃ vs, oe.data = .fields vs) → t (a, oe) xs [] (fun w' Δ' => Δ' = [] ∧ O.r w' s.h) (fun _ _ => False)) : HS K E (tRet (tCallE (fun p => spOf K (t p)) a cls d ta)) s O := fun B σ H D S q =>
  h B σ H _ S fun vs H1 e1 r oe hz hf => by
    have S1 := S.mono e1
    refine ⟨ads s.h ++ B, xs, [], _, _, sath_mt S1.hh, by rw [show ads ([] : Del) = [] from rfl, List.nil_append]; exact r, ht oe hz hf, ?_, fun _ _ _ z => z.elim⟩
    rintro w' Δ' v H' ⟨rfl, hr⟩ _ f rr
    have e2 := e1.trans (fr_nil_same f)
    exact q.r w' s.h v H' hr (S.mono e2).hh (Fr.of e2) (rr.mono (msk_less fun b hb => List.mem_append_right _ hb))
end
section
variable {K : PySem.W.Frag} {s : S}
theorem rv_leS {i j : Str} : RVs K s rLeU (ws i) (ws j) (wb (!decide (j.cps.toList < i.cps.toList))) := fun B σ H v u Q S a b q => by
  cases rw_s a; cases rw_s b
  exact .inr ⟨i, j, rfl, rfl, q _ H same_refl rb⟩
end
section
variable {K : PySem.W.Frag} {s : S} {E : L2.St → XK} {O : Out} {ta tb : TE} {tz : TS}
theorem evg_dnewK {k : W → Del → Prop} {ex : Value → Del → Prop} (h : ∀ d, d ∉ ads s.h → k (.o d) ((d, .dic []) :: s.h)) : EvG K E tDNewK s k ex := fun B σ H Q S q qx a n => by
  obtain ⟨c1, c2, c3⟩ := cell_newG (c := .dic []) (o := .dK []) S n ⟨[], rfl, rfl, .nil⟩
  exact q (.o a) _ _ _ (h a (fun z => S.hh.out n (List.mem_append_left _ z))) ⟨c1, S.gg.mono c3⟩ c2 rfl
/-- a new list of two, each made by a call -/
theorem hq_newG2 {j : Nat} (h : EvG K E ta s (fun w1 Δ1 => EvG K E tb ⟨s.g, Δ1⟩ (fun w2 Δ2 => ∀ c, c ∉ ads Δ2 → HS K E tz ⟨s.g.set j (some (.o c)), (c, .lst [w1, w2]) :: Δ2⟩ O) (fun _ _ => False)) (fun _ _ => False)) : HS K E (tSeq (tAsg (tLst (tCons ta (tCons tb tNil))) (gName j)) tz) s O := fun B σ H D S q =>
  h B σ H _ S (fun w1 Δ1 v1 H1 h1 S1 f1 r1 => h1 B σ H1 _ S1 (fun w2 Δ2 v2 H2 h2 S2 f2 r2 => ⟨show 2 ≤ sizeLine by decide +kernel, fun p np => by
    have r1' : RW K (msk H2 (ads Δ2 ++ B)) v1 w1 := r1.mono f2.msk
    have fr : Fr Δ2 H2 ((p, .lst [w1, w2]) :: Δ2) (upd H2 p (.lst [v1, v2])) := fun b o hb e2 => ⟨fun z => (List.mem_cons.mp z).elim (ne_of_none e2 np) hb, same_new np _ _ e2⟩
    have e : Same (msk H2 (ads Δ2 ++ B)) (msk (upd H2 p (.lst [v1, v2])) (p :: (ads Δ2 ++ B))) := fr.msk
    obtain ⟨c1, c2, c3⟩ := cell_newG (c := .lst [w1, w2]) (o := .lst [v1, v2]) S2 np ⟨[v1, v2], rfl, .cons (r1'.mono e) (.cons (r2.mono e) .nil)⟩
    exact h2 p (fun z => S2.hh.out np (List.mem_append_left _ z)) B _ _ D ⟨c1, (S2.gg.mono c3).set (w := .o p) rfl j⟩ (q.step ((f1.trans f2).trans c2))⟩) fun _ _ _ z => z.elim) fun _ _ _ z => z.elim
end
theorem evd_opR {K : PySem.W.Frag} {s : S} {ta tb : TE} {x y z : W} {r : R2} {Δ : Del} (ha : Ev K ta s x) (hb : EvD K tb s y Δ) (hr : RVs K ⟨s.g, Δ⟩ r x y z) : EvD K (tOp r ta tb) s z Δ := fun B σ H Q S q =>
  ha B σ H _ S fun v H1 e1 r1 => hb B σ H1 _ (S.mono e1) fun u H2 S2 f2 r2 => hr B σ H2 v u Q S2 (r1.mono f2.msk) r2 fun t H3 e3 r3 => q t H3 (S2.mono e3) (((Fr.of e1).trans f2).trans (Fr.of e3)) r3
theorem hl_forR3 {K : PySem.W.Frag} {s : S} {E : L2.St → XK} {O : Out} {tu : TS} {g : TG} {tr : TA} {lo hi c : Int} (n : Nat) (h : EvA K tr s [wi lo, wi hi, wi c]) (hc : RgC lo hi c n) (I : Nat → S → Prop) (h0 : Wk (I 0) s)
    (hb : ∀ i s', i < n → I i s' → ∃ s1, GS K g (wi (lo + (i : Nat) * c)) s' s1 ∧ HS K E tu s1 { O with n := Wk (I (i + 1)), c := Wk (I (i + 1)), b := Wk O.n }) (hd : ∀ s', I n s' → O.n s') : HS K E (tFor (iRng3 tr) g tu) s O := hs_forR3 (O := O) (M := O.n) n h hc I h0 hb hd
/-! ### is, between objects -/
section
variable {K : PySem.W.Frag} {s : S} {a b : Addr}
theorem rv_isO {n m : Nat} {C C' : Addr} {fs gs : List (Str × W)} (h1 : s.h[n]? = some (a, .obj C fs)) (h2 : s.h[m]? = some (b, .obj C' gs)) : RVs K s (fun x y H Q => ∃ a b oa ob, x = .ref a ∧ y = .ref b ∧ H a = some oa ∧ isObj oa = true ∧ H b = some ob ∧ isObj ob = true ∧ Q (.bl (decide (a = b))) H) (.o a) (.o b) (wb (decide (a = b))) := fun B σ H v u Q S p q k => by
  cases (show v = V.ref a from p)
  cases (show u = V.ref b from q)
  obtain ⟨d1, v1, e1, _⟩ := S.hh.cell _ (List.mem_of_getElem? h1)
  obtain ⟨d2, v2, e2, _⟩ := S.hh.cell _ (List.mem_of_getElem? h2)
  exact ⟨a, b, _, _, rfl, rfl, e1, rfl, e2, rfl, k _ H same_refl rb⟩
end
/-! ### not, of a list -/
section
variable {K : PySem.W.Frag} {s : S} {te : TE} {x : W}
theorem notK {X : Cx} {a : Expr} {ta : TE} {pos : Pos} (K : PySem.W.Frag) (ha : PE X a ta) (hK : X.K = K := by rfl) : PE X (.UnaryOp .Not a pos) (tNotT K ta) := hK ▸ pe_notT ha
theorem ev_notL {xs : List W} (h : Ev K te s x) (l : LV s x xs) : Ev K (tNotT K te) s (wb xs.isEmpty) := fun B σ H Q S q => h B σ H _ S fun v H1 e1 r1 => by
  obtain ⟨a, vs, rfl, gv, rv⟩ := l.get (S.mono e1) r1
  refine ⟨_, .inl ⟨vs, gv, rfl⟩, ?_⟩
  have : vs.isEmpty = xs.isEmpty := by cases rv <;> rfl
  rw [this, Bool.not_not]
  exact q _ H1 e1 rb
end
end DL

namespace DL
open PySem PySem.Spec PyProof.Rows L2 TL
def sortDr (ds : List PyData) : List PyData := ds.mergeSort (PySem.W.dataLe true fun d => d)
def rSortDuR : List V → List V → Hp → VK → Prop := fun xs zs H Q => zs = [.bl true] ∧ ∃ (a : Addr) (kvs : List (Key × V)) (ks : List Str), xs = [.ref a] ∧ Rd H a (.dK kvs) ∧ kvs.map (·.1) = ks.map Sum.inr ∧ PySem.W.Sortable (ks.map PyData.str) ∧ ks.length ≤ 1000000 ∧
  ∀ ys p, Each (fun y d => ∃ k, d = PyData.str k ∧ y = V.str k) ys (sortDr (ks.map PyData.str)) → H p = none → Q (.ref p) (upd H p (.lst ys))
section
variable {X : Cx}
theorem cr_sortDuR (hu : X.A.units + 100 < cLine) (hc : X.calm = true) : CallRK X (.builtin "sorted") [Str.ofString "reverse"] rSortDuR := by
  intro pins s σ H xs zs us ws Q I r rz h
  obtain ⟨ez, a, kvs, ks, rfl, hd, hks, hso, hl7, q⟩ := h
  subst ez
  obtain ⟨bv, rfl, rb⟩ := vals1 rz
  obtain rfl : bv = Value.bool true := rb
  show wpAny _ _ (call (.builtin "sorted") us [(Str.ofString "reverse", Value.bool true)]) _ _ _
  obtain ⟨u, rfl, ru⟩ := vals1 r
  obtain rfl : u = Value.ref a := ru
  obtain ⟨z, lo, vs, rel, dd⟩ := dk_rd I.hok hd
  obtain ⟨ep, hat⟩ := dd.dictAt
  have hkeys : vs.map (·.1) = ks.map Sum.inr := rel.keys.symm.trans hks
  have hl : vs.length = ks.length := by simpa using congrArg List.length hkeys
  refine call_function_entry_kw kind_sorted plain_sorted entry_sorted (PyProof.Rows.args_sorted_rev _ _) ?_
  unfold Builtin.«sorted»
  refine wpAny_bind (m := checkCount "sorted" 1 1 _) (wpAny_pure ?_)
  refine wpAny_bind (PySem.W.kdu_collect (A := X.A.in1) (PySem.W.kdl_dict (knd := mixKind X.prog X.w) (kvs := vs) (ep := ep) lo) (I.ok.hd hc) hat (by rw [hl, sizeLine_eq]; omega) fun h1 tk acc kp it => ?_)
  have hal : acc.toList.length = ks.length := by rw [Array.length_toList, it.1, hl]
  have hS : StrsAre acc.toList ks := strs_at hal fun j v e => by
    obtain ⟨k, x, e1, e2⟩ := it.2 j v (by rw [← Array.getElem?_toList]; exact e)
    have e3 : (vs.map (·.1))[j]? = some k := by rw [List.getElem?_map, e1]; all_goals rfl
    rw [hkeys, List.getElem?_map] at e3
    cases e4 : ks[j]? with
    | none => rw [e4] at e3; cases e3
    | some y =>
      rw [e4] at e3
      have e5 : Sum.inr y = k := Option.some.inj e3
      subst e5
      obtain ⟨t, ev⟩ := Value.isStrOf_shape (x := y) (v := v) e2
      exact ⟨y, t, rfl, ev⟩
  have I1 : Inv X pins σ H { s with heap := h1, toks := tk } := I.kept kp
  have rv := vals_st hS
  obtain ⟨as, ra⟩ := Dp.readsAll I1 _ _ acc.toList (dpa_st ks) rv
  have hz : acc.toList.length ≤ sizeLine := by rw [hal, sizeLine_eq]; omega
  refine wpAny_bind (wpAny_newList ?_ hz)
  have hlen : (ks.map V.str).length = (ks.map PyData.str).length := by rw [List.length_map, List.length_map]
  have hL : (h1.push (seqObj "list" acc.toList.toArray 0)).get? h1.objs.size = some (seqObj "list" acc.toList.toArray 0) := Heap.get?_push_size _ rfl
  show wpAny _ _ _ _ _ { s with heap := h1.push (seqObj "list" acc.toList.toArray 0), toks := tk }
  have old : ∀ b u, h1.get? b = some u → (PySem.W.sortingHeap (h1.push (seqObj "list" acc.toList.toArray 0)) h1.objs.size acc.toList).get? b = some u := fun b u e => PySem.W.sortingHeap_old (Nat.ne_of_lt (Heap.lt_size e)) (Heap.get?_push_of_some _ e)
  have ra2 := ReadsAll.keeps (h' := PySem.W.sortingHeap (h1.push (seqObj "list" acc.toList.toArray 0)) h1.objs.size acc.toList) old ra
  have e1 := PySem.W.each_keys (all_st ks) (each_reads ra2)
  have e2 := PySem.W.sortVals_each (κ := PySem.W.dataKind (PySem.W.sortingHeap (h1.push (seqObj "list" acc.toList.toArray 0)) h1.objs.size acc.toList) (ks.map PyData.str)) (β := PyData) (rev := true) PySem.W.keyToks (each_vals rv hlen) e1
  obtain ⟨ys, ry, ey⟩ := each_back e2
  have ey2 : Each (fun y d => (y, d) ∈ (ks.map V.str).zip (ks.map PyData.str)) ys (sortDr (ks.map PyData.str)) := ey
  obtain ⟨n, hnS⟩ := PyProof.Rows.sortedHeap_at (vs := acc.toList) (out := (PySem.W.sortVals (PySem.W.dataKind (PySem.W.sortingHeap (h1.push (seqObj "list" acc.toList.toArray 0)) h1.objs.size acc.toList) (ks.map PyData.str)) true acc.toList acc.toList).toArray) hL
  refine wpAny_bind (wpAny_holding (wpAny_call_entry_kw PyProof.Rows.slot_list_sort ⟨_, hL, rfl⟩ PyProof.Rows.entry_list_sort
    (PySem.W.list_sort_rev_vals (s := { s with heap := h1.push (seqObj "list" acc.toList.toArray 0), toks := tk }) (κ := PySem.W.dataKind (PySem.W.sortingHeap (h1.push (seqObj "list" acc.toList.toArray 0)) h1.objs.size acc.toList) (ks.map PyData.str)) hL
      (PySem.W.SortsAt.data (each_reads ra2) (all_st ks) hso fun d hd => by
        have := depth_st ks d hd
        show X.A.units + 1 + 1 + d.depth < cLine
        omega) hz ⟨_, rfl, ?_⟩)
    (PyProof.Rows.args_list_sort_rev _ _)))
  have hys : ys.length ≤ sizeLine := by rw [ey.len.trans (List.length_mergeSort ..), ← hlen, List.length_map, ← hal]; exact hz
  have zip_st : ∀ (ks : List Str) (y : V) (d : PyData), (y, d) ∈ (ks.map V.str).zip (ks.map PyData.str) → ∃ k, d = PyData.str k ∧ y = V.str k := by
    intro ks
    induction ks with
    | nil => intro y d h; cases h
    | cons k ks ih =>
      intro y d h
      rw [List.map_cons, List.map_cons, List.zip_cons_cons] at h
      rcases List.mem_cons.mp h with e | e
      · cases e; exact ⟨k, rfl, rfl⟩
      · exact ih y d e
  refine wpAny_pure ⟨_, rfl, .ref h1.objs.size, upd H h1.objs.size (.lst ys), I1.laid (t' := tk) (fun b u e => ?_) (Nat.le_refl _) (show ObjOk X.prog X.w _ _ _ (.lst ys) from ⟨hys, _, n, ry, hnS⟩), rfl, q ys _ (ey2.imp fun y d hm => zip_st ks y d hm) (I1.hok.fresh (Nat.le_refl _))⟩
  have hb : b < h1.objs.size := Heap.lt_size e
  rw [PyProof.Rows.sortedHeap_old (Nat.ne_of_lt hb) (by rw [size_push']; exact Nat.lt_succ_of_lt hb)]
  exact Heap.get?_push_of_some _ e
end
def unS : PyData → Str
  | .str k => k
  | _ => ⟨#[]⟩
/-- the texts the other way round -/
def sortKr (ks : List Str) : List Str := (sortDr (ks.map PyData.str)).map unS
theorem sortDr_st (ks : List Str) : sortDr (ks.map PyData.str) = (sortKr ks).map PyData.str ∧ (sortKr ks).Perm ks := by
  have hp : (sortDr (ks.map PyData.str)).Perm (ks.map PyData.str) := List.mergeSort_perm ..
  have e : ∀ ds : List PyData, (∀ d ∈ ds, ∃ k, d = PyData.str k) → (ds.map unS).map PyData.str = ds := by
    intro ds
    induction ds with
    | nil => intro _; rfl
    | cons d ds ih =>
      intro h
      obtain ⟨k, rfl⟩ := h d List.mem_cons_self
      rw [List.map_cons, List.map_cons, ih fun e he => h e (List.mem_cons_of_mem _ he)]
      rfl
  refine ⟨(e _ fun d hd => ?_).symm, ?_⟩
  · obtain ⟨k, _, rfl⟩ := List.mem_map.mp (hp.mem_iff.mp hd)
    exact ⟨k, rfl⟩
  · have h := hp.map unS
    rw [List.map_map, show unS ∘ PyData.str = id from rfl, List.map_id] at h
    exact h
section
variable {K : PySem.W.Frag} {s : S} {td : TE} {d : Addr} {kvs : List (Key × W)}
theorem evf_sortDuR {ks : List Str} (hd : Ev K td s (.o d)) (h : DicAt s d kvs) (hk : kvs.map (·.1) = ks.map Sum.inr) (hl : ks.length ≤ 1000000) : EvF K (tCKw rSortDuR (tCons td tNil) (tCons (tC (.bl true)) tNil)) s (((sortKr ks).map PyData.str).map .d) := fun B σ H Q S q =>
  hd B σ H _ S fun v H1 e1 r1 => by
    cases (show v = V.ref d from r1)
    have S1 := S.mono e1
    obtain ⟨us, rd, dr⟩ := h.get S1
    refine ⟨rfl, d, us, ks, rfl, rd, dr.1.trans hk, .inr fun d hd => ?_, hl, fun ys p ey np => ?_⟩
    · obtain ⟨k, _, rfl⟩ := List.mem_map.mp hd
      exact ⟨nofun, nofun⟩
    rw [(sortDr_st ks).1] at ey
    refine q p ys _ (e1.trans (same_new np)) (e1.free np) upd_same ?_
    clear q
    generalize (sortKr ks).map PyData.str = es at ey
    generalize msk (upd H1 p (.lst ys)) (p :: (ads s.h ++ B)) = M
    clear np
    induction ey with
    | nil => exact .nil
    | cons h1 _ ih =>
      obtain ⟨k, rfl, rfl⟩ := h1
      exact .cons (Dq.str k) ih
end
theorem sortedDuRK {X : Cx} {j : Nat} {A : Around} (hc : X.calm = true) (hr : Room j A) (hA : X.A = A := by rfl) : CallRK X (.builtin "sorted") [Str.ofString "reverse"] rSortDuR := cr_sortDuR (by rw [hA]; have := hr.un; omega) hc
theorem pe_cBK {X : Cx} {mg : Str → Option Value} {x : Str} {p pos : Pos} {e : Expr} {es : List Expr} {kws : List Keyword} {ta tk : TA} {id : String} {ks : List Str} {r : List V → List V → Hp → VK → Prop} (hc : CallRK X (.builtin id) ks r) (hm : mg x = none) (hv : bootBuiltins x = some (.builtin id)) (ha : PA X (e :: es) ta) (hk : PK X kws tk)
    (hX : X.mg = mg := by rfl) (hg : Gl X x := by rfl) (hn : x ≠ "__name__" := by decide) (hdb : (x == ("__debug__" : Str)) = false := by decide)
    (he : backTo pos (starEach (e :: es) X.env) = (false, eval e X.env) :: backTo pos (starEach es X.env) := by rfl) (hpl : (backTo pos (starEach (e :: es) X.env)).any (·.1) = false := by rfl)
    (hall : (backToKw pos (keywordEach kws X.env)).all (·.1.isSome) = true := by rfl) (hnone : (backToKw pos (keywordEach kws X.env)).any (·.1.isNone) = false := by rfl) (hks : (backToKw pos (keywordEach kws X.env)).filterMap (·.1) = ks := by rfl) :
    PE X (.Call (.Name x p) (e :: es) kws pos) (tCKw r ta tk) := by
  subst hX
  exact pe_callBK hc hg hm hv ha hk hn hdb he hpl hall hnone hks
end DL

namespace DL
open PySem PySem.Spec PyProof.Rows L2 TL
/-! ### max and min of a list of texts -/
def IsMax (ks : List Str) (y : Str) : Prop := y ∈ ks ∧ ∀ z ∈ ks, ¬ (tl y < tl z)
def IsMin (ks : List Str) (y : Str) : Prop := y ∈ ks ∧ ∀ z ∈ ks, ¬ (tl z < tl y)
def rMaxS (K : PySem.W.Frag) : List V → Hp → VK → Prop := fun xs H Q => ∃ (a : Addr) (ks : List Str), xs = [.ref a] ∧ SqL K H a (ks.map V.str) ∧ ks ≠ [] ∧ ∀ y, IsMax ks y → Q (.str y) H
def rMinS (K : PySem.W.Frag) : List V → Hp → VK → Prop := fun xs H Q => ∃ (a : Addr) (ks : List Str), xs = [.ref a] ∧ SqL K H a (ks.map V.str) ∧ ks ≠ [] ∧ ∀ y, IsMin ks y → Q (.str y) H
theorem lt_S (a b : Str) : PySem.W.DatumOrd.lt a b = true ↔ tl a < tl b := decide_eq_true_iff
theorem maxOf_is : ∀ (ys : List Str) (x : Str), IsMax (x :: ys) (PySem.W.maxOf x ys)
  | [], x => ⟨List.mem_cons_self, fun z hz => by rw [List.mem_singleton.mp hz]; exact List.lt_irrefl _⟩
  | y :: ys, x => by
    show IsMax _ (PySem.W.maxOf (if PySem.W.DatumOrd.lt x y = true then y else x) ys)
    by_cases h : PySem.W.DatumOrd.lt x y = true
    · rw [if_pos h]
      obtain ⟨a, b⟩ := maxOf_is ys y
      refine ⟨List.mem_cons_of_mem _ a, fun z hz => ?_⟩
      rcases List.mem_cons.mp hz with rfl | hz
      · exact fun l => b y List.mem_cons_self (List.lt_trans l ((lt_S _ _).mp h))
      · exact b z hz
    · rw [if_neg h]
      obtain ⟨a, b⟩ := maxOf_is ys x
      refine ⟨?_, fun z hz => ?_⟩
      · rcases List.mem_cons.mp a with e | e
        · rw [e]; exact List.mem_cons_self
        · exact List.mem_cons_of_mem _ (List.mem_cons_of_mem _ e)
      · rcases List.mem_cons.mp hz with rfl | hz
        · exact b _ List.mem_cons_self
        · rcases List.mem_cons.mp hz with rfl | hz
          · intro l
            have nx : ¬ tl x < tl z := fun l => h ((lt_S _ _).mpr l)
            rcases str_tri' (PySem.W.maxOf x ys) x with q | q | q
            · exact b x List.mem_cons_self q
            · rw [q] at l; exact nx l
            · exact nx (List.lt_trans q l)
          · exact b z (List.mem_cons_of_mem _ hz)
theorem minOf_is : ∀ (ys : List Str) (x : Str), IsMin (x :: ys) (PySem.W.minOf x ys)
  | [], x => ⟨List.mem_cons_self, fun z hz => by rw [List.mem_singleton.mp hz]; exact List.lt_irrefl _⟩
  | y :: ys, x => by
    show IsMin _ (PySem.W.minOf (if PySem.W.DatumOrd.lt y x = true then y else x) ys)
    by_cases h : PySem.W.DatumOrd.lt y x = true
    · rw [if_pos h]
      obtain ⟨a, b⟩ := minOf_is ys y
      refine ⟨List.mem_cons_of_mem _ a, fun z hz => ?_⟩
      rcases List.mem_cons.mp hz with rfl | hz
      · exact fun l => b y List.mem_cons_self (List.lt_trans ((lt_S _ _).mp h) l)
      · exact b z hz
    · rw [if_neg h]
      obtain ⟨a, b⟩ := minOf_is ys x
      refine ⟨?_, fun z hz => ?_⟩
      · rcases List.mem_cons.mp a with e | e
        · rw [e]; exact List.mem_cons_self
        · exact List.mem_cons_of_mem _ (List.mem_cons_of_mem _ e)
      · rcases List.mem_cons.mp hz with rfl | hz
        · exact b _ List.mem_cons_self
        · rcases List.mem_cons.mp hz with rfl | hz
          · intro l
            have nx : ¬ tl z < tl x := fun l => h ((lt_S _ _).mpr l)
            rcases str_tri' (PySem.W.minOf x ys) x with q | q | q
            · exact nx (List.lt_trans l q)
            · rw [q] at l; exact nx l
            · exact b x List.mem_cons_self q
          · exact b z (List.mem_cons_of_mem _ hz)
theorem vals_at : ∀ {ks : List Str} {us : List Value} {i : Nat} {v : Value}, Vals (ks.map V.str) us → us[i]? = some v → ∃ y t, v = .str y t
  | [], _, _, _, r, h => by cases r; simp at h
  | k :: ks, _, i, v, r, h => by
    cases r with
    | cons r1 r2 =>
      cases i with
      | zero =>
        obtain ⟨t, e⟩ := r1
        have h := Option.some.inj h
        exact ⟨k, t, h ▸ e⟩
      | succ i => exact vals_at r2 (by simpa using h)
section
variable {X : Cx}
theorem cr_maxS (hu : X.A.units + 100 < cLine) (hc : X.calm = true) : CallR X (.builtin "max") (rMaxS X.K) := by
  intro pins s σ H xs us Q I r h
  obtain ⟨a, ks, rfl, hs, hne, q⟩ := h
  obtain ⟨its, rv, hl, hz⟩ := I.list hs
  obtain ⟨u, rfl, ru⟩ := vals1 r
  obtain rfl : u = Value.ref a := ru
  obtain ⟨as, ra⟩ := Dp.readsAll I (ks.map PyData.str) (ks.map V.str) its (dpa_st ks) rv
  cases ks with
  | nil => exact absurd rfl hne
  | cons x ys =>
    refine PySem.W.max_list_datum (α := Str) (x := x) (xs := ys) (I.ok.hd hc) hl.isList ⟨as, ?_⟩ (by show X.A.units + 1 + 0 < cLine; omega) fun i v h' tk hi hv hk => ?_
    · exact ra
    · have hi' : its[i]? = some v := by rw [← hi]; simp
      obtain ⟨y, t, rfl⟩ := vals_at rv hi'
      obtain ⟨as2, r2⟩ := hv
      have e : y = PySem.W.maxOf x ys := by
        obtain ⟨_, e1, _⟩ := reads_str_inv r2
        cases e1; rfl
      exact ⟨.str y, H, I.kept hk, ⟨t, rfl⟩, q y (e ▸ maxOf_is ys x)⟩
theorem cr_minS (hu : X.A.units + 100 < cLine) (hc : X.calm = true) : CallR X (.builtin "min") (rMinS X.K) := by
  intro pins s σ H xs us Q I r h
  obtain ⟨a, ks, rfl, hs, hne, q⟩ := h
  obtain ⟨its, rv, hl, hz⟩ := I.list hs
  obtain ⟨u, rfl, ru⟩ := vals1 r
  obtain rfl : u = Value.ref a := ru
  obtain ⟨as, ra⟩ := Dp.readsAll I (ks.map PyData.str) (ks.map V.str) its (dpa_st ks) rv
  cases ks with
  | nil => exact absurd rfl hne
  | cons x ys =>
    refine PySem.W.min_list_datum (α := Str) (x := x) (xs := ys) (I.ok.hd hc) hl.isList ⟨as, ?_⟩ (by show X.A.units + 1 + 0 < cLine; omega) fun i v h' tk hi hv hk => ?_
    · exact ra
    · have hi' : its[i]? = some v := by rw [← hi]; simp
      obtain ⟨y, t, rfl⟩ := vals_at rv hi'
      obtain ⟨as2, r2⟩ := hv
      have e : y = PySem.W.minOf x ys := by
        obtain ⟨_, e1, _⟩ := reads_str_inv r2
        cases e1; rfl
      exact ⟨.str y, H, I.kept hk, ⟨t, rfl⟩, q y (e ▸ minOf_is ys x)⟩
end
theorem maxSK (K : PySem.W.Frag) {X : Cx} {j : Nat} {A : Around} (hc : X.calm = true) (hr : Room j A) (hA : X.A = A := by rfl) (hK : X.K = K := by rfl) : CallR X (.builtin "max") (rMaxS K) := by
  subst hK; exact cr_maxS (by rw [hA]; have := hr.un; omega) hc
theorem minSK (K : PySem.W.Frag) {X : Cx} {j : Nat} {A : Around} (hc : X.calm = true) (hr : Room j A) (hA : X.A = A := by rfl) (hK : X.K = K := by rfl) : CallR X (.builtin "min") (rMinS K) := by
  subst hK; exact cr_minS (by rw [hA]; have := hr.un; omega) hc
section
variable {K : PySem.W.Frag} {s s1 s' : S} {ta tb te tl td ty tv : TE} {tr : TA} {tt : TT} {x y z w : W} {B : List Addr} {H H' : Hp} {σ : L2.St} {E : L2.St → XK} {O : Out} {t1 t2 tz tu : TS}
theorem rc_maxS {ks : List Str} {y : Str} (hy : IsMax ks y) : RCs K s (rMaxS K) [wl (ks.map .str)] (ws y) := fun B σ H vs Q S r q => by
  cases r with
  | cons r1 r2 =>
    cases r2
    obtain ⟨a, us, rfl, g, rr⟩ := (lv_d (s := s)).get S r1
    have e := dqa_strs (rws_dpa rr)
    subst e
    refine ⟨a, ks, rfl, g, (fun e => by rw [e] at hy; cases hy.1), fun z hz => ?_⟩
    have : z = y := by
      rcases str_tri' z y with h | h | h
      · exact absurd h (hz.2 y hy.1)
      · exact h
      · exact absurd h (hy.2 z hz.1)
    subst this
    exact q _ H same_refl rs
theorem rc_minS {ks : List Str} {y : Str} (hy : IsMin ks y) : RCs K s (rMinS K) [wl (ks.map .str)] (ws y) := fun B σ H vs Q S r q => by
  cases r with
  | cons r1 r2 =>
    cases r2
    obtain ⟨a, us, rfl, g, rr⟩ := (lv_d (s := s)).get S r1
    have e := dqa_strs (rws_dpa rr)
    subst e
    refine ⟨a, ks, rfl, g, (fun e => by rw [e] at hy; cases hy.1), fun z hz => ?_⟩
    have : z = y := by
      rcases str_tri' z y with h | h | h
      · exact absurd h (hy.2 z hz.1)
      · exact h
      · exact absurd h (hz.2 y hy.1)
    subst this
    exact q _ H same_refl rs
/-! ### xs.extend(ys), ys a list of data -/
theorem hs_extD {n : Nat} {a : Addr} {xs : List W} {ds : List PyData} (hn : s.h[n]? = some (a, .lst xs)) (ho : Ev K ta s (.o a)) (h : Ev K te s (wl ds)) (hz : xs.length + ds.length ≤ sizeLine) (h2 : O.n ⟨s.g, s.h.set n (a, .lst (xs ++ ds.map .d))⟩) :
    HS K E (tDrop (tBM K "list" rExtend ta (tCons te tNil))) s O := fun B σ H D S q =>
  ho B σ H _ S fun v H1 e1 r1 => by
    cases (show v = V.ref a from r1)
    have S1 := S.mono e1
    refine ⟨tyw_v (tyw_l (lv_o n hn)) S1 r1, h B σ H1 _ S1 fun u H2 e2 r2 => ?_⟩
    have S2 := S1.mono e2
    obtain ⟨vs, hv, rv⟩ := S2.hh.cell _ (List.mem_of_getElem? hn)
    cases r2 with
    | lst hb ha =>
      have r3 := dpa_rws ha
      have k := cell_set (c' := .lst (xs ++ ds.map .d)) (o := .lst (vs ++ _)) S2 hn ⟨_, rfl, rv.append r3⟩
      exact ⟨a, _, vs, _, rfl, rfl, hv, msk_sub _ _ hb, by rw [rv.len, r3.len, List.length_map]; exact hz, q.n _ σ _ h2 k.1 ((Fr.of (e1.trans e2)).trans k.2)⟩
/-! ### comprehensions whose tests and items may touch cells -/
def EvFW (K : PySem.W.Frag) (te : TE) (s : S) (xs : List W) : Prop := ∀ (B : List Addr) (σ : L2.St) (H : Hp) (Q : VK), Sat K B s σ H →
  (∀ a H', Sat K B ⟨s.g, (a, .lst xs) :: s.h⟩ σ H' → Fr s.h H ((a, .lst xs) :: s.h) H' → Q (.ref a) H') → te σ H Q
theorem EvFW.ev {ds : List PyData} (h : EvFW K te s (ds.map .d)) : EvW K te s (wl ds) := fun B σ H Q S q =>
  h B σ H Q S fun b H3 Sj fj => by
    have sj := Sj.hh
    have rr := share1 (s := s) (v := .ref b) (K := K) (B := B) (σ := σ) (H := H3) Sj rfl
    have sub : Same (msk H3 (ads ((b, Cell.lst (ds.map .d)) :: s.h) ++ B)) (msk H3 (ads s.h ++ B)) := msk_less fun b hb => List.mem_cons_of_mem _ hb
    refine q (.ref b) H3 ⟨⟨fun p hp => (sj.cell p (List.mem_cons_of_mem _ hp)).mono sub, (List.nodup_cons.mp sj.nd).2, sj.bt, (fun b hb z => sj.db b hb (List.mem_cons_of_mem _ z)), sj.nt⟩, S.gg.mono ?_⟩ ?_ rr
    · exact fun c o e => sub _ _ (fj.msk c o e)
    · exact fun c o nc e => ⟨nc, (fj c o nc e).2⟩
abbrev inBD (s : S) (vs : List Nat) (j : Nat) (w : W) (D : Addr) (out : List W) : S := ⟨(wipeG s.g vs).set j (some w), (D, .lst out) :: s.h⟩
/-- one turn -/
theorem cww_turn {G : Gam} {b : Bool} {w : W} {out : List W} {D : Addr} {σ1 σ2 : L2.St} {Nx : Hp → Prop} (S0 : Sat K B s σ1 H) (S3 : Sat K B ⟨G, (D, .lst out) :: s.h⟩ σ2 H') (f : Fr s.h H ((D, .lst out) :: s.h) H') (hz : out.length < sizeLine)
    (ht : EvTW K tt ⟨G, (D, .lst out) :: s.h⟩ b) (he : b = true → EvW K te ⟨G, (D, .lst out) :: s.h⟩ w)
    (hy : b = true → ∀ H2, SatH K B ((D, .lst (out ++ [w])) :: s.h) H2 → Fr s.h H ((D, .lst (out ++ [w])) :: s.h) H2 → Nx H2) (hn : b = false → ∀ H2, SatH K B ((D, .lst out) :: s.h) H2 → Fr s.h H ((D, .lst out) :: s.h) H2 → Nx H2) :
    tt σ2 H' fun b H3 => if b = true then te σ2 H3 fun y H4 => ∃ acc, H4 D = some (.lst acc) ∧ acc.length < sizeLine ∧ Nx (upd H4 D (.lst (acc ++ [y]))) else Nx H3 := by
  have nDs : D ∉ ads s.h := (List.nodup_cons.mp S3.hh.nd).1
  have fD : ∀ {H1 H2 : Hp}, Fr ((D, Cell.lst out) :: s.h) H1 ((D, Cell.lst out) :: s.h) H2 → Fr s.h H ((D, Cell.lst out) :: s.h) H1 → Fr s.h H ((D, Cell.lst out) :: s.h) H2 := fun a b => b.trans a
  refine ht B σ2 H' _ S3 fun H3 S4 f3 => ?_
  cases b with
  | false => exact iteF (hn rfl _ S4.hh (fD f3 f))
  | true =>
    refine iteT (he rfl B σ2 H3 _ S4 fun y H4 S5 f4 ry => ?_)
    obtain ⟨acc, hD, rv⟩ := S5.hh.cell (D, Cell.lst out) List.mem_cons_self
    have k := cell_set (n := 0) (c' := .lst (out ++ [w])) (o := .lst (acc ++ [y])) S5 rfl ⟨_, rfl, rv.append (.cons ry .nil)⟩
    exact ⟨acc, hD, by rw [rv.len]; exact hz, hy rfl _ k.1.hh ((fD f4 (fD f3 f)).trans k.2)⟩
theorem evfw_lcR {j : Nat} {vs : List Nat} {n : Int} (f : Nat → Bool) (v : Nat → W) (h : EvA K tr s [wi n]) (hn : n ≤ 16000000) (h0 : -(2 ^ 62) ≤ n) (hj : j ∈ vs)
    (ht : ∀ (D : Addr) (out : List W) (i : Nat), (i : Int) < n → EvTW K tt (inBD s vs j (wi (i : Int)) D out) (f i)) (he : ∀ (D : Addr) (out : List W) (i : Nat), (i : Int) < n → f i = true → EvW K te (inBD s vs j (wi (i : Int)) D out) (v i)) :
    EvFW K (tLc (iRng1 tr) (gName j) tt te vs) s (outs n.toNat f v) := fun B σ H Q S q =>
  h B σ H _ S fun us H1 e1 r1 => by
    cases r1 with
    | cons r1 r2 =>
      cases r2; cases rw_i r1
      refine ⟨n, rfl, h0, by omega, fun D nD => ?_⟩
      have S1 := S.mono e1
      obtain ⟨c1, c2, c3⟩ := cell_new (xs := []) (vs := []) S1 (same_new (o := .lst []) nD) nD upd_same .nil
      refine lc_range (lo := 0) (n := n.toNat) (fun i H' => SatH K B ((D, .lst (outs i f v)) :: s.h) H' ∧ Fr s.h H1 ((D, .lst (outs i f v)) :: s.h) H') ⟨c1, c2⟩ (fun i H' hi c => ?_) (fun H' c => q D H' ⟨c.1, S1.gg.mono c.2.msk⟩ ((Fr.of e1).trans c.2))
      refine ⟨wipe_set hj, ?_⟩
      have e0 : (0 : Int) + (i : Int) = (i : Int) := Int.zero_add _
      have hlt : (i : Int) < n := by omega
      rw [e0]
      have hz : (outs i f v).length < sizeLine := Nat.lt_of_le_of_lt (outs_len i f v) (by rw [sizeLine_eq]; omega)
      have S3 : Sat K B (inBD s vs j (wi (i : Int)) D (outs i f v)) ((wipe σ vs).set j (some (.int (i : Int)))) H' := ⟨c.1, (wipe_sat (S1.gg.mono c.2.msk) vs).set ri j⟩
      exact cww_turn S1 S3 c.2 hz (ht D _ i hlt) (he D _ i hlt) (fun hb H2 a b => by rw [outs_yes hb]; exact ⟨a, b⟩) (fun hb H2 a b => by rw [outs_no hb]; exact ⟨a, b⟩)
/-! ### arguments that may change cells -/
def EvAG (K : PySem.W.Frag) (E : L2.St → XK) (ta : TA) (s : S) (k : List W → Del → Prop) (x : Value → Del → Prop) : Prop := ∀ (B : List Addr) (σ : L2.St) (H : Hp) (Q : List V → Hp → Prop), Sat K B s σ H →
  (∀ ws Δ' vs H', k ws Δ' → Sat K B ⟨s.g, Δ'⟩ σ H' → Fr s.h H Δ' H' → RWs K (msk H' (ads Δ' ++ B)) vs ws → Q vs H') → (∀ c Δ' H', x c Δ' → Sat K B ⟨s.g, Δ'⟩ σ H' → Fr s.h H Δ' H' → E σ c none H') → ta σ H Q
theorem eag_w {xs : List W} {k : List W → Del → Prop} {ex : Value → Del → Prop} (h : EvAW K tr s xs) (hk : k xs s.h) : EvAG K E tr s k ex := fun B σ H Q S q _ => h B σ H Q S fun vs H' S' f r => q xs s.h vs H' hk S' f r
theorem eag_cons {k : List W → Del → Prop} {ex : Value → Del → Prop} (h : EvG K E te s (fun w Δ1 => EvAG K E tr ⟨s.g, Δ1⟩ (fun ws Δ2 => k (w :: ws) Δ2) ex) ex) : EvAG K E (tCons te tr) s k ex := fun B σ H Q S q qx =>
  h B σ H _ S (fun w Δ1 v H1 kk S1 f1 r1 => kk B σ H1 _ S1 (fun ws Δ2 vs H2 k2 S2 f2 r2 => q (w :: ws) Δ2 (v :: vs) H2 k2 S2 (f1.trans f2) (.cons (r1.mono f2.msk) r2)) fun c Δ2 H2 x2 S2 f2 => qx c Δ2 H2 x2 S2 (f1.trans f2)) qx
theorem eag_c {k : List W → Del → Prop} {ex : Value → Del → Prop} (h : EvW K te s w) (hr : EvAG K E tr s (fun ws Δ2 => k (w :: ws) Δ2) ex) : EvAG K E (tCons te tr) s k ex := eag_cons (h.toG hr)
variable {sp : Tr} {E1 : XK} {E' : L2.St → XK}
theorem evg_callA {k : W → Del → Prop} {ex : Value → Del → Prop} (h : EvAG K E tr s (fun ws Δ1 => ∃ bs, sp ws (pick bs Δ1) (fun w Δ' => k w (put bs Δ' Δ1)) (fun c Δ' => ex c (put bs Δ' Δ1))) ex) : EvG K E (tCallS (spOf K sp) E tr) s k ex := fun B σ H Q S q qx =>
  h B σ H _ S (fun ws Δ1 vs H1 kk S1 f1 r1 => by
    obtain ⟨bs, ht⟩ := kk
    exact callG (s := ⟨s.g, Δ1⟩) bs S1 r1 ht (fun w Δ' v H2 kk S2 f2 r2 => q w _ v H2 kk S2 (f1.trans f2) r2) fun c Δ' H2 xx S2 f2 => qx c _ H2 xx S2 (f1.trans f2)) qx
theorem evg_callSA0 {k : W → Del → Prop} {ex : Value → Del → Prop} (h : EvAG K (fun _ _ _ _ => True) tr s (fun ws Δ1 => ∃ bs, sp ws (pick bs Δ1) (fun w Δ' => k w (put bs Δ' Δ1)) (fun _ _ => False)) (fun _ _ => False)) : EvG K E (tCallS (spOf K sp) E' tr) s k ex := fun B σ H Q S q qx =>
  h B σ H _ S (fun ws Δ1 vs H1 kk S1 f1 r1 => by
    obtain ⟨bs, ht⟩ := kk
    exact callG (s := ⟨s.g, Δ1⟩) bs S1 r1 ht (fun w Δ' v H2 kk S2 f2 r2 => q w _ v H2 kk S2 (f1.trans f2) r2) fun c Δ' H2 xx S2 f2 => xx.elim) fun _ _ _ z => z.elim
theorem evg_callA0 {k : W → Del → Prop} {ex : Value → Del → Prop} (h : EvAG K (fun _ _ _ _ => True) tr s (fun ws Δ1 => ∃ bs, sp ws (pick bs Δ1) (fun w Δ' => k w (put bs Δ' Δ1)) (fun _ _ => False)) (fun _ _ => False)) : EvG K E (tCall (spOf K sp) [] E1 tr) s k ex := fun B σ H Q S q qx =>
  h B σ H _ S (fun ws Δ1 vs H1 kk S1 f1 r1 => by
    obtain ⟨bs, ht⟩ := kk
    exact callG (s := ⟨s.g, Δ1⟩) bs S1 (rws_nil r1) ht (fun w Δ' v H2 kk S2 f2 r2 => q w _ v H2 kk S2 (f1.trans f2) r2) fun c Δ' H2 xx S2 f2 => xx.elim) fun _ _ _ z => z.elim
/-- a method, its arguments may change cells -/
theorem evg_mtA {C a : Addr} {m : Str} {k : W → Del → Prop} {ex : Value → Del → Prop} (ho : Ev K ta s (.o a)) {n0 : Nat} {L0 : List Str} {ys0 : List W} (hn0 : s.h[n0]? = some (a, obL C L0 ys0)) (hm : m ∉ L0)
    (h : EvAG K E tr s (fun ws Δ1 => ∃ bs, sp (.o a :: ws) (pick bs Δ1) (fun w Δ' => k w (put bs Δ' Δ1)) (fun c Δ' => ex c (put bs Δ' Δ1))) ex) : EvG K E (tMethS C m (spOf K sp) E ta tr) s k ex := fun B σ H Q S q qx =>
  ho B σ H _ S fun v H1 e1 r1 => by
    cases (show v = V.ref a from r1)
    have S1 := S.mono e1
    obtain ⟨dx, vs, h1, h2⟩ := obj_no hn0 (look_zip_none hm) S1
    refine ⟨a, dx, vs, rfl, h1, h2, h B σ H1 _ S1 (fun ws Δ1 us H2 kk S2 f2 r2 => ?_) fun c Δ' H2 xx S2 f2 => qx c _ H2 xx S2 ((Fr.of e1).trans f2)⟩
    obtain ⟨bs, ht⟩ := kk
    exact callG (s := ⟨s.g, Δ1⟩) bs S2 (.cons (w := .o a) rfl r2) ht (fun w Δ' v H3 kk S3 f3 r3 => q w _ v H3 kk S3 (((Fr.of e1).trans f2).trans f3) r3) fun c Δ' H3 xx S3 f3 => qx c _ H3 xx S3 (((Fr.of e1).trans f2).trans f3)
theorem evg_mtA0 {C a : Addr} {m : Str} {k : W → Del → Prop} {ex : Value → Del → Prop} (ho : Ev K ta s (.o a)) {n0 : Nat} {L0 : List Str} {ys0 : List W} (hn0 : s.h[n0]? = some (a, obL C L0 ys0)) (hm : m ∉ L0)
    (h : EvAG K E' tr s (fun ws Δ1 => ∃ bs, sp (.o a :: ws) (pick bs Δ1) (fun w Δ' => k w (put bs Δ' Δ1)) (fun _ _ => False)) (fun _ _ => False)) : EvG K E (tMethS C m (spOf K sp) E' ta tr) s k ex := fun B σ H Q S q qx =>
  evg_mtA (E := E') (ex := fun _ _ => False) ho hn0 hm h B σ H Q S q fun _ _ _ z => z.elim
/-! ### ends -/
theorem hs_xP {t1 : TS} (bs : List Bool) (h : HS K E t1 s { O with x := fun c s' => O.x c ⟨s'.g, pick bs s'.h⟩ }) : HS K E t1 s O := fun B σ H D S q =>
  h B σ H D S ⟨q.n, q.r, q.b, q.c, fun c s' σ' H' hx S' f => q.x c ⟨s'.g, pick bs s'.h⟩ σ' H' hx ⟨sath_pick bs S'.hh, S'.gg.mono (sub_pick bs)⟩ (f.trans (fr_pick bs))⟩
theorem hs_extX {n : Nat} {a : Addr} {xs : List W} (hn : s.h[n]? = some (a, .lst xs)) (ho : Ev K ta s (.o a)) (h : EvR K E te s (fun _ => False) (fun c => O.x c s)) : HS K E (tDrop (tBM K "list" rExtend ta (tCons te tNil))) s O := fun B σ H D S q =>
  ho B σ H _ S fun v H1 e1 r1 => by
    cases (show v = V.ref a from r1)
    have S1 := S.mono e1
    exact ⟨tyw_v (tyw_l (lv_o n hn)) S1 r1, h B σ H1 _ S1 (fun _ _ _ z => z.elim) fun c H2 hx e2 => q.x c s σ H2 hx (S1.mono e2) (Fr.of (e1.trans e2))⟩
theorem hs_retFP {xs : List W} (bs : List Bool) (h : EvF K te s xs) (h2 : ∀ a, O.r (.o a) ((a, .lst xs) :: pick bs s.h)) : HS K E (tRet te) s O := fun B σ H D S q =>
  h B σ H _ S fun a vs H' e n ha r => by
    obtain ⟨c1, c2, c3⟩ := cell_new S e n ha r
    exact q.r (.o a) _ _ H' (h2 a) (sath_pick (true :: bs) c1) (c2.trans (fr_pick (true :: bs))) rfl
theorem hs_retD {Δ : Del} (h : EvD K te s w Δ) (h2 : O.r w Δ) : HS K E (tRet te) s O := fun B σ H D S q =>
  h B σ H _ S fun v H1 S1 f1 r1 => q.r w Δ v H1 h2 S1.hh f1 r1
theorem hs_retD0 {Δ : Del} (h : EvD K te s w Δ) (h2 : O.r w []) : HS K E (tRet te) s O := fun B σ H D S q =>
  h B σ H _ S fun v H1 S1 f1 r1 => q.r w [] v H1 h2 (sath_nil S1.hh) (fr_nil f1) (r1.mono (msk_less fun b hb => List.mem_append_right _ (by simpa [ads] using hb)))
theorem evd_andV {a b : Bool} {Δ1 Δ2 : Del} (h1 : EvD K ta s (wb a) Δ1) (h2 : a = true → EvD K tb ⟨s.g, Δ1⟩ (wb b) Δ2) (h3 : a = false → Δ1 = Δ2) : EvD K (tAndV ta tb) s (wb (a && b)) Δ2 := fun B σ H Q S q => h1 B σ H _ S fun v H1 S1 f1 r1 => ⟨a, rw_b r1, by
  cases a with
  | true => exact iteT (h2 rfl B σ H1 Q S1 fun v H2 S2 f2 r2 => q v H2 S2 (f1.trans f2) r2)
  | false => rw [h3 rfl] at S1 f1; exact iteF (q _ H1 S1 f1 rb)⟩
theorem EvW.toD (h : EvW K te s w) : EvD K te s w s.h := h
/-- x[..] = e or another target, e may change cells -/
theorem hq_asgGT {g : TG} (h : EvG K E te s (fun w Δ' => ∃ s1, GS K g w ⟨s.g, Δ'⟩ s1 ∧ HS K E tz s1 O) (fun c Δ' => O.x c ⟨s.g, Δ'⟩)) : HS K E (tSeq (tAsg te g) tz) s O := fun B σ H D S q =>
  h B σ H _ S (fun w Δ' v H' kk S' f r => by
    obtain ⟨s1, hg, h2⟩ := kk
    exact hg B σ H' v _ S' r fun σ2 H2 S2 f2 => h2 B σ2 H2 D S2 (q.step (f.trans f2))) fun c Δ' H' xx S' f => q.x c _ σ H' xx S' f
theorem hs_asgGT {g : TG} (h : EvG K E te s (fun w Δ' => ∃ s1, GS K g w ⟨s.g, Δ'⟩ s1 ∧ O.n s1) (fun c Δ' => O.x c ⟨s.g, Δ'⟩)) : HS K E (tAsg te g) s O := fun B σ H D S q =>
  h B σ H _ S (fun w Δ' v H' kk S' f r => by
    obtain ⟨s1, hg, h2⟩ := kk
    exact hg B σ H' v _ S' r fun σ2 H2 S2 f2 => q.n s1 σ2 H2 h2 S2 (f.trans f2)) fun c Δ' H' xx S' f => q.x c _ σ H' xx S' f
end
end DL

namespace DL
open PySem PySem.Spec PyProof.Rows L2 TL
/-! ### try with several clauses, some of which name the error -/
structure Cz where
  nm : Option Nat
  cv : Value
  ts : Addr → Value → Option Addr → TS
def endZ (D : Ends) : Option Nat → Ends
  | none => D
  | some i => { nx := fun τ G => D.nx (τ.set i none) G, rt := D.rt, bk := fun τ G => D.bk (τ.set i none) G, ct := fun τ G => D.ct (τ.set i none) G }
def slZ (a : Addr) (σ : L2.St) : Option Nat → L2.St
  | none => σ
  | some i => σ.set i (some (.ref a))
def wMix (K : PySem.W.Frag) (Wout : WX) (D : Ends) : List Cz → WX
  | [] => Wout
  | z :: r => fun cls d σ H => ∃ b, PySem.W.exmOne K cls z.cv = some b ∧ (b = true → ∀ a, H a = none → z.ts a cls d (endZ D z.nm) (slZ a σ z.nm) H) ∧ (b = false → wMix K Wout D r cls d σ H)
def NmOk (X : Cx) (on : Option Str) (oi : Option Nat) : Prop := (on = none ∧ oi = none) ∨ ∃ n i, on = some n ∧ oi = some i ∧ X.N[i]? = some n ∧ X.env.kindOf n = some .local
inductive HzOk (X : Cx) : List ExceptHandler → List Cz → Prop
  | nil : HzOk X [] []
  | cons {x : Str} {on : Option Str} {z : Cz} {b₀ : Stmt} {suite : List Stmt} {np pos' : Pos} {hds : List ExceptHandler} {l : List Cz} (hn : NmOk X on z.nm) (hc : Names X x z.cv)
      (hsu : ∀ (a : Addr) (oe : Obj) (cls : Value) (d : Option Addr) (pn : List (Addr × Obj)), L2.Zc cls d oe → (∃ vs, oe.data = .fields vs) → PSs (X.suite a ((a, oe) :: pn)) (b₀ :: suite) (z.ts a cls d)) (r : HzOk X hds l) :
      HzOk X (.ExceptHandler (some (.Name x np)) on (b₀ :: suite) pos' :: hds) (z :: l)
def tTryMix (K : PySem.W.Frag) (l : List Cz) (tb : WX → TS) (Wout : WX) : TS := fun D σ H => tb (wMix K Wout D l) D σ H
section
variable {X : Cx} {body : List Stmt} {h₀ : ExceptHandler} {hds : List ExceptHandler} {l : List Cz} {pos : Pos} {tb : WX → TS} {Wout : WX}
/-- a block's end, seen from outside the try -/
theorem end_try {pins : List (Addr × Obj)} {D : Ends} {s0 s1 : Shared} {σ : L2.St} {H : Hp} {xe : Value → Shared → Prop} (I : Inv X pins σ H s0) (f : Flow) (h : SP (X.tr (X.pn ++ pins) xe) [] D f s1) : SP X pins D f s1 := by
  have k := I.ok
  cases f with
  | next => exact h.elim fun τ ⟨G, J, q⟩ => ⟨τ, G, J.ofTry k, q⟩
  | brk => exact h.elim fun τ ⟨G, J, q⟩ => ⟨τ, G, J.ofTry k, q⟩
  | cont => exact h.elim fun τ ⟨G, J, q⟩ => ⟨τ, G, J.ofTry k, q⟩
  | ret u => exact h.elim fun v ⟨τ, G, J, r, q⟩ => ⟨v, τ, G, J.ofTry k, r, q⟩
/-- .. of a suite without a name -/
theorem end_suite {pins : List (Addr × Obj)} {D : Ends} {s1 : Shared} {a : Addr} {oe : Obj} (k : X.Ok) (f : Flow) (h : SP (X.suite a ((a, oe) :: (X.pn ++ pins))) [] D f s1) : SP X pins D f s1 := by
  cases f with
  | next => exact h.elim fun τ ⟨G, J, q⟩ => ⟨τ, G, J.unsuite k, q⟩
  | brk => exact h.elim fun τ ⟨G, J, q⟩ => ⟨τ, G, J.unsuite k, q⟩
  | cont => exact h.elim fun τ ⟨G, J, q⟩ => ⟨τ, G, J.unsuite k, q⟩
  | ret u => exact h.elim fun v ⟨τ, G, J, r, q⟩ => ⟨v, τ, G, J.unsuite k, r, q⟩
/-- .. of one that names the error: the name goes -/
theorem end_named {pins : List (Addr × Obj)} {D : Ends} {s1 : Shared} {a : Addr} {oe : Obj} {n : Str} {i : Nat} {p' : Pos} (k : X.Ok) (nd : X.N.Nodup) (at' : X.N[i]? = some n) (lo : X.env.kindOf n = some .local) (f : Flow)
    (h : SP (X.suite a ((a, oe) :: (X.pn ++ pins))) [] (endZ D (some i)) f s1) : wpAny (model X.prog X.w) X.A (do bindName X.env n .none; unbindBehindTheSuite X.env n p') (fun _ s2 => SP X pins D f s2) X.xe s1 := by
  cases f with
  | next => exact h.elim fun τ ⟨G, J, q⟩ => gone_ok (J.unsuite k) nd at' lo fun s2 J2 => ⟨_, G, J2, q⟩
  | brk => exact h.elim fun τ ⟨G, J, q⟩ => gone_ok (J.unsuite k) nd at' lo fun s2 J2 => ⟨_, G, J2, q⟩
  | cont => exact h.elim fun τ ⟨G, J, q⟩ => gone_ok (J.unsuite k) nd at' lo fun s2 J2 => ⟨_, G, J2, q⟩
  | ret u => exact h.elim fun v ⟨τ, G, J, r, q⟩ => gone_ok (J.unsuite k) nd at' lo fun s2 J2 => ⟨v, _, G, J2, r, q⟩
theorem no_frame {B h : Heap} {l : List Env} {a : Addr} {o : Obj} {vs : Array Value} (ff : h.FunFrames B l) (e : h.get? a = some o) (dd : o.data = .fields vs) : a ∉ frs l := fun hm => by
  obtain ⟨_, o', e', hnf⟩ := ff.mem hm
  exact hnf _ (by rw [← Option.some.inj (e.symm.trans e')]; exact dd)
theorem ps_try_mixD (hs : X.stack = X.env :: X.outer) (hf : X.env.frame = some X.env.locals) (nd : X.N.Nodup) (tk : L2.Takes X Wout)
    (hb : ∀ (W : WX) (pn : List (Addr × Obj)) (xe : Value → Shared → Prop), L2.Takes (X.tr pn xe) W → PassesOwn (model X.prog X.w) X.A X.env xe → PSs (X.tr pn xe) body (tb W))
    (hh : HzOk X (h₀ :: hds) l) : PS X (.Try body (h₀ :: hds) [] [] pos) (tTryMix X.K l tb Wout) := by
  refine ⟨fun pins s σ H D I h => wpAny_Try_except ?_⟩
  have k := I.ok
  have frA : X.A.frames = some (X.env :: X.outer) := by rw [k.frames, hs]
  refine wpAny_mono ((hb (wMix X.K Wout D l) (X.pn ++ pins) (fun e t1 => wpAny (model X.prog X.w) X.A (noteFrame e X.env) (fun _ t2 => wpAny (model X.prog X.w) X.A (setFlight e none)
    (fun _ t3 => wpAny (model X.prog X.w) X.A (handleBy e X.env (h₀ :: hds)) (SP X pins D) X.xe t3) X.xe t2) X.xe t1) (fun u s1 xx => ?_) PassesOwn.looking).run [] s σ H D (I.toTry _) h) (fun f s1 hsp => ?_) fun e s1 he => he
  · obtain ⟨a, B, sI, _, τ, G, cls, d, rfl, J0, nb, up, sk, na, os, ag, w⟩ := xx
    have J : Inv X pins τ G sI := J0.ofTry k
    have sk2 : Sky B (X.env :: X.outer) a (L2.Zc cls d) X.env.locals s1.heap := hs ▸ sk
    refine Sky.land L2.Zc.steady frA hf sk2 fun g fl ug => ?_
    have J1 : Inv X pins τ G { s1 with heap := g } := J.landed nb fl.1 (up.trans ug) os ag
    obtain ⟨o1, v1, ge, gz, gd⟩ := fl.there
    have nfr := no_frame fl.2.2.1 ge gd
    have nL : a ≠ X.env.locals := fun z => nfr (List.mem_filterMap.mpr ⟨X.env, List.mem_cons_self, by rw [hf, z]⟩)
    have nF : a ∉ X.fs := fun hm => (List.mem_filterMap.mp hm).elim fun e ⟨he, q⟩ => nfr (List.mem_filterMap.mpr ⟨e, List.mem_cons_of_mem _ he, q⟩)
    have S1 := J1.suite ge gd na nL nF
    have loop : ∀ {hds' : List ExceptHandler} {l' : List Cz}, HzOk X hds' l' → wMix X.K Wout D l' cls d τ G → wpAny (model X.prog X.w) X.A (handleBy (.ref a) X.env hds') (SP X pins D) X.xe { s1 with heap := g } := by
      intro hds' l' hk
      induction hk with
      | nil =>
        intro w
        have out : wpAny (model X.prog X.w) X.A (setFlight (.ref a) X.env.frame) (fun _ t => wpAny (model X.prog X.w) X.A (throw (.ref a) : Sem Flow) (SP X pins D) X.xe t) X.xe { s1 with heap := g } := by
          rw [hf]
          exact HandSPX.setFlight_upZ fl fun g2 hh2 u2 => wpAny_throw (tk _ _ ⟨a, B, sI, pins, τ, G, cls, d, rfl, J, nb, (up.trans ug).trans u2, .inr (.inr (by rw [hs]; exact hh2)), na, os, ag, w⟩)
        obtain ⟨_, _, _, o2, v2, T, oT, tt, he, hz, hd, h1, hr⟩ := id fl
        refine wpAny_handleBy_nil ?_
        unfold PySem.passOn
        refine wpAny_bind (wpAny_field he hd h1 ?_)
        rw [if_neg (by simp : ¬ (Value.ref T == Value.none) = true)]
        first
          | exact wpAny_bind (wpAny_pure (wpAny_bind out))
          | exact wpAny_bind out
      | @cons x on z b₀ suite np pos' hds2 l2 hn hc hsu r ih =>
        intro w
        obtain ⟨b, hb1, yes, no⟩ := w
        have LT : PySem.W.Looks (model X.prog X.w) g (typeOf (.ref a)) cls := fun A Q E t k q => wpAny_typeOf_ref (k _ _ ge) (by rw [gz.1]; exact q)
        have LM := PySem.W.exm_one (M := model X.prog X.w) J1.kIn LT hb1
        refine wpAny_handleBy_cons (codeAny_handlers_test ?_) (fun q => nomatch q)
        have nm : ∀ {Q : Value → Shared → Prop} {E : Value → Shared → Prop}, Q z.cv { s1 with heap := g } → wpAny (model X.prog X.w) (X.A.mark (some (.ref a))) (eval (.Name x np) X.env) Q E { s1 with heap := g } := by
          intro Q E q
          rcases hc with ⟨g1, g2, m | ⟨m, v, n⟩⟩
          · exact ld_glob (X := X.suite a ((a, o1) :: (X.pn ++ pins))) S1 g1 m q g2
          · exact ld_blt (X := X.suite a ((a, o1) :: (X.pn ++ pins))) S1 g1 m v q n g2
        refine nm (LM.here ?_)
        cases b with
        | false => exact ih (no rfl)
        | true =>
          have yes := yes rfl a na
          rcases hn with ⟨rfl, hz⟩ | ⟨n, i, rfl, hz, at', lo⟩
          · rw [hz] at yes
            refine codeAny_handlers_suite (HandSPX.lands_againZ fl fun g2 fl2 u2 => ?_)
            have J2 : Inv X pins τ G { s1 with heap := g2 } := J.landed nb fl2.1 ((up.trans ug).trans u2) os ag
            obtain ⟨o2, v2, e2, z2, d2⟩ := fl2.there
            exact wpAny_mono ((hsu a o2 cls d (X.pn ++ pins) z2 ⟨_, d2⟩).run [] _ τ G _ (J2.suite e2 d2 na nL nF) yes) (fun f t ht => end_suite k f ht) fun _ _ q => q.elim
          · rw [hz] at yes
            refine codeAny_handlers_suite_as (HandSPX.lands_againZ fl fun g2 fl2 u2 => ?_)
            have J2 : Inv X pins τ G { s1 with heap := g2 } := J.landed nb fl2.1 ((up.trans ug).trans u2) os ag
            obtain ⟨o2, v2, e2, z2, d2⟩ := fl2.there
            refine store_ok (X := X.suite a ((a, o2) :: (X.pn ++ pins))) (v := .ref a) (J2.suite e2 d2 na nL nF) nd at' (.inl lo) rfl (fun t St => ?_) (.inr lo)
            exact wpAny_mono ((hsu a o2 cls d (X.pn ++ pins) z2 ⟨_, d2⟩).run [] t _ G _ St yes) (fun f t2 ht => end_named k nd at' lo f ht) fun _ _ q => q.elim
    exact loop hh w
  · have := end_try I f hsp
    cases f with
    | next => exact wpAny_execs_nil this
    | brk => exact this
    | cont => exact this
    | ret u => exact this
end
section
variable {K : PySem.W.Frag} {s : S} {E E2 : L2.St → XK} {O : Out}
/-- what is wanted of the clauses -/
def OutZ (O : Out) : Option Nat → Out
  | none => { O with x := fun _ _ => False }
  | some i => { n := fun s2 => O.n ⟨s2.g.set i none, s2.h⟩, r := O.r, b := fun s2 => O.b ⟨s2.g.set i none, s2.h⟩, c := fun s2 => O.c ⟨s2.g.set i none, s2.h⟩, x := fun _ _ => False }
def StZ (a : Addr) (s : S) : Option Nat → S
  | none => s
  | some i => ⟨s.g.set i (some (.x (.ref a))), s.h⟩
def CatZ (K : PySem.W.Frag) (E2 : L2.St → XK) (O : Out) (c : Value) (s' : S) : List Cz → Prop
  | [] => False
  | z :: r => ∃ b, PySem.W.exmOne K c z.cv = some b ∧ (b = true → ∀ a, HS K E2 (z.ts a c none) (StZ a s' z.nm) (OutZ O z.nm)) ∧ (b = false → CatZ K E2 O c s' r)
theorem hs_tryMix0 {l : List Cz} {tb : WX → TS} {Wout : WX} (Xb : Value → S → Prop) (hb : ∀ Wv : WX, HS K (WE Wv) (tb Wv) s { O with x := Xb }) (hs : ∀ c s', Xb c s' → CatZ K E2 O c s' l) : HS K E (tTryMix K l tb Wout) s O := fun B σ H D S q =>
  hb (wMix K Wout D l) B σ H D S ⟨q.n, q.r, q.b, q.c, fun c s' σ' H' hx S' f => by
    have go : ∀ l' : List Cz, CatZ K E2 O c s' l' → wMix K Wout D l' c none σ' H' := by
      intro l'
      induction l' with
      | nil => exact fun z => z.elim
      | cons z r ih =>
        rintro ⟨b, e, h1, h2⟩
        refine ⟨b, e, fun hb a ha => ?_, fun hb => ih (h2 hb)⟩
        have h1 := h1 hb a
        cases hz : z.nm with
        | none =>
          rw [hz] at h1
          exact h1 B σ' H' _ S' ⟨fun s2 σ2 H2 hn S2 f2 => q.n _ _ H2 hn S2 (f.trans f2), fun w Δ v H2 hr S2 f2 r2 => q.r w Δ v H2 hr S2 (f.trans f2) r2,
            fun s2 σ2 H2 hn S2 f2 => q.b _ _ H2 hn S2 (f.trans f2), fun s2 σ2 H2 hn S2 f2 => q.c _ _ H2 hn S2 (f.trans f2), fun _ _ _ _ z => z.elim⟩
        | some i =>
          rw [hz] at h1
          refine h1 B (σ'.set i (some (.ref a))) H' _ ⟨S'.hh, S'.gg.set (v := .ref a) (w := .x (.ref a)) rfl i⟩ ⟨?_, ?_, ?_, ?_, fun _ _ _ _ z => z.elim⟩
          · exact fun s2 σ2 H2 hn S2 f2 => q.n _ _ H2 hn ⟨S2.hh, S2.gg.forget i⟩ (f.trans f2)
          · exact fun w Δ v H2 hr S2 f2 r2 => q.r w Δ v H2 hr S2 (f.trans f2) r2
          · exact fun s2 σ2 H2 hn S2 f2 => q.b _ _ H2 hn ⟨S2.hh, S2.gg.forget i⟩ (f.trans f2)
          · exact fun s2 σ2 H2 hn S2 f2 => q.c _ _ H2 hn ⟨S2.hh, S2.gg.forget i⟩ (f.trans f2)
    exact go l (hs c s' hx)⟩
end
end DL
namespace DL
open PySem PySem.Spec PyProof.Rows L2 TL
theorem perm_era {α : Type} {a : α} : ∀ {B : List α} {n : Nat}, B[n]? = some a → (a :: B.eraseIdx n).Perm B
  | [], _, h => by cases h
  | b :: B, 0, h => by
    have e : b = a := Option.some.inj h
    rw [e]; exact .refl _
  | b :: B, n + 1, h => (List.Perm.swap b a (B.eraseIdx n)).trans ((perm_era (B := B) (n := n) h).cons b)
theorem perm_at {α : Type} {a : α} {A B : List α} (n : Nat) (h : B[n]? = some a) (p : A.Perm (B.eraseIdx n)) : (a :: A).Perm B := (p.cons _).trans (perm_era h)
theorem perm1 {α : Type} {a b : α} {A C : List α} (p : A.Perm (b :: C)) : (a :: A).Perm (b :: a :: C) := perm_at 1 rfl p
theorem perm2 {α : Type} {a b c : α} {A C : List α} (p : A.Perm (b :: c :: C)) : (a :: A).Perm (b :: c :: a :: C) := perm_at 2 rfl p
theorem perm3 {α : Type} {a b c d : α} {A C : List α} (p : A.Perm (b :: c :: d :: C)) : (a :: A).Perm (b :: c :: d :: a :: C) := perm_at 3 rfl p
theorem perm4 {α : Type} {a b c d e : α} {A C : List α} (p : A.Perm (b :: c :: d :: e :: C)) : (a :: A).Perm (b :: c :: d :: e :: a :: C) := perm_at 4 rfl p
theorem perm5 {α : Type} {a b c d e f : α} {A C : List α} (p : A.Perm (b :: c :: d :: e :: f :: C)) : (a :: A).Perm (b :: c :: d :: e :: f :: a :: C) := perm_at 5 rfl p
theorem perm6 {α : Type} {a b c d e f g : α} {A C : List α} (p : A.Perm (b :: c :: d :: e :: f :: g :: C)) : (a :: A).Perm (b :: c :: d :: e :: f :: g :: a :: C) := perm_at 6 rfl p
theorem perm7 {α : Type} {a b c d e f g h : α} {A C : List α} (p : A.Perm (b :: c :: d :: e :: f :: g :: h :: C)) : (a :: A).Perm (b :: c :: d :: e :: f :: g :: h :: a :: C) := perm_at 7 rfl p
theorem perm8 {α : Type} {a b c d e f g h i : α} {A C : List α} (p : A.Perm (b :: c :: d :: e :: f :: g :: h :: i :: C)) : (a :: A).Perm (b :: c :: d :: e :: f :: g :: h :: i :: a :: C) := perm_at 8 rfl p
theorem perm9 {α : Type} {a b c d e f g h i j : α} {A C : List α} (p : A.Perm (b :: c :: d :: e :: f :: g :: h :: i :: j :: C)) : (a :: A).Perm (b :: c :: d :: e :: f :: g :: h :: i :: j :: a :: C) := perm_at 9 rfl p
theorem lenDK {X : Cx} : CallR X (.builtin "len") (fun xs H Q => ∃ a kvs, xs = [V.ref a] ∧ Rd H a (.dK kvs) ∧ Q (.int (kvs.length : Int)) H) := by
  intro pins s σ H xs us Q I r h
  obtain ⟨a, kvs, rfl, hd, q⟩ := h
  obtain ⟨u, rfl, ru⟩ := vals1 r
  obtain rfl : u = Value.ref a := ru
  exact d_len I hd fun t s1 I1 => ⟨V.int (kvs.length : Int), H, I1, ⟨t, rfl⟩, q⟩
section
variable {K : PySem.W.Frag} {s : S} {E : L2.St → XK} {O : Out} {t1 : TS}
theorem hs_nd (h : (ads s.h).Nodup → HS K E t1 s O) : HS K E t1 s O := fun B σ H D S q => h S.hh.nd B σ H D S q
/-- len(d) -/
theorem rc_lenD {d : Addr} {kvs : List (Key × W)} (h : DicAt s d kvs) : RCs K s (fun xs H Q => ∃ a kvs, xs = [V.ref a] ∧ Rd H a (.dK kvs) ∧ Q (.int (kvs.length : Int)) H) [.o d] (wi kvs.length) := fun B σ H vs Q S r q => by
  cases r with
  | cons r1 r2 =>
    cases r2
    cases (show _ = V.ref d from r1)
    obtain ⟨ps, hr, e⟩ := h.get S
    refine ⟨d, ps, rfl, hr, q _ H same_refl ?_⟩
    rw [e.len]; exact ri
end
/-- two things, which of them first -/
def pr2 {α : Type} (wh : Int) (x y : α) : List α := if wh = 0 then [x, y] else [y, x]
theorem pr2_w {α : Type} {wh : Int} {x y : α} (h : wh = 0 ∨ wh = 1) : atI (pr2 wh x y) wh = some x := by rcases h with rfl | rfl <;> rfl
theorem pr2_o {α : Type} {wh : Int} {x y : α} (h : wh = 0 ∨ wh = 1) : atI (pr2 wh x y) (1 - wh) = some y := by rcases h with rfl | rfl <;> rfl
theorem pr2_iw {α : Type} {wh : Int} {x y z : α} (h : wh = 0 ∨ wh = 1) : ∃ j, ixN (pr2 wh x y).length wh = some j ∧ (pr2 wh x y).set j z = pr2 wh z y := by rcases h with rfl | rfl <;> exact ⟨_, rfl, rfl⟩
theorem pr2_io {α : Type} {wh : Int} {x y z : α} (h : wh = 0 ∨ wh = 1) : ∃ j, ixN (pr2 wh x y).length (1 - wh) = some j ∧ (pr2 wh x y).set j z = pr2 wh x z := by rcases h with rfl | rfl <;> exact ⟨_, rfl, rfl⟩
end DL
namespace DL
open PySem PySem.Spec PyProof.Rows L2 TL
section
variable {K : PySem.W.Frag} {s : S} {E E' : L2.St → XK} {O : Out} {ta tb te : TE} {x y z w : W} {r : R2}
theorem evg_0 {k : W → Del → Prop} {ex : Value → Del → Prop} (h : EvG K E' te s k (fun _ _ => False)) : EvG K E te s k ex := fun B σ H Q S q _ => h B σ H Q S q fun _ _ _ z => z.elim
theorem evg_opW {k : W → Del → Prop} {ex : Value → Del → Prop} (ha : EvW K ta s x) (hb : EvG K E tb s (fun y Δ1 => ∃ z, RVs K ⟨s.g, Δ1⟩ r x y z ∧ k z Δ1) ex) : EvG K E (tOp r ta tb) s k ex := fun B σ H Q S q qx =>
  ha B σ H _ S fun v H1 S1 f1 r1 => hb B σ H1 _ S1 (fun y Δ1 u H2 kk S2 f2 r2 => by
    obtain ⟨z, hr, hk⟩ := kk
    exact hr B σ H2 v u Q S2 (r1.mono f2.msk) r2 fun t H3 e3 r3 => q z Δ1 t H3 hk (S2.mono e3) ((f1.trans f2).trans (Fr.of e3)) r3) fun c Δ1 H2 xx S2 f2 => qx c Δ1 H2 xx S2 (f1.trans f2)
theorem hs_retGP (h : EvG K E te s (fun w Δ' => ∃ bs, O.r w (pick bs Δ')) (fun c Δ' => O.x c ⟨s.g, Δ'⟩)) : HS K E (tRet te) s O := fun B σ H D S q =>
  h B σ H _ S (fun w Δ' v H' kk S' f r => by
    obtain ⟨bs, hk⟩ := kk
    exact q.r w (pick bs Δ') v H' hk (sath_pick bs S'.hh) (f.trans (fr_pick bs)) (r.mono (sub_pick bs))) fun c Δ' H' xx S' f => q.x c _ σ H' xx S' f
/-- a test that changes cells; what it tells is known -/
theorem hs_ifG {b : Bool} {tu tw : TS} (h : EvG K E te s (fun w Δ' => w = wb b ∧ (b = true → HS K E tu ⟨s.g, Δ'⟩ O) ∧ (b = false → HS K E tw ⟨s.g, Δ'⟩ O)) (fun c Δ' => O.x c ⟨s.g, Δ'⟩)) : HS K E (tIfS (tTest te) tu tw) s O := fun B σ H D S q =>
  h B σ H _ S (fun w Δ' v H' kk S' f r => by
    obtain ⟨rfl, h1, h2⟩ := kk
    refine ⟨b, rw_b r, ?_⟩
    cases b with
    | true => exact iteT (h1 rfl B σ H' D S' (q.step f))
    | false => exact iteF (h2 rfl B σ H' D S' (q.step f))) fun c Δ' H' xx S' f => q.x c _ σ H' xx S' f
end
end DL
namespace DL
open PySem PySem.Spec PyProof.Rows L2 TL
/-- a store as a last statement, the cells told in another order -/
theorem hs_asgP {K : PySem.W.Frag} {s s1 : S} {E : L2.St → XK} {O : Out} {te : TE} {g : TG} {w : W} {Δ : Del} (h : Ev K te s w) (hg : GS K g w s s1) (p : Δ.Perm s1.h) (h2 : O.n ⟨s1.g, Δ⟩) : HS K E (tAsg te g) s O := fun B σ H D S q =>
  h B σ H _ S fun v H1 e1 r1 => hg B σ H1 v _ (S.mono e1) r1 fun σ2 H2 S2 f2 => by
    have f : Fr s1.h H2 Δ H2 := fr_perm Fr.refl p
    exact q.n ⟨s1.g, Δ⟩ σ2 H2 h2 ⟨sath_perm S2.hh p, S2.gg.mono f.msk⟩ (((Fr.of e1).trans f2).trans f)
end DL

namespace DL
open PySem PySem.Spec PyProof.Rows L2 TL
/-! ### a >= b of data -/
def rGeD (K : PySem.W.Frag) : R2 := fun x y H Q => ∃ d e, Dp K H x d ∧ Dp K H y e ∧ PySem.W.alike d e = true ∧ d ≠ .none ∧ d.depth ≤ 60 ∧ Q (.bl (!PySem.W.dataLt d e)) H
/-! ### l.count(z), l.index(z) of texts -/
def rCntS (K : PySem.W.Frag) : V → List V → Hp → VK → Prop := fun x xs H Q => ∃ (a : Addr) (ys : List Str) (z : Str), x = .ref a ∧ xs = [.str z] ∧ SqL K H a (ys.map V.str) ∧ Q (.int ((ys.countP fun y => decide (y = z) : Nat) : Int)) H
theorem plain_st : ∀ ks : List Str, PyData.plainAll (ks.map PyData.str) = true
  | [] => rfl
  | k :: ks => by rw [List.map_cons, PyData.plainAll]; simp [PyData.plain, plain_st ks]
theorem dep_st : ∀ ks : List Str, PyData.depthAll (ks.map PyData.str) = 0
  | [] => rfl
  | k :: ks => by rw [List.map_cons, PyData.depthAll, dep_st ks]; rfl
section
variable {X : Cx}
theorem op_geD0 (hu : X.A.units + 100 < cLine) : OpR X (compareOp .GtE) (rGeD X.K) := by
  intro pins s σ H x y v u Q I rx ry h
  obtain ⟨d, e, hd, he, al, nn, dp, q⟩ := h
  obtain ⟨as, r1⟩ := Dp.reads I d x v hd rx
  obtain ⟨bs, r2⟩ := Dp.reads I e y u he ry
  exact PySem.W.ge_data r1 r2 al nn (by have := Nat.min_le_left d.depth e.depth; omega) ⟨.bl _, H, I, rfl, q⟩
theorem mt_countS0 (hu : X.A.units + 100 < cLine) : MtR X "list.count" (rCntS X.K) := by
  intro pins s σ H x xs v us Q I rx rxs h
  obtain ⟨a, ys, z, rfl, rfl, hs, q⟩ := h
  cases rx
  cases rxs with
  | cons ry rt =>
    rename_i uy ut
    cases rt
    obtain ⟨its, rv, hl, hz⟩ := I.list hs
    obtain ⟨as, ra⟩ := Dp.readsAll I (ys.map PyData.str) (ys.map V.str) its (dpa_st ys) rv
    obtain ⟨bs, rb⟩ := Dp.reads I (.str z) (.str z) uy (.str z) ry
    refine SeqAt.count_list_data hl.isList ra rb (plain_st ys) rfl (by rw [dep_st, Nat.zero_min]; omega) ⟨.int _, H, I.tok _, ⟨_, rfl⟩, ?_⟩
    rw [List.countP_map]
    have e : (((fun y : PyData => PyData.eqv y (.str z)) ∘ PyData.str) : Str → Bool) = fun y => decide (y = z) := by
      funext y
      show PyData.eqv (.str y) (.str z) = _
      simp only [PyData.eqv]
      exact PySem.W.beq_decide y z
    rw [e]
    exact q
end
theorem op_geDK (K : PySem.W.Frag) {X : Cx} {j : Nat} {A : Around} (hr : Room j A) (hA : X.A = A := by rfl) (hK : X.K = K := by rfl) : OpR X (compareOp .GtE) (rGeD K) := by
  subst hK; exact op_geD0 (by rw [hA]; have := hr.un; omega)
theorem mt_countSK (K : PySem.W.Frag) {X : Cx} {j : Nat} {A : Around} (hr : Room j A) (hA : X.A = A := by rfl) (hK : X.K = K := by rfl) : MtR X "list.count" (rCntS K) := by
  subst hK; exact mt_countS0 (by rw [hA]; have := hr.un; omega)
theorem mt_indexK (K : PySem.W.Frag) {X : Cx} (hK : X.K = K := by rfl) : MtR X "list.index" (rIndex K) := by subst hK; exact mt_index
theorem slAK (K : PySem.W.Frag) {X : Cx} (hK : X.K = K := by rfl) : SlR X (rSlA K) := by subst hK; exact sl_tupA
section
variable {K : PySem.W.Frag} {s : S} {te : TE} {tl th : TO} {x y z w : W}
theorem rv_geD {d e : PyData} (hx : DV s x d) (hy : DV s y e) (al : PySem.W.alike d e = true) (nn : d ≠ .none) (dp : d.depth ≤ 60) : RVs K s (rGeD K) x y (wb (!PySem.W.dataLt d e)) := fun B σ H v u Q S a b q =>
  ⟨d, e, hx.get S a, hy.get S b, al, nn, dp, q _ H same_refl rb⟩
theorem rm_countS {ys : List Str} {z : Str} : RMs K s (rCntS K) (wl (ys.map .str)) [ws z] (wi ((ys.countP fun y => decide (y = z) : Nat) : Int)) := fun B σ H v vs Q S r rs q => by
  cases rs with
  | cons r1 r2 =>
    cases r2
    cases rw_s r1
    obtain ⟨a, us, rfl, g, rr⟩ := (lv_d (s := s)).get S r
    have e := dqa_strs (rws_dpa rr)
    subst e
    exact ⟨a, ys, z, rfl, rfl, g, q _ H same_refl ri⟩
theorem rm_indexS {ys : List Str} {z : Str} {j : Nat} (hj : ys[j]? = some z) (hf : ∀ m, m < j → ys[m]? ≠ some z) : RMs K s (rIndex K) (wl (ys.map .str)) [ws z] (wi (j : Int)) := fun B σ H v vs Q S r rs q => by
  cases rs with
  | cons r1 r2 =>
    cases r2
    cases rw_s r1
    obtain ⟨a, us, rfl, g, rr⟩ := (lv_d (s := s)).get S r
    have e := dqa_strs (rws_dpa rr)
    subst e
    refine ⟨a, _, .str z, j, .str z, rfl, rfl, g, rfl, ?_, by rw [List.getElem?_map, hj]; rfl, beq_self_eq_true z, fun m z' hm hz' => ?_, q _ H same_refl ri⟩
    · rw [List.all_eq_true]
      intro u hu
      obtain ⟨k, _, rfl⟩ := List.mem_map.mp hu
      rfl
    · rw [List.getElem?_map] at hz'
      cases hy : ys[m]? with
      | none => rw [hy] at hz'; cases hz'
      | some y =>
        rw [hy] at hz'
        cases Option.some.inj hz'
        have : y ≠ z := fun e => hf m hm (by rw [hy, e])
        exact beq_eq_false_iff_ne.mpr this
/-- t[lo:hi] of a tuple of data -/
theorem ev_slT {ds : List PyData} {lo hi : Option Int} (h : Ev K te s (wt ds)) (hl : EvO K tl s lo) (hh : EvO K th s hi) : Ev K (tSl (rSlA K) te tl th) s (wt (cutW ds lo hi)) := fun B σ H Q S q =>
  h B σ H _ S fun v H1 e1 r1 => hl B σ H1 _ (S.mono e1) fun H2 e2 => hh B σ H2 _ (S.mono (e1.trans e2)) fun H3 e3 => by
    have S3 := S.mono ((e1.trans e2).trans e3)
    obtain ⟨a, vs, rfl, g, rr⟩ := tv_get S3 (r1.mono (msk_same (e2.trans e3)))
    have hlen : vs.length = ds.length := by rw [rr.len, List.length_map]
    refine ⟨a, vs, rfl, g, fun hw => ?_, fun _ p np => ?_⟩
    · have : cutW ds lo hi = ds := by
        unfold cutW
        rw [← hlen, hw.1, hw.2]
        simp [hlen]
      rw [this] at q
      exact q (.ref a) H3 ((e1.trans e2).trans e3) (r1.mono (msk_same (e2.trans e3)))
    · have no := S3.hh.out np
      have e4 : Same H3 (upd H3 p (.tup (cutV vs lo hi))) := same_new np
      refine q (.ref p) _ (((e1.trans e2).trans e3).trans e4) (Dq.tup (xs := cutV vs lo hi) (.inl (by rw [msk_out no]; exact upd_same)) (rws_dpa ?_))
      rw [← cutW_map]
      have : RWs K (msk H3 (ads s.h ++ B)) (cutV vs lo hi) (cutW (ds.map W.d) lo hi) := by
        unfold cutV cutW
        rw [← rr.len]
        exact (rr.drop _).take _
      exact this.mono (msk_same e4)
end
end DL

namespace DL
open PySem PySem.Spec PyProof.Rows L2 TL
/-- a new list, taken as data -/
theorem evw_gF {K : PySem.W.Frag} {s : S} {te : TE} {ds : List PyData} (h : EvG K (fun _ _ _ _ => True) te s (fun w' Δ' => ∃ b, w' = .o b ∧ Δ'.Perm ((b, Cell.lst (ds.map .d)) :: s.h)) (fun _ _ => False)) : EvW K te s (wl ds) := fun B σ H Q S q =>
  h B σ H _ S (fun w' Δ' v H3 kk S3' fj' r3' => by
    obtain ⟨b, rfl, pp⟩ := kk
    have fj : Fr s.h H ((b, Cell.lst (ds.map .d)) :: s.h) H3 := fr_perm fj' pp.symm
    have S3 : Sat K B ⟨s.g, (b, Cell.lst (ds.map .d)) :: s.h⟩ σ H3 := ⟨sath_perm S3'.hh pp.symm, S.gg.mono fj.msk⟩
    have r3 : RW K (msk H3 (ads ((b, Cell.lst (ds.map .d)) :: s.h) ++ B)) v (.o b) := r3'
    have Sj : Sat K B ⟨s.g, [(b, .lst (ds.map .d))] ++ s.h⟩ σ H3 := S3
    have rr := share1 (s := s) (v := v) Sj r3
    have sub : Same (msk H3 (ads ((b, Cell.lst (ds.map .d)) :: s.h) ++ B)) (msk H3 (ads s.h ++ B)) := msk_less fun b hb => List.mem_cons_of_mem _ hb
    have sj := S3.hh
    refine q v H3 ⟨⟨fun p hp => (sj.cell p (List.mem_cons_of_mem _ hp)).mono sub, (List.nodup_cons.mp sj.nd).2, sj.bt, (fun b hb z => sj.db b hb (List.mem_cons_of_mem _ z)), sj.nt⟩, S.gg.mono ?_⟩ ?_ rr
    · exact fun c o e => sub _ _ (fj.msk c o e)
    · exact fun c o nc e => by
        obtain ⟨g1, g2⟩ := fj c o nc e
        exact ⟨nc, g2⟩) fun _ _ _ z => z.elim
end DL

namespace DL
open PySem PySem.Spec PyProof.Rows L2 TL PySem.Froz
/-! ### sorted(set(texts)) -/
/-- a table's slots rise, and its order is told or drawn -/
def RlOk (w : World) (t : SetTable) : Prop := Ris t.place.toList ∧ (w.params.followText "set-order" = true ∨ t.led = true)
theorem addTx_rl {w : World} (h : Int) (v : Value) (D : SD) (r : RlOk w D.2.2) : RlOk w (addTx h v D).2.2 := by
  obtain ⟨es, ep, t⟩ := D
  obtain ⟨r1, r2⟩ := r
  have a1 := layNew_ris t es h v r1
  have a2 := layNew_led t es h v
  have fin : ∀ (es1 : Array (Int × Value)) (t2 : SetTable) (wd : Bool), Ris t2.place.toList → t2.led = t.led → RlOk w (tailTx ep es1 t2 wd).2.2 := fun es1 t2 wd b1 b2 => by
    unfold tailTx
    split
    · exact ⟨relayAll_ris t2 es1 _, r2.imp id fun z => (relayAll_led t2 es1 _).trans (b2.trans z)⟩
    · exact ⟨b1, r2.imp id fun z => b2.trans z⟩
  unfold addTx
  refine fin _ _ _ ?_ ?_
  · split
    · exact a1
    · exact a1
  · split
    · exact a2
    · exact a2
/-- the set at a holds the texts l -/
def TS (P : Program) (w : World) (h : Heap) (a : Addr) (l : List Str) : Prop := ∃ D : SD, h.get? a = some (sObj "set" D) ∧ TxOk P w D l ∧ l.Nodup ∧ RlOk w D.2.2
section
variable {P : Program} {w : World} {h g : Heap} {a : Addr} {l : List Str} {A : Around} {E : Value → Shared → Prop} {s : Shared}
theorem TS.at (R : TS P w h a l) (k : ∀ o, h.get? a = some o → g.get? a = some o) : TS P w g a l := by
  obtain ⟨D, e, r⟩ := R
  exact ⟨D, k _ e, r⟩
theorem TS.hold (R : TS P w h a l) : ∃ o, h.get? a = some o := by
  obtain ⟨D, e, _⟩ := R
  exact ⟨_, e⟩
def adK (l : List Str) (k : Str) : List Str := if k ∈ l then l else k :: l
theorem ts_add {k : Str} {tk : Tok} {Q : Bool → Shared → Prop} (R : TS P w s.heap a l) (hb : l.length + 1 < scanBound)
    (hQ : ∀ (b : Bool) (h' : Heap), Heap.SameBut a s.heap h' → TS P w h' a (adK l k) → Q b { s with heap := h' }) : wpAny (model P w) A (setAddHashed a (.str k tk) (hashStr w k)) Q E s := by
  obtain ⟨D, ho, F, nd, rl⟩ := R
  by_cases hk : k ∈ l
  · have e : adK l k = l := if_pos hk
    rw [e] at hQ
    obtain ⟨es, ep, t⟩ := D
    have hd : (sObj "set" (es, ep, t)).data = .set es ep t := rfl
    have hel : ElemsOf (strKind P w) es.toList := F.el
    have hf : t.fits es.size = true := F.fit
    have hsz : es.size = l.length := F.sz
    obtain ⟨x, hx, hp⟩ := (F.mem k).mp hk
    unfold setAddHashed setAddHashedIn
    refine wpAny_holding (wpAny_bind (wpAny_setState_of ho hd hf ?_))
    dsimp only
    rw [byScan_of rfl (by omega) hel]
    simp only [↓reduceIte]
    unfold setAddByScan
    refine wpAny_bind (wpAny_bind (wpAny_rule (wpAny_bind (wpAny_setScan_of (knd := strKind P w) (k := k) (is_str k tk) ho hd hf hel ?_))))
    cases hfi : List.findIdx? (fun e => (strKind P w).is k e.2) es.toList with
    | none =>
      have c := List.findIdx?_eq_none_iff.mp hfi x hx
      rw [hp] at c
      cases c
    | some j =>
      dsimp only
      exact wpAny_pure (wpAny_pure (hQ _ s.heap (Heap.SameBut.refl a s.heap) ⟨(es, ep, t), ho, F, nd, rl⟩))
  · have e : adK l k = k :: l := if_neg hk
    rw [e] at hQ
    refine add_x ho F hk hb ?_
    exact hQ _ _ (Heap.SameBut.update s.heap a _) ⟨_, get_upd _ ho rfl, add_ok tk F, List.nodup_cons.mpr ⟨hk, nd⟩, addTx_rl _ _ _ rl⟩
theorem adK_mem {k j : Str} : j ∈ adK l k ↔ j = k ∨ j ∈ l := by
  unfold adK
  split
  · rename_i h
    exact ⟨.inr, fun z => z.elim (fun e => e ▸ h) id⟩
  · exact List.mem_cons
theorem adK_len (l : List Str) (k : Str) : (adK l k).length ≤ l.length + 1 := by
  unfold adK
  split
  · exact Nat.le_succ _
  · exact Nat.le_refl _
theorem ts_new {h : Heap} {a : Addr} (P : Program) (w : World) (ho : h.get? a = some { cls := .type "set", dict := none, data := .set #[] 0 (.fresh 0 0 (!w.params.followText "set-order")) }) : TS P w h a [] :=
  ⟨(#[], 0, .fresh 0 0 (!w.params.followText "set-order")), ho, TxOk.nil rfl, List.nodup_nil, List.Pairwise.nil, by
    show _ ∨ (!w.params.followText "set-order") = true
    cases w.params.followText "set-order"
    · exact .inr rfl
    · exact .inl rfl⟩
end
theorem perm_sub {α : Type} [DecidableEq α] : ∀ {l ks : List α}, l.Nodup → (∀ k ∈ l, k ∈ ks) → ks.length ≤ l.length → l.Perm ks
  | [], ks, _, _, h => by
    have : ks = [] := List.eq_nil_of_length_eq_zero (by simpa using h)
    rw [this]
  | a :: l, ks, nd, hs, h => by
    obtain ⟨n1, n2⟩ := List.nodup_cons.mp nd
    have ha := hs a List.mem_cons_self
    refine .trans (.cons a (perm_sub n2 (fun k hk => ?_) ?_)) (List.perm_cons_erase ha).symm
    · exact (List.mem_erase_of_ne fun (e : k = a) => n1 (by rw [← e]; exact hk)).mpr (hs k (List.mem_cons_of_mem _ hk))
    · rw [List.length_erase_of_mem ha]
      simp only [List.length_cons] at h
      omega
theorem strs_ix : ∀ {us : List Value} {xs : List Str}, StrsAre us xs → ∀ (i : Nat) (v : Value), us[i]? = some v → ∃ t, v = .str (xs.getD i Str.empty) t
  | _, _, .nil, i, v, h => by cases h
  | _, _, .cons n t hr, 0, v, h => ⟨t, (Option.some.inj h).symm⟩
  | _, _, .cons n t hr, i + 1, v, h => strs_ix hr i v (by simpa using h)
def strV : Value → Str
  | .str k _ => k
  | _ => Str.empty
theorem strs_of : ∀ (l : List Value), (∀ v ∈ l, ∃ k tk, v = Value.str k tk) → StrsAre l (l.map strV)
  | [], _ => .nil
  | v :: l, h => by
    obtain ⟨k, tk, rfl⟩ := h v List.mem_cons_self
    exact .cons k tk (strs_of l fun u hu => h u (List.mem_cons_of_mem _ hu))
section
variable {P : Program} {w : World} {h g : Heap} {a : Addr} {l : List Str} {A : Around} {E : Value → Shared → Prop} {s : Shared}
theorem tx_vals {D : SD} (F : TxOk P w D l) (nd : l.Nodup) : (∀ v ∈ D.1.toList.map (·.2), ∃ k tk, v = Value.str k tk) ∧ l.Perm ((D.1.toList.map (·.2)).map strV) := by
  have hel : ElemsOf (strKind P w) D.1.toList := F.el
  have kv : ∀ e ∈ D.1.toList, ∃ tk, e.2 = .str (strV e.2) tk := fun e he => by
    obtain ⟨⟨k, hk, _⟩, _⟩ := hel e he
    have hk' : Value.isStrOf k e.2 = true := hk
    cases hv : e.2 <;> rw [hv] at hk' <;> simp [Value.isStrOf] at hk'
    exact ⟨_, rfl⟩
  refine ⟨fun v hv => ?_, perm_sub nd (fun k hk => ?_) ?_⟩
  · obtain ⟨e, he, rfl⟩ := List.mem_map.mp hv
    obtain ⟨tk, q⟩ := kv e he
    exact ⟨_, tk, q⟩
  · obtain ⟨e, he, hp⟩ := (F.mem k).mp hk
    obtain ⟨tk, q⟩ := kv e he
    rw [q] at hp
    have : k = strV e.2 := (strKind P w).inj _ _ _ hp (is_str _ _)
    exact List.mem_map.mpr ⟨e.2, List.mem_map_of_mem he, this.symm⟩
  · have := F.sz
    rw [List.length_map, List.length_map, Array.length_toList]
    omega
/-- the set's members, sorted -/
theorem ts_sorted {Q : Value → Shared → Prop} (R : TS P w s.heap a l) (hh : A.handled = none) (hb : l.length < scanBound)
    (hQ : ∀ (s' : Shared) (p : Addr) (out : Array Value) (c : Nat) (ys : List Str), (∀ b o, s.heap.get? b = some o → s'.heap.get? b = some o) → s'.gens = s.gens → s'.os = s.os → s.heap.objs.size ≤ p →
      s'.heap.get? p = some (seqObj "list" out c) → StrsAre out.toList ys → ys.Perm l → sortedS ys = true → Q (.ref p) s') :
    wpAny (model P w) A (call (.builtin "sorted") [.ref a]) Q E s := by
  obtain ⟨D, ho, F, nd, rl⟩ := R
  obtain ⟨hv, hp⟩ := tx_vals F nd
  obtain ⟨es, ep, t⟩ := D
  have hsz : es.size = l.length := F.sz
  refine Calls.call_function_entry kind_sorted plain_sorted entry_sorted (args_sorted1 _) ?_
  unfold Builtin.«sorted»
  refine wpAny_bind (m := checkCount "sorted" 1 1 _) (wpAny_pure ?_)
  refine wpAny_bind (collect_set (A := A.in1) hh ⟨_, ho, rfl, rfl⟩ F.fit (by show es.size < _; omega) rl.1 rl.2 fun s1 vs k1 hz g1 o1 pm => ?_)
  have hS : StrsAre vs (vs.map strV) := strs_of vs fun v hm => hv v (pm.mem_iff.mp hm)
  have hvl : vs.length = l.length := by rw [pm.length_eq, List.length_map, Array.length_toList]; exact hsz
  have hbl : vs.length ≤ sizeLine := by rw [hvl]; exact fits_of_scanBound hb
  refine wpAny_bind (wpAny_newList ?_ hbl)
  have hoL : (s1.heap.push (seqObj "list" vs.toArray 0)).get? s1.heap.objs.size = some (seqObj "list" vs.toArray 0) := Heap.get?_push_size _ rfl
  refine wpAny_bind (wpAny_holding (wpAny_call_entry slot_list_sort ⟨_, hoL, rfl⟩ entry_list_sort (list_sort_treeKAny strKind_oneLt hoL hS.keysOf (fun v₁ v₂ rest e => keyKind_strs (by rw [← e]; exact hS)) hbl fun st' hp1 hs1 => ⟨_, rfl, ?_⟩) (args_list_sort _)))
  obtain ⟨ys, y1, y2, y3⟩ := sorted_out_str hS hp1 hs1
  obtain ⟨c, hc⟩ := sortedHeap_at (vs := vs) (out := (arrOf st').map (·.2)) hoL
  refine wpAny_pure ⟨_, rfl, hQ _ s1.heap.objs.size _ c ys (fun b u e => ?_) g1 o1 hz hc y1 ((y2.trans (pm.map strV)).trans hp.symm) y3⟩
  have q := k1 b u e
  have hlt := Heap.lt_size q
  show (sortedHeap (s1.heap.push (seqObj "list" vs.toArray 0)) s1.heap.objs.size vs _).get? b = some u
  rw [sortedHeap_old (Nat.ne_of_lt hlt) (by rw [size_push']; exact Nat.lt_succ_of_lt hlt)]
  exact Heap.get?_push_of_some _ q
/-- what is in l's first items -/
def UpTo (ks l : List Str) (i : Nat) : Prop := l.length ≤ i ∧ ∀ k, k ∈ l ↔ k ∈ ks.take i
theorem ts_loop {I : Addr} {fp wr : List Addr} {G : Array GenState → Array GenState → Prop} {n : Nat} {Pv : Nat → Value → Prop} {St : Nat → Shared → Prop} {R : Result → Shared → Prop} {S : Addr} {ks : List Str}
    (W : WalksS P w A.in1 I fp wr G n Pv St) (hSf : S ∉ fp) (hn : n = ks.length) (hb : ks.length + 1 < scanBound) (hval : ∀ i v, Pv i v → ∃ k t, ks[i]? = some k ∧ v = .str k t) :
    ∀ (m i : Nat) (s : Shared) (l : List Str), i + m = n → St i s → TS P w s.heap S l → UpTo ks l i → (∀ s' l', Moved (S :: wr) G s s' → TS P w s'.heap S l' → UpTo ks l' n → R (.ok (.ret .none)) s') →
      codeAny (model P w) A (.builtin "set.update.loop" ⟨[.ref S, .ref I], []⟩) R s
  | 0, i, s, l, hi, hst, hS, hl, hR => by
    have hin : i = n := by omega
    subst hin
    have hSw : S ∉ wr := fun h => hSf (W.sub _ h)
    refine codeAny_builtin F.entry_set_update_loop ?_
    rw [Around.under_plainId F.plain_set_update_loop _]
    show wpAny _ A.in1 (pyNext (.ref I) >>= _) _ _ s
    refine wpAny_bind (W.done s _ _ hst fun s' hm => ?_)
    exact wpAny_pure (hR s' l (hm.mono fun b h => List.mem_cons_of_mem _ h) (hS.at fun o e => hm.heap S o hSw e) hl)
  | m + 1, i, s, l, hi, hst, hS, hl, hR => by
    have hSw : S ∉ wr := fun h => hSf (W.sub _ h)
    have hlt : i < n := by omega
    refine codeAny_builtin F.entry_set_update_loop ?_
    rw [Around.under_plainId F.plain_set_update_loop _]
    show wpAny _ A.in1 (pyNext (.ref I) >>= _) _ _ s
    refine wpAny_bind (W.item i s _ _ hlt hst fun v s' hP hst' hm => ?_)
    obtain ⟨k, t, hk, rfl⟩ := hval i v hP
    show wpAny _ A.in1 (holding [Value.str k t] (setAdd S (.str k t)) >>= _) _ _ s'
    refine wpAny_bind (wpAny_holding ?_)
    unfold setAdd
    refine wpAny_holding (wpAny_bind ((strKind P w).pyHash (k := k) (is_str k t) ?_))
    refine ts_add (s := { s' with toks := s'.toks + 1 }) (hS.at fun o e => hm.heap S o hSw e) (by have := hl.1; omega) fun b h' sb h2 => ?_
    have hl2 : UpTo ks (adK l k) (i + 1) := ⟨Nat.le_trans (adK_len l k) (Nat.succ_le_succ hl.1), fun j => by
      rw [adK_mem, List.take_add_one, hk, List.mem_append, hl.2 j]
      simp [Or.comm]⟩
    refine wpAny_pure ⟨plainId_quiet F.plain_set_update_loop _, ts_loop W hSf hn hb hval m (i + 1) _ (adK l k) (by omega) (W.frame _ s' _ _ hst' (Nat.le_succ _) fun c hc o e => ?_) h2 hl2 fun s'' l' hm2 hS2 h3 => ?_⟩
    · exact (sb.2 c fun z => hSf (z ▸ hc)).trans e
    · refine hR s'' l' (Moved.trans W.gtrans ((hm.mono fun b h => List.mem_cons_of_mem _ h).then_heap (Nat.le_succ _) fun c o hc e => ?_) hm2) hS2 h3
      exact (sb.2 c fun z => hc (z ▸ List.mem_cons_self)).trans e
/-- set(a list of texts) -/
theorem ts_make {a : Addr} {items : Array Value} {ks : List Str} {Q : Value → Shared → Prop} (hh : A.handled = none) (hl : s.heap.IsList a items) (hi : StrsAre items.toList ks) (hb : ks.length + 1 < scanBound)
    (hQ : ∀ (h' : Heap) (tk : Nat) (l : List Str), TS P w h' s.heap.objs.size l → UpTo ks l ks.length → (∀ b o, s.heap.get? b = some o → h'.get? b = some o) → Q (.ref s.heap.objs.size) { s with heap := h', toks := tk }) :
    wpAny (model P w) A (call (.type "set") [.ref a]) Q E s := by
  have hsz : items.size = ks.length := by rw [← hi.len_eq, Array.length_toList]
  obtain ⟨c, tl0, hmro⟩ := F.called_set.mro
  have hmade := F.called_set.made
  have hsub := F.called_set.sub
  refine wpAny_call (codeAny_of_tree ?_)
  show wpAny _ _ (callAny (.type "set") _) _ _ _
  refine wpAny_pure ⟨Code.quiet_builtin _ (by decide +kernel), codeAny_builtin F.entry_type_call ?_⟩
  rw [Around.under_plain (weight_type_call_type "set" [.ref a] []) rfl]
  have h1 := F.called_set.notType
  have h2 := F.called_set.canCreate
  have hct := F.typeCall_set_1 (.ref a)
  repeat (any_goals (first | assumption | wp_step))
  refine codeAny_mono (code_set_led1 (.ref a) (E := E) (Q₁ := fun obj s₁ => obj = .ref s.heap.objs.size ∧ s₁ = { s with heap := s.heap.push ({ cls := .type "set", dict := none, data := .set #[] 0 (.fresh 0 0 (!w.params.followText "set-order")) } : Obj) }) ⟨rfl, rfl⟩) fun r s₁ hr => ?_
  match r with
  | .error e => exact hr
  | .ok .next => exact hr.elim
  | .ok .brk => exact hr.elim
  | .ok .cont => exact hr.elim
  | .ok (.ret obj) =>
    obtain ⟨rfl, rfl⟩ := hr
    have hS : (s.heap.push ({ cls := .type "set", dict := none, data := .set #[] 0 (.fresh 0 0 (!w.params.followText "set-order")) } : Obj)).get? s.heap.objs.size = some ({ cls := .type "set", dict := none, data := .set #[] 0 (.fresh 0 0 (!w.params.followText "set-order")) } : Obj) := Heap.get?_push_size _ rfl
    have hT : Shared.TypeIs { s with heap := s.heap.push ({ cls := .type "set", dict := none, data := .set #[] 0 (.fresh 0 0 (!w.params.followText "set-order")) } : Obj) } (.ref s.heap.objs.size) "set" := ⟨_, hS, rfl⟩
    have hli := F.called_set.init.lookup
    have hbi := F.called_set.init.bind (.ref s.heap.objs.size)
    repeat (any_goals (first | assumption | wp_step))
    refine codeAny_mono (codeAny_call_builtin (R := wants (fun r s₂ => r = .none ∧ ∃ h' tk l, s₂ = { s with heap := h', toks := tk } ∧ TS P w h' s.heap.objs.size l ∧ UpTo ks l ks.length ∧
          (∀ b o, s.heap.get? b = some o → h'.get? b = some o)) E) F.called_set.init.plain F.entry_set_init (check_set_init_1 hT ?_)) fun r₂ s₂ hr₂ => ?_
    · obtain ⟨ol, hol, hcl, nl, hdl⟩ := hl
      obtain ⟨ocls, odict, odata, oslots⟩ := ol
      simp only at hcl hdl
      subst hcl; subst hdl
      have hol' : (s.heap.push ({ cls := .type "set", dict := none, data := .set #[] 0 (.fresh 0 0 (!w.params.followText "set-order")) } : Obj)).get? a = some { cls := .type "list", dict := odict, data := .seq items nl, slots := oslots } := Heap.get?_push_of_some _ hol
      have hsls := F.sub_list_set
      have hslf := F.sub_list_frozenset
      have hne : (Value.type "list" == Value.type "dict") = false := by decide
      have hl1 : (s.heap.push ({ cls := .type "set", dict := none, data := .set #[] 0 (.fresh 0 0 (!w.params.followText "set-order")) } : Obj)).IsList a items := ⟨_, hol', rfl, nl, rfl⟩
      have hlS : a < s.heap.objs.size := Heap.lt_size hol
      have hz1 : (s.heap.push ({ cls := .type "set", dict := none, data := .set #[] 0 (.fresh 0 0 (!w.params.followText "set-order")) } : Obj)).objs.size = s.heap.objs.size + 1 := Heap.size_push ..
      unfold Builtin.«set.__init__» noKeywords Builtin.Frozenset.updateFrom
      generalize hPI : pyIter = PI
      wp_walk
      subst hPI
      refine wpAny_pyIter_list hl1 ?_
      refine wpAny_bind (wpAny_runValue ?_)
      have hh3 : A.in1.in1.in1.handled = none := by simp [hh]
      have hne2 : a ≠ (s.heap.push ({ cls := .type "set", dict := none, data := .set #[] 0 (.fresh 0 0 (!w.params.followText "set-order")) } : Obj)).objs.size := by rw [hz1]; exact Nat.ne_of_lt (Nat.lt_succ_of_lt hlS)
      have hSf : s.heap.objs.size ∉ [(s.heap.push ({ cls := .type "set", dict := none, data := .set #[] 0 (.fresh 0 0 (!w.params.followText "set-order")) } : Obj)).objs.size, a] := by
        rw [hz1]
        simp only [List.mem_cons, List.not_mem_nil, or_false, not_or]
        exact ⟨Nat.ne_of_lt (Nat.lt_succ_self _), Nat.ne_of_gt hlS⟩
      refine ts_loop (Walks.list hh3 _ a hne2 items).toS hSf hsz hb (fun i v hv => ?_) items.size 0 _ [] (by omega) ⟨⟨_, Heap.get?_push_size _ rfl, rfl, rfl⟩, hl1.push _⟩ (ts_new P w ?_) ⟨Nat.le_refl _, fun k => by simp⟩ fun s' l' hm hS' hl' => ?_
      · obtain ⟨t, e⟩ := strs_ix hi i v (by rw [Array.getElem?_toList]; exact hv)
        have hi2 : i < ks.length := by rw [← hsz]; exact (Array.getElem?_eq_some_iff.mp hv).1
        refine ⟨_, t, List.getElem?_eq_getElem hi2, ?_⟩
        rw [e, List.getD_eq_getElem?_getD, List.getElem?_eq_getElem hi2] <;> rfl
      · exact Heap.get?_push_of_some _ hS
      · obtain ⟨h', g2, d', tk', os'⟩ := s'
        have eg : g2 = s.gens := hm.gens
        have ed : d' = s.drawn := hm.drawn
        have eo : os' = s.os := hm.os
        subst eg; subst ed; subst eo
        show wpAny _ _ _ _ _ _
        refine wpAny_pure ?_
        show wpAny _ _ (ret Value.none) _ _ _
        refine wpAny_pure ⟨rfl, h', tk', l', rfl, hS', hsz ▸ hl', fun b o e => ?_⟩
        have hb0 : b < s.heap.objs.size := Heap.lt_size e
        refine hm.heap b o (fun z => ?_) (Heap.get?_push_of_some _ (Heap.get?_push_of_some _ e))
        rw [hz1] at z
        simp only [List.mem_cons, List.not_mem_nil, or_false] at z
        rcases z with z | z
        · exact Nat.lt_irrefl _ (z ▸ hb0)
        · exact Nat.lt_irrefl _ (Nat.lt_of_succ_lt (z ▸ hb0))
    · match r₂ with
      | .error e => exact hr₂
      | .ok .next => exact hr₂.elim
      | .ok .brk => exact hr₂.elim
      | .ok .cont => exact hr₂.elim
      | .ok (.ret r) =>
        obtain ⟨rfl, h', tk, l, rfl, hS', hl', hk'⟩ := hr₂
        repeat (any_goals (first | assumption | wp_step))
        exact hQ _ _ _ hS' hl' hk'
end
end DL

namespace DL
open PySem PySem.Spec PyProof.Rows L2 TL PySem.Froz
/-! ### sorted(set(texts)) as an expression -/
def TsO (P : Program) (w : World) (a : Addr) (l : List Str) : HO := .ext fun h => TS P w h a l
theorem tsO_new {P : Program} {w : World} {H : Hp} {h : Heap} {a : Addr} {l : List Str} (R : TS P w h a l) : ObjOk P w H h a (TsO P w a l) := by
  obtain ⟨o, ho⟩ := R.hold
  exact ⟨R, ⟨o, ho⟩, fun h1 h2 p k => TS.at p k⟩
def rSetTs (K : PySem.W.Frag) (P : Program) (w : World) : List V → Hp → VK → Prop := fun xs H Q => ∃ (a : Addr) (ks : List Str), xs = [.ref a] ∧ SqL K H a (ks.map V.str) ∧ ks.length + 1 < scanBound ∧ ∀ (p : Addr) (l : List Str), H p = none → UpTo ks l ks.length → l.Nodup → Q (.ref p) (upd H p (TsO P w p l))
def rSortTs (P : Program) (w : World) : List V → Hp → VK → Prop := fun xs H Q => ∃ (a : Addr) (l : List Str), xs = [.ref a] ∧ H a = some (TsO P w a l) ∧ l.length < scanBound ∧ ∀ (ys : List Str) (p : Addr), ys.Perm l → sortedS ys = true → H p = none → Q (.ref p) (upd H p (.lst (ys.map V.str)))
section
variable {X : Cx}
theorem cr_setTs0 (hc : X.calm = true) : CallR X (.type "set") (rSetTs X.K X.prog X.w) := by
  intro pins s σ H xs us Q I r h
  obtain ⟨a, ks, rfl, hs, hb, q⟩ := h
  obtain ⟨its, rv, hl, _⟩ := I.list hs
  rw [Vals.ref1 r]
  refine ts_make (I.ok.hd hc) hl.isList (by simpa using rv.strs) hb fun h' tk l R hl2 hk => ?_
  have nd : l.Nodup := by obtain ⟨D, _, _, nd, _⟩ := R; exact nd
  exact ⟨.ref s.heap.objs.size, upd H s.heap.objs.size (TsO X.prog X.w s.heap.objs.size l), I.laid (t' := tk) hk (Nat.le_refl _) (tsO_new R), rfl, q _ l (I.hok.fresh (Nat.le_refl _)) hl2 nd⟩
theorem cr_sortTs0 (hc : X.calm = true) : CallR X (.builtin "sorted") (rSortTs X.prog X.w) := by
  intro pins s σ H xs us Q I r h
  obtain ⟨a, l, rfl, ha, hb, q⟩ := h
  have R : TS X.prog X.w s.heap a l := (I.hok a _ ha).1
  rw [Vals.ref1 r]
  refine ts_sorted R (I.ok.hd hc) hb fun s' p out c ys k g o hp hg hi hpm hs => ?_
  have hlen : (ys.map V.str).length ≤ sizeLine := by rw [List.length_map, hpm.length_eq]; exact fits_of_scanBound hb
  have hn : H p = none := I.hok.fresh hp
  have J : Inv X pins σ (upd H p (.lst (ys.map V.str))) { s with heap := s'.heap, gens := s'.gens, drawn := s'.drawn, toks := s'.toks } :=
    I.call (ch := []) (Un.laid k hp hn) (I.hok.laid k hp ⟨hlen, out.toList, c, vals_of_strs hi, hg⟩) (by rw [g]; exact I.bare) (fun _ z => nomatch z)
  have e : s' = { s with heap := s'.heap, gens := s'.gens, drawn := s'.drawn, toks := s'.toks } := by
    cases s'
    cases s
    cases o
    rfl
  rw [e]
  exact ⟨.ref p, _, J, rfl, q ys p hpm hs hn⟩
end
theorem setTsK {P : Program} {w : World} (K : PySem.W.Frag) {X : Cx} (hc : X.calm = true := by rfl) (hK : X.K = K := by rfl) (hP : X.prog = P := by rfl) (hw : X.w = w := by rfl) : CallR X (.type "set") (rSetTs K P w) := by
  subst hK; subst hP; subst hw; exact cr_setTs0 hc
theorem sortTsK {P : Program} {w : World} {X : Cx} (hc : X.calm = true := by rfl) (hP : X.prog = P := by rfl) (hw : X.w = w := by rfl) : CallR X (.builtin "sorted") (rSortTs P w) := by
  subst hP; subst hw; exact cr_sortTs0 hc
/-- the different ones -/
def ddK : List Str → List Str
  | [] => []
  | k :: ks => if k ∈ ks then ddK ks else k :: ddK ks
theorem ddK_mem : ∀ {ks : List Str} {j : Str}, j ∈ ddK ks ↔ j ∈ ks
  | [], _ => Iff.rfl
  | k :: ks, j => by
    unfold ddK
    split
    · rename_i h
      rw [ddK_mem, List.mem_cons]
      exact ⟨.inr, fun z => z.elim (fun e => e ▸ h) id⟩
    · rw [List.mem_cons, List.mem_cons, ddK_mem]
theorem ddK_nd : ∀ ks : List Str, (ddK ks).Nodup
  | [] => List.nodup_nil
  | k :: ks => by
    unfold ddK
    split
    · exact ddK_nd ks
    · rename_i h
      exact List.nodup_cons.mpr ⟨fun z => h (ddK_mem.mp z), ddK_nd ks⟩
theorem nd_len : ∀ {l m : List Str}, l.Nodup → (∀ k ∈ l, k ∈ m) → l.length ≤ m.length
  | [], _, _, _ => Nat.zero_le _
  | a :: l, m, nd, h => by
    obtain ⟨n1, n2⟩ := List.nodup_cons.mp nd
    have ha := h a List.mem_cons_self
    have := nd_len (m := m.erase a) n2 fun k hk => (List.mem_erase_of_ne fun (e : k = a) => n1 (by rw [← e]; exact hk)).mpr (h k (List.mem_cons_of_mem _ hk))
    rw [List.length_erase_of_mem ha] at this
    have hp : 0 < m.length := List.length_pos_of_mem ha
    simp only [List.length_cons]
    omega
abbrev uqK (ks : List Str) : List Str := sortK (ddK ks)
theorem uqK_mem {ks : List Str} {j : Str} : j ∈ uqK ks ↔ j ∈ ks := (sortK_perm _).mem_iff.trans ddK_mem
theorem uqK_nd (ks : List Str) : (uqK ks).Nodup := (sortK_perm _).nodup_iff.mpr (ddK_nd ks)
section
variable {K : PySem.W.Frag}
theorem rws_st {M : Hp} : ∀ ys : List Str, RWs K M (ys.map V.str) ((ys.map PyData.str).map .d)
  | [] => .nil
  | _ :: ys => .cons rs (rws_st ys)
end
section
variable {K : PySem.W.Frag} {P : Program} {w0 : World} {s : S} {ta : TE} {tr : TA} {x : W} {d : Addr} {kvs : List (Key × W)} {E : L2.St → XK}
theorem evf_sset {ks : List Str} (h : EvA K tr s [x]) (l : LV s x ((ks.map PyData.str).map .d)) (hb : ks.length + 1 < scanBound) : EvF K (tCB (rSortTs P w0) (tCons (tCB (rSetTs K P w0) tr) tNil)) s (((uqK ks).map PyData.str).map .d) := fun B σ H Q S q =>
  h B σ H _ S fun vs H1 e1 r1 => by
    cases r1 with
    | cons r1 rn =>
    cases rn
    have S1 := S.mono e1
    obtain ⟨a, us, rfl, g, rr⟩ := l.get S1 r1
    have e := dqa_strs (rws_dpa rr)
    subst e
    refine ⟨a, ks, rfl, g, hb, fun p m np hu nd => ?_⟩
    have hp : m.Perm (ddK ks) := perm_sub nd (fun k hk => by
      have := (hu.2 k).mp hk
      rw [List.take_length] at this
      exact ddK_mem.mpr this) (nd_len (ddK_nd ks) fun k hk => (hu.2 k).mpr (by rw [List.take_length]; exact ddK_mem.mp hk))
    refine ⟨p, m, rfl, upd_same, Nat.lt_of_le_of_lt hu.1 (by omega), fun ys p2 hy hs np2 => ?_⟩
    have ey : ys = uqK ks := sortK_uniq (hy.trans hp) (sortedS_pw hs)
    subst ey
    have hp2 : H1 p2 = none := by
      by_cases z : p2 = p
      · rw [z]; exact np
      · rw [upd_ne z] at np2; exact np2
    have hp0 : H p2 = none := by
      cases hh : H p2 with
      | none => rfl
      | some o => have := e1 _ _ hh; rw [hp2] at this; cases this
    refine q p2 _ _ (e1.trans ((same_new np).trans (same_new np2))) hp0 upd_same ?_
    exact rws_st _
theorem rws_keys {M : Hp} : ∀ {us : List (Key × V)} {ks : List Str}, us.map (·.1) = ks.map Sum.inr → RWs K M (us.map fun kv => kV kv.1) ((ks.map PyData.str).map .d)
  | [], [], _ => .nil
  | u :: us, k :: ks, e => by
    rw [List.map_cons, List.map_cons] at e
    obtain ⟨e1, e2⟩ := List.cons.inj e
    refine .cons ?_ (rws_keys e2)
    show RW K M (kV u.1) _
    rw [e1]; exact rs
/-- list(a dict): its keys -/
theorem rcf_listD {n : Nat} {ks : List Str} (hn : s.h[n]? = some (d, .dic kvs)) (hk : kvs.map (·.1) = ks.map Sum.inr) : RCF K s rListD [.o d] ((ks.map PyData.str).map .d) := fun B σ H vs Q S a q => by
  cases a with
  | cons a1 a2 =>
    cases a2
    cases a1
    obtain ⟨us, e, h1, h2⟩ := S.hh.cell _ (List.mem_of_getElem? hn)
    refine ⟨d, us, rfl, e, fun np hn => q np _ _ (same_new hn) hn upd_same ?_⟩
    exact rws_keys (h1.trans hk)
/-- dict(a list of pairs of texts) -/
def rDictP (K : PySem.W.Frag) : List V → Hp → VK → Prop := fun xs H Q => ∃ (a : Addr) (ps : List Addr) (kvs : List (Key × V)), xs = [.ref a] ∧ SqL K H a (ps.map V.ref) ∧ Paired (fun p kv => SqT K H p [kV kv.1, kv.2]) ps kvs ∧ ∀ p, H p = none → Q (.ref p) (upd H p (.dK (mergeK [] kvs)))
theorem mergeK_nd : ∀ (more kvs : List (Key × V)), ((kvs ++ more).map (·.1)).Nodup → mergeK kvs more = kvs ++ more
  | [], kvs, _ => by unfold mergeK; simp
  | m :: more, kvs, nd => by
    have hm : ∀ kv ∈ kvs, kv.1 ≠ m.1 := fun kv hkv e => by
      rw [List.map_append, List.map_cons] at nd
      exact (List.nodup_append.mp nd).2.2 _ (List.mem_map_of_mem hkv) m.1 List.mem_cons_self e
    have e : putK kvs m.1 m.2 = kvs ++ [m] := by
      unfold putK
      rw [if_neg]
      intro z
      obtain ⟨kv, h1, h2⟩ := List.any_eq_true.mp z
      exact hm kv h1 (of_decide_eq_true h2)
    have : mergeK kvs (m :: more) = mergeK (kvs ++ [m]) more := by
      unfold mergeK
      rw [List.foldl_cons, e]
    rw [this, mergeK_nd more (kvs ++ [m]) (by rw [List.append_assoc]; exact nd), List.append_assoc]; rfl
abbrev kvT (p : Str × Str) : Key × W := (.inr p.1, ws p.2)
theorem pairs_of {M : Hp} {H : Hp} (m : Same M H) : ∀ {vs : List V} {l : List (Str × Str)}, RWs K M vs ((l.map ptD).map .d) → ∃ ps : List Addr, vs = ps.map V.ref ∧ Paired (fun p (kv : Key × V) => SqT K H p [kV kv.1, kv.2]) ps (l.map fun p => (.inr p.1, V.str p.2))
  | [], [], _ => ⟨[], rfl, .nil⟩
  | _, p :: l, h => by
    cases h with
    | cons h1 h2 =>
      obtain ⟨ps, e, hp⟩ := pairs_of m h2
      cases h1 with
      | tup hs ha =>
        rename_i a us
        have hu := dpa_rws (K := K) ha
        obtain rfl : us = [V.str p.1, V.str p.2] := by
          cases hu with
          | cons a1 a2 =>
            cases a2 with
            | cons b1 b2 =>
              cases b2
              cases rw_s a1; cases rw_s b1
              rfl
        exact ⟨a :: ps, by rw [e]; rfl, .cons ((hs.mono m).sq) hp⟩
theorem evg_dictP {l : List (Str × Str)} {k : W → Del → Prop} {ex : Value → Del → Prop} (h : EvW K ta s (wl (l.map ptD))) (nd : (l.map (·.1)).Nodup) (hk : ∀ p, p ∉ ads s.h → k (.o p) ((p, .dic (l.map kvT)) :: s.h)) : EvG K E (tCB (rDictP K) (tCons ta tNil)) s k ex := fun B σ H Q S q _ =>
  h B σ H _ S fun v H1 S1 f1 r1 => by
    obtain ⟨a, us, rfl, g, rr⟩ := (lv_d (s := s)).get S1 r1
    obtain ⟨ps, rfl, hp⟩ := pairs_of msk_sub rr
    refine ⟨a, ps, _, rfl, g, hp, fun p np => ?_⟩
    have em : mergeK [] (l.map fun p => ((.inr p.1, V.str p.2) : Key × V)) = l.map fun p => (.inr p.1, V.str p.2) := by
      rw [mergeK_nd _ [] ?_, List.nil_append]
      rw [List.nil_append, List.map_map]
      have : (l.map (·.1)).map (Sum.inr : Str → Key) = l.map ((fun x : Key × V => x.1) ∘ fun p => ((.inr p.1, V.str p.2) : Key × V)) := by rw [List.map_map]; rfl
      rw [← this]
      exact List.Pairwise.map _ (fun a b h e => h (Sum.inr.inj e)) nd
    rw [em]
    obtain ⟨c1, c2, c3⟩ := cell_newG (c := .dic (l.map kvT)) (o := .dK (l.map fun p => (.inr p.1, V.str p.2))) S1 np ⟨_, rfl, by rw [List.map_map, List.map_map]; rfl, by
      rw [List.map_map, List.map_map]
      have : ∀ (M : Hp) (l : List (Str × Str)), RWs K M (l.map ((fun x : Key × V => x.2) ∘ fun p => ((.inr p.1, V.str p.2) : Key × V))) (l.map ((fun x : Key × W => x.2) ∘ kvT)) := by
        intro M l
        induction l with
        | nil => exact .nil
        | cons p l ih => exact .cons rs ih
      exact this _ l⟩
    exact q _ _ _ _ (hk p fun z => S1.hh.out np (List.mem_append_left _ z)) ⟨c1, S1.gg.mono c3⟩ (f1.trans c2) rfl
end
theorem dictPK (K : PySem.W.Frag) {X : Cx} (hc : X.calm = true := by rfl) (hK : X.K = K := by rfl) : CallR X (.type "dict") (rDictP K) := by subst hK; exact call_dictP hc
end DL

namespace DL
open PySem PySem.Spec PyProof.Rows L2 TL
/-! ### defs that are called within an except suite -/
def KnMQ (P : Program) (w : World) (K : PySem.W.Frag) (mg : Str → Option Value) (base : Heap) (k : Nat) (C : Addr) (m : Str) (ps : List Str) (t : Tr) : Prop :=
  ∃ f fd, FnE P w K mg base k f fd ps (fun _ => spOf K t) ∧ Meth K C m f ∧ Binds K fd ps []
abbrev KnQ (P : Program) (w : World) (K : PySem.W.Frag) (mg : Str → Option Value) (base : Heap) (k : Nat) (x : Str) (ps : List Str) (t : Tr) : Prop := KnE P w K mg base k x ps (fun _ => t)
section
variable {X : Cx} {k j : Nat} {f C a : Addr} {oe : Obj} {pn : List (Addr × Obj)} {fd : FuncData} {x m : Str} {ps : List Str} {sp : Sp} {t : Tr} {p pos apos : Pos} {o e : Expr} {es : List Expr} {ta : TE} {tr : TA} {A : Around} {q : Addr × Obj}
variable {P : Program} {w : World} {K : PySem.W.Frag} {mg : Str → Option Value} {base : Heap}
theorem run_Q {pins : List (Addr × Obj)} {σ : L2.St} {H : Hp} {s : Shared} {Q : VK} {us : List Value} {vs : List V} (hq : q ∈ X.pn) (F : FnE X.prog X.w X.K X.mg X.base k f fd ps (fun _ => sp)) (rm : L2H.RoomH k X.A) (hb : Binds X.K fd ps [])
    (I : Inv X pins σ H s) (r : Vals vs us) (h : sp vs H Q L2.E0) : wpAny (model X.prog X.w) X.A (call (.ref f) us) (EP X pins σ Q) X.xe s := by
  have hl : us.length = ps.length := by rw [← r.length]; exact F.ln q _ _ _ _ h
  have bd := hb s us I.kIn (by rw [List.append_nil]; exact hl)
  rw [List.append_nil] at bd
  obtain ⟨e1, n1, nL, nF, nc⟩ := I.pin q (List.mem_append_left _ hq)
  have pinned : L2H.PinOk X.stack H s q := ⟨e1, n1, fun hm => (List.mem_cons.mp (I.stkSub q.1 hm)).elim nL nF, nc⟩
  refine wpAny_call (codeAny_mono (F.go X.A X.stack s H ⟨us, []⟩ us vs Q L2.E0 q rm pinned I.env0 bd r h) fun rr s2 hh => ?_)
  cases rr with
  | error _ => exact hh.elim
  | ok fl =>
    cases fl with
    | ret u => exact I.after hh
    | _ => exact False.elim hh
theorem pe_knQ0 (hq : q ∈ X.pn) (h : KnQ P w K mg base k x ps t) (rm : L2H.RoomH k X.A) (ha : PA X (e :: es) tr) (hX : At X P w K mg base) (hg : Gl X x) (hdb : (x == ("__debug__" : Str)) = false)
    (he : starEach (e :: es) X.env = (false, eval e X.env) :: starEach es X.env) (hpl : (backTo pos (starEach es X.env)).any (·.1) = false) : PE X (.Call (.Name x p) (e :: es) [] pos) (tCallS (spOf K t) (fun _ => L2.E0) tr) := by
  obtain ⟨f, fd, F, hm, hk, hb⟩ := h
  obtain ⟨rfl, rfl, rfl, rfl, rfl⟩ := hX
  refine ⟨fun pins s σ H Q I h0 => wpAny_Call_Name_kw (ld_glob I hg hm (PySem.W.callWith_K (h₀ := X.base) I.ok.mod.kin hk (thn (ha.run pos pins s σ H _ I h0) fun us s1 hh => ?_) he hpl) hdb)⟩
  obtain ⟨vs, H1, I1, r, z⟩ := hh
  exact ⟨I1.kIn, run_Q hq F rm hb I1 r z⟩
theorem pe_knQ (h : KnQ P w K mg base k x ps t) (hr : L2H.RoomH j A) (hj : k ≤ j) (hq : q ∈ X.pn) (ha : PA X (e :: es) tr) (hA : X.A = A := by rfl) (hX : At X P w K mg base := by exact ⟨rfl, rfl, rfl, rfl, rfl⟩) (hg : Gl X x := by rfl) (hdb : (x == ("__debug__" : Str)) = false := by decide)
    (he : starEach (e :: es) X.env = (false, eval e X.env) :: starEach es X.env := by rfl) (hpl : (backTo pos (starEach es X.env)).any (·.1) = false := by rfl) : PE X (.Call (.Name x p) (e :: es) [] pos) (tCallS (spOf K t) (fun _ => L2.E0) tr) := by
  subst hA
  exact pe_knQ0 hq h (hr.mono hj) ha hX hg hdb he hpl
theorem pe_methQ {pl : Sem Bool} (hq : q ∈ X.pn) (he : PE X o ta) (c : Cls X.K C) (hm : Meth X.K C m f) (F : FnE X.prog X.w X.K X.mg X.base k f fd ps (fun _ => sp)) (rm : L2H.RoomH k X.A) (hb : Binds X.K fd ps []) (ha : PA X (e :: es) tr)
    (hst : starEach (e :: es) X.env = (false, eval e X.env) :: starEach es X.env) (hpl : (backTo pos (starEach es X.env)).any (·.1) = false)
    (ht : eval (.Call (.Attribute o m apos) (e :: es) [] pos) X.env = (do
      let ov ← eval o X.env
      standAt apos.atName
      let (f, first) ← holding [ov] (getMethod ov m pl)
      callWith pos f first (backTo pos (starEach (e :: es) X.env)) (backToKw pos (keywordEach [] X.env)))) :
    PE X (.Call (.Attribute o m apos) (e :: es) [] pos) (tMethS C m sp (fun _ => L2.E0) ta tr) := by
  refine ⟨fun pins s σ H Q I h => PySem.W.methodCall_KW (pl := pl) (thn (he.run pins s σ H _ I h) fun u s1 hh => ?_) ht⟩
  obtain ⟨x, H1, I1, rx, a, dx, fs, ex, ea, l, z⟩ := hh
  subst ex
  obtain rfl : u = Value.ref a := rx
  refine getmeth_ok I1 ea c hm l (PySem.W.callWith_K (first := [.ref a]) (h₀ := X.base) I.ok.mod.kin hm.kp (thn (ha.run pos pins s1 σ H1 _ I1 z) fun us s2 hh => ?_) hst hpl)
  obtain ⟨vs, H2, I2, r, z2⟩ := hh
  exact ⟨I2.kIn, run_Q (us := .ref a :: us) (vs := .ref a :: vs) hq F rm hb I2 (.cons rfl r) z2⟩
theorem pe_kmQ {pl : Sem Bool} {L : List Str} (c : ClsF K C L) (h : KnMQ P w K mg base k C m ps t) (hr : Room j A) (hj : k ≤ j) (he : PE (X.suite a ((a, oe) :: pn)) o ta) (ha : PA (X.suite a ((a, oe) :: pn)) (e :: es) tr) (hA : X.A = A := by rfl) (hX : At X P w K mg base := by exact ⟨rfl, rfl, rfl, rfl, rfl⟩)
    (hst : starEach (e :: es) X.env = (false, eval e X.env) :: starEach es X.env := by rfl) (hpl : (backTo pos (starEach es X.env)).any (·.1) = false := by rfl)
    (ht : eval (.Call (.Attribute o m apos) (e :: es) [] pos) X.env = (do
      let ov ← eval o X.env
      standAt apos.atName
      let (f, first) ← holding [ov] (getMethod ov m pl)
      callWith pos f first (backTo pos (starEach (e :: es) X.env)) (backToKw pos (keywordEach [] X.env))) := by rfl) :
    PE (X.suite a ((a, oe) :: pn)) (.Call (.Attribute o m apos) (e :: es) [] pos) (tMethS C m (spOf K t) (fun _ => L2.E0) ta tr) := by
  obtain ⟨f, fd, F, hm, hb⟩ := h
  obtain ⟨rfl, rfl, rfl, rfl, rfl⟩ := hX
  subst hA
  have rm : L2H.RoomH k (X.suite a ((a, oe) :: pn)).A := ⟨(hr.mono hj).dp, (hr.mono hj).un⟩
  exact pe_methQ (X := X.suite a ((a, oe) :: pn)) (q := (a, oe)) List.mem_cons_self he c.1 hm F rm hb ha hst hpl ht
theorem kmQ_of {qn : Str} {st : Stmt} {N : List Str} (F : Fun K m qn st f fd) (hm : Meth K C m f) (hb : Binds K fd ps []) (S : FnScope N ps (defScope st)) (ln : ∀ xs Δ k ex, t xs Δ k ex → xs.length = ps.length)
    (h : ∀ (cdv : Value) (A : Around) (fr : List Env) (s : Shared) (H : Hp) (E : XK) (p : Addr × Obj), L2H.RoomH k (A.deeper (envOfC qn (defScope st) s.heap.objs.size f cdv)) →
      ∃ ts, PSs (L2H.cxH CX0 P w K mg base N qn (defScope st) f cdv A fr s H E p) (defBody st) ts ∧ ∀ xs Δ k ex, t xs Δ k ex → HS K (fun _ => E) ts ⟨xs.map some ++ List.replicate (N.length - xs.length) none, Δ⟩ { n := fun s' => k wn s'.h, r := k, x := fun c s' => ex c s'.h }) :
    KnMQ P w K mg base (k + 1) C m ps t := ⟨f, fd, fnE_of F S (fun _ => ln) h, hm, hb⟩
theorem op_eqAQ (K : PySem.W.Frag) (hr : L2H.RoomH j A) (hA : X.A = A := by rfl) (hK : X.K = K := by rfl) : OpR X (compareOp .Eq) (rEqU K) := hK ▸ op_eqU (by rw [hA]; have := hr.un; omega)
theorem op_neAQ (K : PySem.W.Frag) (hr : L2H.RoomH j A) (hA : X.A = A := by rfl) (hK : X.K = K := by rfl) : OpR X (compareOp .NotEq) (rNeU K) := hK ▸ op_neU (by rw [hA]; have := hr.un; omega)
end
section
variable {K : PySem.W.Frag} {s : S} {tl te : TE} {tt : TT} {x : W}
/-- a comprehension over a list that a call with cells hands back -/
theorem evfw_lcLW {j : Nat} {vs : List Nat} {xs : List W} (f : Nat → Bool) (v : Nat → W) (h : EvW K tl s x) (l : LV s x xs) (hl : xs.length ≤ 16000000) (hj : j ∈ vs)
    (ht : ∀ (i : Nat) (u : W), xs[i]? = some u → EvT K tt (inB s vs j u) (f i)) (he : ∀ (i : Nat) (u : W), xs[i]? = some u → f i = true → Ev K te (inB s vs j u) (v i)) :
    EvFW K (tLc (iList K tl) (gName j) tt te vs) s (outs xs.length f v) := fun B σ H Q S q =>
  h B σ H _ S fun u H1 S1 f1 r1 => by
    obtain ⟨a, us, rfl, g, rr⟩ := l.get S1 r1
    refine ⟨a, rfl, ⟨us, g⟩, fun D nD => ?_⟩
    refine lc_list (xs := us) (fun i H' => CW K B s σ H1 D (outs i f v) H') (cw_start nD) (fun i H' _ c => c.1.seq g) (fun i y H' hi c => ?_) (fun H' c => cw_end (by rw [rr.len] at c; exact c) fun a us H2 e2 ha ea rr => ?_)
    · obtain ⟨u, hu, ru⟩ := rr.getv hi
      have hlt : i < xs.length := (List.getElem?_eq_some_iff.mp hu).1
      refine ⟨wipe_set hj, ?_⟩
      have hz : (outs i f v).length < sizeLine := Nat.lt_of_le_of_lt (outs_len i f v) (by rw [sizeLine_eq]; omega)
      have S2 : Sat K B ⟨(wipeG s.g vs).set j (some u), s.h⟩ ((wipe σ vs).set j (some y)) H1 := ⟨S1.hh, (wipe_sat S1.gg vs).set ru j⟩
      obtain ⟨e, acc, hD, r⟩ := c
      have S3 := cw_sat S2 nD e ⟨_, hD⟩
      exact cw_turn ⟨e, acc, hD, r⟩ S3 nD rfl hz (ht i u hu) (he i u hu) (fun hb H2 c2 => by rw [outs_yes hb]; exact c2) (fun hb H2 c2 => by rw [outs_no hb]; exact c2)
    · obtain ⟨c1, c2, c3⟩ := cell_new S1 e2 (by rw [ea]; exact nD) ha rr
      exact q a H2 ⟨c1, S1.gg.mono c3⟩ (f1.trans c2)
theorem evfw_lcLF {α : Type} {j : Nat} {vs : List Nat} {l : List α} (e : α → PyData) (d0 : α) (p : α → Bool) (g : α → PyData) (h : EvW K tl s x) (lv : LV s x ((l.map e).map .d)) (hl : l.length ≤ 16000000) (hj : j ∈ vs)
    (ht : ∀ q ∈ l, EvT K tt (inB s vs j (.d (e q))) (p q)) (he : ∀ q ∈ l, p q = true → Ev K te (inB s vs j (.d (e q))) (.d (g q))) : EvFW K (tLc (iList K tl) (gName j) tt te vs) s (((l.filter p).map g).map .d) := by
  have at' : ∀ (k : Nat) (u : W), ((l.map e).map W.d)[k]? = some u → ∃ y ∈ l, u = .d (e y) ∧ l.getD k d0 = y := fun k u hu => by
    rw [List.getElem?_map, List.getElem?_map] at hu
    cases hk : l[k]? with
    | none => rw [hk] at hu; cases hu
    | some y =>
      rw [hk] at hu
      exact ⟨y, List.mem_of_getElem? hk, (Option.some.inj hu).symm, by rw [List.getD_eq_getElem?_getD, hk]; rfl⟩
  have r := evfw_lcLW (j := j) (vs := vs) (tt := tt) (te := te) (fun k => p (l.getD k d0)) (fun k => .d (g (l.getD k d0))) h lv (by rw [List.length_map, List.length_map]; exact hl) hj (fun k u hu => by
    obtain ⟨y, hy, rfl, e2⟩ := at' k u hu
    rw [e2]
    exact ht y hy) (fun k u hu hp => by
    obtain ⟨y, hy, rfl, e2⟩ := at' k u hu
    rw [e2] at hp ⊢
    exact he y hy hp)
  rw [List.length_map, List.length_map, outs_filter l d0 p fun q => W.d (g q)] at r
  rw [List.map_map]
  exact r
end
end DL

namespace DL
open PySem PySem.Spec PyProof.Rows L2 TL
/-! ### l.remove(x) of data -/
def rRemD (K : PySem.W.Frag) : V → List V → Hp → VK → Prop := fun x xs H Q => ∃ (a : Addr) (y : V) (vs : List V) (d : PyData) (ds : List PyData) (j : Nat), x = V.ref a ∧ xs = [y] ∧ H a = some (.lst vs) ∧ DpAll K H vs ds ∧ Dp K H y d ∧
  PyData.plainAll ds = true ∧ d.plain = true ∧ PyData.depthAll ds ≤ 60 ∧ SeqAt.dataPlace ds d = some j ∧ Q .non (upd H a (.lst (vs.eraseIdx j)))
section
variable {X : Cx}
theorem mt_remD0 (hu : X.A.units + 100 < cLine) : MtM X "list.remove" (rRemD X.K) := by
  intro pins s σ H x xs v us Q I rx rxs h
  obtain ⟨a, y, vs, d, ds, j, rfl, rfl, hH, hds, hd, p1, p2, p3, hj, q⟩ := h
  cases rx
  obtain ⟨u, rfl, ru⟩ := rxs.one
  obtain ⟨z, its, n, r, hl, e⟩ := I.lstM hH
  obtain ⟨as, ra⟩ := Dp.readsAll I ds vs its hds r
  obtain ⟨bs, rb⟩ := Dp.reads I d y u hd ru
  refine SeqAt.remove_list_data (j := j) ⟨_, e, rfl, n, rfl⟩ ra rb p1 p2 (by have := Nat.min_le_left (PyData.depthAll ds) d.depth; omega) hj (by rw [List.size_toArray]; omega) ?_
  refine ⟨.non, _, I.lset (its' := its.eraseIdx j) hH e ?_ ?_ ?_, rfl, q⟩
  · show its.toArray.eraseIdxIfInBounds j = (its.eraseIdx j).toArray
    rw [List.eraseIdxIfInBounds_toArray]
  · exact r.eraseIdx j
  · have := len_erase vs j
    omega
end
theorem mt_remDK (K : PySem.W.Frag) {X : Cx} {j : Nat} {A : Around} (hr : Room j A) (hA : X.A = A := by rfl) (hK : X.K = K := by rfl) : MtM X "list.remove" (rRemD K) := by
  subst hK; exact mt_remD0 (by rw [hA]; have := hr.un; omega)
theorem op_inT (K : PySem.W.Frag) {X : Cx} (hK : X.K = K := by rfl) : OpR X (compareOp .In) (rIn K false) := by subst hK; exact op_in_seq
theorem op_ninT (K : PySem.W.Frag) {X : Cx} (hK : X.K = K := by rfl) : OpR X (compareOp .NotIn) (rIn K true) := by subst hK; exact op_notIn_seq
theorem anyK (K : PySem.W.Frag) {X : Cx} (hc : X.calm = true) (hK : X.K = K := by rfl) : CallR X (.builtin "any") (rAny K) := by subst hK; exact cr_any hc
section
variable {K : PySem.W.Frag} {s s1 s' : S} {ta tb te tl : TE} {tt : TT} {x y z w : W} {B : List Addr} {H H' : Hp} {σ : L2.St} {E : L2.St → XK} {O : Out} {t1 t2 tz tu tw : L2.TS}
theorem rv_inSq {ks : List Str} {k : Str} {neg : Bool} (l : QV s y ((ks.map PyData.str).map .d)) : RVs K s (rIn K neg) (ws k) y (wb (if neg then !decide (k ∈ ks) else decide (k ∈ ks))) := fun B σ H v u Q S a b q => by
  cases rw_s a
  obtain ⟨p, vs, rfl, g, rr⟩ := l.get S b
  have e := dqa_strs (rws_dpa rr)
  subst e
  have f : (ks.map V.str).all flatV = true := by rw [List.all_eq_true]; intro z hz; obtain ⟨_, _, rfl⟩ := List.mem_map.mp hz; rfl
  have i : inV (.str k) (ks.map V.str) = decide (k ∈ ks) := by
    unfold inV
    rw [List.any_map]
    refine Bool.eq_iff_iff.mpr ?_
    rw [List.any_eq_true]
    constructor
    · rintro ⟨z, hz, e⟩
      have : z = k := eq_of_beq e
      exact decide_eq_true (this ▸ hz)
    · intro h
      exact ⟨k, of_decide_eq_true h, beq_self_eq_true k⟩
  refine ⟨p, _, rfl, g, rfl, f, ?_⟩
  rw [i]
  exact q _ H same_refl rb
theorem gs_tup3 {d1 d2 d3 : PyData} {g1 g2 g3 : TG} {s2 : S} (h1 : GS K g1 (.d d1) s s1) (h2 : GS K g2 (.d d2) s1 s2) (h3 : GS K g3 (.d d3) s2 s') : GS K (gTup K 3 (gCons g1 (gCons g2 (gCons g3 gNil)))) (wt [d1, d2, d3]) s s' := fun B σ H v Q S r q => by
  cases r with
  | tup hs ha =>
    cases ha with
    | cons a1 a2 =>
      cases a2 with
      | cons a2 a3 =>
        cases a3 with
        | cons a3 a4 =>
          cases a4
          exact ⟨_, _, rfl, (hs.mono msk_sub).sq, rfl, _, _, rfl, h1 B σ H _ _ S a1 fun σ1 H1 S1 f1 => ⟨_, _, rfl, h2 B σ1 H1 _ _ S1 (dp_mono f1.msk a2) fun σ2 H2 S2 f2 => ⟨_, _, rfl, h3 B σ2 H2 _ _ S2 (dp_mono (f1.trans f2).msk a3) fun σ3 H3 S3 f3 => ⟨rfl, q σ3 H3 S3 ((f1.trans f2).trans f3)⟩⟩⟩⟩
/-- l.remove(x), l's cell of data -/
theorem hs_rem {n j : Nat} {a : Addr} {ds : List PyData} {d : PyData} (hn : s.h[n]? = some (a, .lst (ds.map .d))) (ho : Ev K ta s (.o a)) (h : Ev K te s x) (hx : DV s x d) (p1 : PyData.plainAll ds = true) (p2 : d.plain = true) (p3 : PyData.depthAll ds ≤ 60)
    (hj : SeqAt.dataPlace ds d = some j) (h2 : O.n ⟨s.g, s.h.set n (a, .lst ((ds.eraseIdx j).map .d))⟩) : HS K E (tDrop (tBM K "list" (rRemD K) ta (tCons te tNil))) s O := fun B σ H D S q =>
  ho B σ H _ S fun v H1 e1 r1 => by
    cases (show v = V.ref a from r1)
    have S1 := S.mono e1
    refine ⟨tyw_v (tyw_l (lv_o n hn)) S1 r1, h B σ H1 _ S1 fun u H2 e2 r2 => ?_⟩
    have S2 := S1.mono e2
    obtain ⟨vs, hv, rv⟩ := S2.hh.cell _ (List.mem_of_getElem? hn)
    have hd := hx.get S2 r2
    have hds : DpAll K H2 vs ds := dqa_dpa (dpa_mono msk_sub (rws_dpa rv))
    have er : RWs K (msk H2 (ads s.h ++ B)) (vs.eraseIdx j) ((ds.eraseIdx j).map .d) := by
      rw [List.eraseIdx_eq_take_drop_succ, List.eraseIdx_eq_take_drop_succ, List.map_append, List.map_take, List.map_drop]
      exact (rv.take _).append (rv.drop _)
    have k := cell_set (c' := .lst ((ds.eraseIdx j).map .d)) (o := .lst (vs.eraseIdx j)) S2 hn ⟨_, rfl, er⟩
    exact ⟨a, _, vs, d, ds, j, rfl, rfl, hv, hds, hd, p1, p2, p3, hj, q.n _ σ _ h2 k.1 ((Fr.of (e1.trans e2)).trans k.2)⟩
theorem wipe_set1 {τ : L2.St} {u : Option V} {k : Nat} {vs : List Nat} (hk : k ∈ vs) : wipe (τ.set k u) vs = wipe τ vs := by
  have e : ∀ ws : List Nat, k ∈ ws → wipe (τ.set k u) ws = wipe τ ws := by
    intro ws
    induction ws with
    | nil => intro h; cases h
    | cons v ws ih =>
      intro h
      show (wipe (τ.set k u) ws).set v none = (wipe τ ws).set v none
      by_cases hm : k ∈ ws
      · rw [ih hm]
      · have ek : k = v := (List.mem_cons.mp h).resolve_right hm
        subst ek
        have out : ∀ ws : List Nat, k ∉ ws → wipe (τ.set k u) ws = (wipe τ ws).set k u := by
          intro ws
          induction ws with
          | nil => intro _; rfl
          | cons v2 ws ih2 =>
            intro hn
            have n1 : k ≠ v2 := fun e => hn (e ▸ List.mem_cons_self)
            have n2 : k ∉ ws := fun e => hn (List.mem_cons_of_mem _ e)
            show (wipe (τ.set k u) ws).set v2 none = ((wipe τ ws).set v2 none).set k u
            rw [ih2 n2, List.set_comm _ _ n1]
        rw [out ws hm, List.set_set]
  exact e vs hk
abbrev inB3 (s : S) (vs : List Nat) (i j k : Nat) (u1 u2 u3 : PyData) : S := ⟨(((wipeG s.g vs).set i (some (.d u1))).set j (some (.d u2))).set k (some (.d u3)), s.h⟩
theorem evf_lcL3 {i j m : Nat} {vs : List Nat} {ps : List (PyData × PyData × PyData)} (f : Nat → Bool) (v : Nat → W) (h : Ev K tl s x) (l : LV s x (ps.map fun p => wt [p.1, p.2.1, p.2.2])) (hl : ps.length ≤ 16000000) (hi : i ∈ vs) (hj : j ∈ vs) (hm : m ∈ vs)
    (ht : ∀ (k : Nat) (p : PyData × PyData × PyData), ps[k]? = some p → EvT K tt (inB3 s vs i j m p.1 p.2.1 p.2.2) (f k)) (he : ∀ (k : Nat) (p : PyData × PyData × PyData), ps[k]? = some p → f k = true → Ev K te (inB3 s vs i j m p.1 p.2.1 p.2.2) (v k)) :
    EvF K (tLc (iList K tl) (gTup K 3 (gCons (gName i) (gCons (gName j) (gCons (gName m) gNil)))) tt te vs) s (outs ps.length f v) := fun B σ H Q S q =>
  h B σ H _ S fun u H1 e1 r1 => by
    have S1 := S.mono e1
    obtain ⟨a, us, rfl, g, rr⟩ := l.get S1 r1
    have hlen : us.length = ps.length := by rw [rr.len, List.length_map]
    refine ⟨a, rfl, ⟨us, g⟩, fun D nD => ?_⟩
    refine lc_list (xs := us) (fun k H' => CW K B s σ H1 D (outs k f v) H') (cw_start nD) (fun k H' _ c => c.1.seq g) (fun k y H' hk c => ?_) (fun H' c => cw_end (by rw [hlen] at c; exact c) fun a us H2 e2 ha ea rr => q a us H2 (e1.trans e2) (by rw [ea]; exact e1.free nD) ha rr)
    obtain ⟨u, hu, ru⟩ := rr.getv hk
    rw [List.getElem?_map] at hu
    cases hp : ps[k]? with
    | none => rw [hp] at hu; cases hu
    | some p =>
      rw [hp] at hu
      have hu' : wt [p.1, p.2.1, p.2.2] = u := Option.some.inj hu
      subst hu'
      have hlt : k < ps.length := (List.getElem?_eq_some_iff.mp hp).1
      have hz : (outs k f v).length < sizeLine := Nat.lt_of_le_of_lt (outs_len k f v) (by rw [sizeLine_eq]; omega)
      have ru' : Dq K (msk H1 (ads s.h ++ B)) y (.tuple [p.1, p.2.1, p.2.2]) := ru
      cases ru' with
      | tup hs ha =>
        cases ha with
        | cons a1 a2 =>
          cases a2 with
          | cons a2 a3 =>
            cases a3 with
            | cons a3 a4 =>
              cases a4
              rename_i v1 v2 v3
              obtain ⟨e, acc, hD, r⟩ := c
              refine ⟨_, _, rfl, ((hs.mono msk_sub).mono e).sq, rfl, _, _, rfl, _, _, rfl, _, _, rfl, rfl, ?_⟩
              refine ⟨by rw [wipe_set1 hm, wipe_set2 hi hj], ?_⟩
              have S2 : Sat K B (inB3 s vs i j m p.1 p.2.1 p.2.2) ((((wipe σ vs).set i (some v1)).set j (some v2)).set m (some v3)) H1 := ⟨S1.hh, (((wipe_sat S1.gg vs).set (w := .d p.1) a1 i).set (w := .d p.2.1) a2 j).set (w := .d p.2.2) a3 m⟩
              have S3 := cw_sat S2 nD e ⟨_, hD⟩
              exact cw_turn ⟨e, acc, hD, r⟩ S3 nD rfl hz (ht k p hp) (he k p hp) (fun hb H2 c2 => by rw [outs_yes hb]; exact c2) (fun hb H2 c2 => by rw [outs_no hb]; exact c2)
theorem evf_lc3F {α : Type} (d0 : α) (e1 e2 e3 : α → PyData) {i j m : Nat} {vs : List Nat} {l : List α} (p : α → Bool) (g : α → PyData) (h : Ev K tl s x) (lv : LV s x ((l.map fun a => PyData.tuple [e1 a, e2 a, e3 a]).map .d)) (hl : l.length ≤ 16000000) (hi : i ∈ vs) (hj : j ∈ vs) (hm : m ∈ vs)
    (ht : ∀ q ∈ l, EvT K tt (inB3 s vs i j m (e1 q) (e2 q) (e3 q)) (p q)) (he : ∀ q ∈ l, p q = true → Ev K te (inB3 s vs i j m (e1 q) (e2 q) (e3 q)) (.d (g q))) :
    EvF K (tLc (iList K tl) (gTup K 3 (gCons (gName i) (gCons (gName j) (gCons (gName m) gNil)))) tt te vs) s (((l.filter p).map g).map .d) := by
  have hx : LV s x ((l.map fun a => ((e1 a, e2 a, e3 a) : PyData × PyData × PyData)).map fun q => wt [q.1, q.2.1, q.2.2]) := by
    rw [List.map_map] at lv ⊢
    exact lv
  have key : ∀ (k : Nat) (q : PyData × PyData × PyData), (l.map fun a => ((e1 a, e2 a, e3 a) : PyData × PyData × PyData))[k]? = some q → ∃ y ∈ l, q = (e1 y, e2 y, e3 y) ∧ l.getD k d0 = y := fun k q e => by
    rw [List.getElem?_map] at e
    cases hk : l[k]? with
    | none => rw [hk] at e; cases e
    | some y =>
      rw [hk] at e
      exact ⟨y, List.mem_of_getElem? hk, (Option.some.inj e).symm, by rw [List.getD_eq_getElem?_getD, hk]; rfl⟩
  have r := evf_lcL3 (i := i) (j := j) (m := m) (vs := vs) (tt := tt) (te := te) (fun k => p (l.getD k d0)) (fun k => .d (g (l.getD k d0))) h hx (by rw [List.length_map]; exact hl) hi hj hm (fun k q e => by
    obtain ⟨y, hy, rfl, e2⟩ := key k q e
    rw [e2]
    exact ht y hy) (fun k q e hp => by
    obtain ⟨y, hy, rfl, e2⟩ := key k q e
    rw [e2] at hp ⊢
    exact he y hy hp)
  rw [List.length_map, outs_filter l d0 p fun q => W.d (g q)] at r
  rw [List.map_map]
  exact r
theorem rc_any {bs : List Bool} : RCs K s (rAny K) [wl (bs.map .bool)] (wb (bs.any id)) := fun B σ H vs Q S a q => by
  cases a with
  | cons a1 a2 =>
    cases a2
    cases a1 with
    | lst hs ha =>
      have e := dqa_bls ha
      subst e
      exact ⟨_, bs, rfl, SqL.of (msk_sub _ _ hs), q _ H same_refl rb⟩
end
end DL

namespace DL
open PySem PySem.Spec PyProof.Rows L2 TL
section
variable {K : PySem.W.Frag} {s s1 s' : S} {ta tb te tl td ty : TE} {tt : TT} {x y z w : W} {B : List Addr} {H H' : Hp} {σ : L2.St} {E : L2.St → XK} {O : Out} {t1 t2 tz tu tw : L2.TS} {d : Addr} {kvs : List (Key × W)}
/-! ### o.f = {}, keys that are texts or numbers -/
theorem fldDk_core {C a : Addr} {f : Str} {fs : List (Str × W)} {L : List Str} {Q : Hp → Prop} (n : Nat) (c : ClsF K C L) (ho : ∀ Δ, Ev K ta ⟨s.g, Δ⟩ (.o a)) (hn : s.h[n]? = some (a, .obj C fs)) (hf : f ∈ L) (hl : fs.length < 1000) (S : Sat K B s σ H)
    (q : ∀ b H', Sat K B ⟨s.g, (b, .dic []) :: s.h.set n (a, .obj C (putW f (.o b) fs))⟩ σ H' → Fr s.h H ((b, .dic []) :: s.h.set n (a, .obj C (putW f (.o b) fs))) H' → Q H') :
    tDNewK σ H fun y H1 => ta σ H1 fun x H2 => ∃ a C dx fs, x = .ref a ∧ H2 a = some (.ins C dx fs) ∧ Cls K C ∧ NoAttr K C f ∧ fs.length < 1000 ∧ Q (upd H2 a (.ins C dx (putF f y fs))) := fun b nb => by
  obtain ⟨c1, c2, c3⟩ := cell_newG (c := .dic []) (o := .dK []) S nb ⟨[], rfl, rfl, .nil⟩
  have S1 : Sat K B ⟨s.g, (b, .dic []) :: s.h⟩ σ (upd H b (.dK [])) := ⟨c1, S.gg.mono c3⟩
  refine ho _ B σ _ _ S1 fun v H2 e2 r2 => ?_
  cases (show v = V.ref a from r2)
  have S2 := S1.mono e2
  have hn' : ((b, Cell.dic []) :: s.h)[n + 1]? = some (a, .obj C fs) := hn
  obtain ⟨dx, vs, h1, h2, h3⟩ := obj_get (s := ⟨s.g, (b, .dic []) :: s.h⟩) hn' S2
  have p := putF_W (f := f) (v := .ref b) (w := .o b) (M := msk H2 (ads ((b, Cell.dic []) :: s.h) ++ B)) rfl h2 h3
  have k := cell_set (s := ⟨s.g, (b, .dic []) :: s.h⟩) (c' := .obj C (putW f (.o b) fs)) (o := .ins C dx (putF f (.ref b) vs)) S2 hn' ⟨dx, _, rfl, p.1, p.2⟩
  refine ⟨a, C, dx, vs, rfl, h1, c.1, c.2.2 f hf, ?_, q b _ k.1 ((c2.trans (Fr.of e2)).trans k.2)⟩
  have e := congrArg List.length h2
  rw [List.length_map, List.length_map] at e
  omega
theorem hs_flDk {C a : Addr} {f : Str} {L : List Str} {xs : List W} (n i : Nat) (c : ClsF K C L) (ho : ∀ Δ, Ev K ta ⟨s.g, Δ⟩ (.o a)) (hn : s.h[n]? = some (a, obL C L xs)) (hi : fix f L = some i) (hl : xs.length = i)
    (h : ∀ b, O.n ⟨s.g, (b, .dic []) :: s.h.set n (a, obL C L (xs ++ [.o b]))⟩) : HS K E (sFld K ta tDNewK f) s O := fun B σ H D S q =>
  fldDk_core n c ho hn (fix_mem hi) (zip_lt c.2.1) S fun b H' S' f => by
    subst hl
    rw [putW_new hi] at S' f
    exact q.n _ σ H' (h b) S' f
/-- del d[k] -/
theorem hs_ddelK {n : Nat} {key : Key} (hn : s.h[n]? = some (d, .dic kvs)) (hd : Ev K td s (.o d)) (hk : Ev K ty s (kW key)) (hv : (valW kvs key).isSome = true) (h : O.n ⟨s.g, s.h.set n (d, .dic (dropKW kvs key))⟩) : HS K E (sDDel td ty) s O := fun B σ H D S q =>
  hd B σ H _ S fun a H1 e1 r1 => hk B σ H1 _ (S.mono e1) fun u H2 e2 r2 => by
    cases (show a = V.ref d from r1)
    have S2 := (S.mono e1).mono e2
    obtain ⟨vs, e, h1, h2⟩ := S2.hh.cell _ (List.mem_of_getElem? hn)
    have dr : DR K (msk H2 (ads s.h ++ B)) vs kvs := ⟨h1, h2⟩
    obtain ⟨w0, hw⟩ := Option.isSome_iff_exists.mp hv
    obtain ⟨v, hv2, _⟩ := (dr_val (k := key) dr).1 w0 hw
    have dd := dr_drop key dr
    have k := cell_set (c' := .dic (dropKW kvs key)) (o := .dK (L2.dropK vs key)) S2 hn ⟨_, rfl, dd.1, dd.2⟩
    exact ⟨d, vs, key, rfl, e, rw_k r2, by rw [hv2]; rfl, q.n _ σ _ h k.1 ((Fr.of (e1.trans e2)).trans k.2)⟩
theorem evw_bm {T : String} {rm : V → List V → Hp → VK → Prop} {tr : TA} {xs : List W} (ho : Ev K ta s x) (t : TyW s T x) (h : EvAW K tr s xs) (hr : RMs K s rm x xs z) : EvW K (tBM K T rm ta tr) s z := fun B σ H Q S q =>
  ho B σ H _ S fun v H1 e1 r1 => ⟨tyw_v t (S.mono e1) r1, h B σ H1 _ (S.mono e1) fun vs H2 S2 f2 r2 => hr B σ H2 v vs Q S2 (r1.mono f2.msk) r2 fun t H3 e3 r3 => q t H3 (S2.mono e3) ((Fr.of e1).trans (f2.trans (Fr.of e3))) r3⟩
theorem evw_cbF {rr : List V → Hp → VK → Prop} {tr : TA} {xs : List W} {ds : List PyData} (h : EvAW K tr s xs) (hr : RCF K s rr xs (ds.map .d)) : EvW K (tCB rr tr) s (wl ds) := fun B σ H Q S q =>
  h B σ H _ S fun vs H1 S1 f1 r1 => hr B σ H1 vs Q S1 r1 fun a us H2 e n ha r => by
    have no := S1.hh.out n
    refine q _ _ (S1.mono e) (f1.trans (Fr.of e)) (Dq.lst ?_ (rws_dpa (r.mono (msk_less fun b hb => List.mem_cons_of_mem _ hb))))
    rw [msk_out no]
    exact ha
theorem rm_joinO {a : Str} {ys : List Str} {b : Addr} (n : Nat) (hn : s.h[n]? = some (b, .lst ((ys.map PyData.str).map .d))) (hz : (ys.map (·.length)).sum + ys.length * a.length ≤ 16777216) :
    RMs K s (fun x xs H Q => ∃ a p, ∃ ys : List Str, x = .str a ∧ xs = [.ref p] ∧ (SqL K H p (ys.map V.str) ∨ SqT K H p (ys.map V.str)) ∧ (ys.map (·.length)).sum + ys.length * a.length ≤ 16777216 ∧ Q (.str (Txt.join a ys)) H)
      (ws a) [.o b] (ws (Txt.join a ys)) := fun B σ H v vs Q S h1 h2 q => by
  cases rw_s h1
  cases h2 with
  | cons h2 h3 =>
    cases h3
    cases (show _ = V.ref b from h2)
    obtain ⟨us, hv, rv⟩ := S.hh.cell _ (List.mem_of_getElem? hn)
    have e := dqa_strs (rws_dpa rv)
    subst e
    exact ⟨a, _, ys, rfl, rfl, .inl (SqL.of hv), hz, q _ H same_refl rs⟩
/-! ### a comprehension over a dict -/
theorem lc_keys {dd : Addr} {oo : Obj} {kv : List (Key × V)} {g : TG} {tb : TT} {te : TE} {vs : List Nat} {σ : L2.St} {H1 : Hp} {D : Addr} {Qd : Hp → Prop} (Pv : Nat → Hp → Prop) (h0 : Pv 0 (upd H1 D (.lst []))) (hf : ∀ i H, Pv i H → H dd = some (.frz oo (.dK kv)))
    (hs : ∀ i k v H, kv[i]? = some (k, v) → Pv i H → g (kV k) (wipe σ vs) H fun σ2 H2 => wipe σ2 vs = wipe σ vs ∧ tb σ2 H2 fun b H3 =>
      if b = true then te σ2 H3 fun y H4 => ∃ acc, H4 D = some (.lst acc) ∧ acc.length < sizeLine ∧ Pv (i + 1) (upd H4 D (.lst (acc ++ [y]))) else Pv (i + 1) H3) (hd : ∀ H, Pv kv.length H → Qd H) :
    ∃ W : Nat → Nat → Hp → Prop, (∃ m, W 0 m (upd H1 D (.lst []))) ∧ ∀ i m H, W i m H →
      ((Itk dd oo kv).stop i H ∧ Qd H) ∨ ((Itk dd oo kv).go i H ∧ ∃ Nx : Hp → Prop, (∀ H', Nx H' → ∃ m', m' < m ∧ W (i + 1) m' H') ∧ ∀ y H', (Itk dd oo kv).yld i H y H' → g y (wipe σ vs) H' fun σ2 H2 => wipe σ2 vs = wipe σ vs ∧ tb σ2 H2 fun b H3 =>
        if b = true then te σ2 H3 fun y H4 => ∃ acc, H4 D = some (.lst acc) ∧ acc.length < sizeLine ∧ Nx (upd H4 D (.lst (acc ++ [y]))) else Nx H3) := by
  refine ⟨fun i m H => m = kv.length - i ∧ i ≤ kv.length ∧ Pv i H, ⟨kv.length, by simp, Nat.zero_le _, h0⟩, ?_⟩
  rintro i m H ⟨rfl, hi, p⟩
  have hfr := hf i H p
  by_cases hlt : i < kv.length
  · refine .inr ⟨⟨hfr, hlt⟩, Pv (i + 1), fun H' p' => ⟨kv.length - (i + 1), by omega, rfl, hlt, p'⟩, fun y H' z => ?_⟩
    obtain ⟨e, k, v, hk, ey⟩ := z
    subst e ey
    exact hs i k v _ hk p
  · have e : i = kv.length := by omega
    subst e
    exact .inl ⟨⟨hfr, Nat.le_refl _⟩, hd H p⟩
theorem evfw_lcDk {n j : Nat} {vs : List Nat} (f : Nat → Bool) (v : Nat → W) (hn : s.h[n]? = some (d, .dic kvs)) (hd : ∀ u, Ev K td ⟨s.g, s.h.set n (d, .fz u kvs)⟩ (.o d)) (hl : kvs.length ≤ 16000000) (hj : j ∈ vs)
    (ht : ∀ (u : HO) (i : Nat) (k : Key) (w : W), kvs[i]? = some (k, w) → EvT K tt (inB ⟨s.g, s.h.set n (d, .fz u kvs)⟩ vs j (kW k)) (f i)) (he : ∀ (u : HO) (i : Nat) (k : Key) (w : W), kvs[i]? = some (k, w) → f i = true → Ev K te (inB ⟨s.g, s.h.set n (d, .fz u kvs)⟩ vs j (kW k)) (v i)) :
    EvFW K (tLockE (tLc (iKeys td) (gName j) tt te vs)) s (outs kvs.length f v) := fun B σ H Q S q => by
  obtain ⟨vs0, eH, d1, d2⟩ := S.hh.cell _ (List.mem_of_getElem? hn)
  refine ⟨d, .dK vs0, eH, True.intro, fun od => ?_⟩
  have C := cell_set (c' := .fz (.frz od (.dK vs0)) kvs) (o := .frz od (.dK vs0)) S hn ⟨rfl, od, vs0, rfl, d1, d2⟩
  have hk1 := hd (.frz od (.dK vs0))
  have hk2 := ht (.frz od (.dK vs0))
  have hk3 := he (.frz od (.dK vs0))
  generalize hu : HO.frz od (.dK vs0) = u at C hk1 hk2 hk3
  have S1 := C.1
  have hlv : vs0.length = kvs.length := by have := congrArg List.length d1; simpa using this
  refine hk1 B σ _ _ S1 fun v1 H2 e2 r2 => ?_
  cases (show v1 = V.ref d from r2)
  have S2 := S1.mono e2
  have hn2 : (s.h.set n (d, .fz u kvs))[n]? = some (d, .fz u kvs) := List.getElem?_set_self (List.getElem?_eq_some_iff.mp hn).1
  have hd0 : H2 d = some (.frz od (.dK vs0)) := by
    have := (S2.hh.cell _ (List.mem_of_getElem? hn2)).1
    rw [hu]; exact this
  refine ⟨d, od, rfl, .inl ⟨vs0, hd0, fun D nD => ?_⟩⟩
  refine lc_keys (fun i H' => CW K B ⟨s.g, s.h.set n (d, .fz u kvs)⟩ σ H2 D (outs i f v) H') (cw_start nD) (fun i H' c => c.1 _ _ hd0) (fun i k v2 H' hi c => ?_) (fun H' c => ?_)
  · have hkv : ∃ w, kvs[i]? = some (k, w) := by
      have h1 := congrArg (fun l => l[i]?) d1
      simp only [List.getElem?_map, hi] at h1
      cases hp : kvs[i]? with
      | none => rw [hp] at h1; cases h1
      | some p =>
        rw [hp] at h1
        have : k = p.1 := Option.some.inj h1
        exact ⟨p.2, by rw [this]⟩
    obtain ⟨w, hw⟩ := hkv
    have hlt : i < kvs.length := (List.getElem?_eq_some_iff.mp hw).1
    refine ⟨wipe_set hj, ?_⟩
    have hz : (outs i f v).length < sizeLine := Nat.lt_of_le_of_lt (outs_len i f v) (by rw [sizeLine_eq]; omega)
    have S3 : Sat K B ⟨(wipeG s.g vs).set j (some (kW k)), s.h.set n (d, .fz u kvs)⟩ ((wipe σ vs).set j (some (kV k))) H2 := ⟨S2.hh, (wipe_sat S2.gg vs).set (rk k) j⟩
    obtain ⟨e, acc, hD, r⟩ := c
    have S4 := cw_sat S3 nD e ⟨_, hD⟩
    exact cw_turn ⟨e, acc, hD, r⟩ S4 nD rfl hz (hk2 i k w hw) (hk3 i k w hw) (fun hb H2 c2 => by rw [outs_yes hb]; exact c2) (fun hb H2 c2 => by rw [outs_no hb]; exact c2)
  · rw [hlv] at c
    obtain ⟨e, acc, hD, r⟩ := c
    obtain ⟨c1, c2, c3⟩ := cell_new S2 e nD hD r
    have S5 : Sat K B ⟨s.g, (D, .lst (outs kvs.length f v)) :: s.h.set n (d, .fz u kvs)⟩ σ H' := ⟨c1, S2.gg.mono c3⟩
    have hn3 : ((D, Cell.lst (outs kvs.length f v)) :: s.h.set n (d, .fz u kvs))[n + 1]? = some (d, .fz u kvs) := hn2
    obtain ⟨_, od', vs', e', k1, k2⟩ := S5.hh.cell _ (List.mem_of_getElem? hn3)
    rw [← hu] at e'
    cases e'
    have C5 := cell_set (c' := .dic kvs) (o := .dK vs0) S5 hn3 ⟨_, rfl, k1, k2⟩
    have es : ((D, Cell.lst (outs kvs.length f v)) :: s.h.set n (d, .fz u kvs)).set (n + 1) (d, Cell.dic kvs) = (D, Cell.lst (outs kvs.length f v)) :: s.h := by
      rw [List.set_cons_succ, List.set_set]
      congr 1
      exact List.ext_getElem? fun i => by
        rw [List.getElem?_set]
        split
        · rename_i h; subst h; rw [if_pos (List.getElem?_eq_some_iff.mp hn).1, hn]
        · rfl
    have C6 : Sat K B ⟨s.g, (D, Cell.lst (outs kvs.length f v)) :: s.h⟩ σ (upd H' d (.dK vs0)) := by have := C5.1; rwa [es] at this
    have F6 : Fr ((D, Cell.lst (outs kvs.length f v)) :: s.h.set n (d, .fz u kvs)) H' ((D, Cell.lst (outs kvs.length f v)) :: s.h) (upd H' d (.dK vs0)) := by have := C5.2; rwa [es] at this
    exact ⟨by rw [← hu]; exact e _ _ hd0, q D _ C6 ((C.2.trans (Fr.of e2)).trans (c2.trans F6))⟩
/-! ### tests that change cells: what each of their ends leaves -/
def ETG (K : PySem.W.Frag) (tt : TT) (s : S) (k : Bool → Del → Prop) : Prop := ∀ (B : List Addr) (σ : L2.St) (H : Hp) (Q : Bool → Hp → Prop), Sat K B s σ H → (∀ b Δ' H', k b Δ' → Sat K B ⟨s.g, Δ'⟩ σ H' → Fr s.h H Δ' H' → Q b H') → tt σ H Q
variable {t u : TT} {k : Bool → Del → Prop}
theorem etg_w {b : Bool} (h : EvTW K t s b) (hk : k b s.h) : ETG K t s k := fun B σ H Q S q => h B σ H Q S fun H' S' f => q b s.h H' hk S' f
theorem etg_and (h : ETG K t s (fun b Δ1 => (b = false → k false Δ1) ∧ (b = true → ETG K u ⟨s.g, Δ1⟩ k))) : ETG K (tAnd t u) s k := fun B σ H Q S q => h B σ H _ S fun b Δ1 H1 kk S1 f1 => by
  cases b with
  | true => exact iteT (kk.2 rfl B σ H1 Q S1 fun b2 Δ2 H2 k2 S2 f2 => q b2 Δ2 H2 k2 S2 (f1.trans f2))
  | false => exact iteF (q false Δ1 H1 (kk.1 rfl) S1 f1)
theorem etg_or (h : ETG K t s (fun b Δ1 => (b = true → k true Δ1) ∧ (b = false → ETG K u ⟨s.g, Δ1⟩ k))) : ETG K (tOr t u) s k := fun B σ H Q S q => h B σ H _ S fun b Δ1 H1 kk S1 f1 => by
  cases b with
  | true => exact iteT (q true Δ1 H1 (kk.1 rfl) S1 f1)
  | false => exact iteF (kk.2 rfl B σ H1 Q S1 fun b2 Δ2 H2 k2 S2 f2 => q b2 Δ2 H2 k2 S2 (f1.trans f2))
theorem etg_not (h : ETG K t s (fun b Δ1 => k (!b) Δ1)) : ETG K (tNot t) s k := fun B σ H Q S q => h B σ H _ S fun b Δ1 H1 kk S1 f1 => q _ Δ1 H1 kk S1 f1
theorem etg_tb (h : EvG K (fun _ _ _ _ => True) te s (fun w Δ' => ∃ b, w = wb b ∧ k b Δ') (fun _ _ => False)) : ETG K (tTruthU K te) s k := fun B σ H Q S q => h B σ H _ S (fun w Δ' v H' kk S' f r => by
  obtain ⟨b, rfl, hk⟩ := kk
  cases rw_b r
  exact ⟨b, rfl, q b Δ' H' hk S' f⟩) fun _ _ _ z => z.elim
theorem hs_ifE (h : ETG K t s (fun b Δ' => (b = true → HS K E tu ⟨s.g, Δ'⟩ O) ∧ (b = false → HS K E tw ⟨s.g, Δ'⟩ O))) : HS K E (tIfS t tu tw) s O := fun B σ H D S q => h B σ H _ S fun b Δ' H' kk S' f => by
  cases b with
  | true => exact iteT (kk.1 rfl B σ H' D S' (q.step f))
  | false => exact iteF (kk.2 rfl B σ H' D S' (q.step f))
theorem hq_ifE (h : ETG K t s (fun b Δ' => (b = true → HS K E (tSeq tu tz) ⟨s.g, Δ'⟩ O) ∧ (b = false → HS K E (tSeq tw tz) ⟨s.g, Δ'⟩ O))) : HS K E (tSeq (tIfS t tu tw) tz) s O := fun B σ H D S q => h B σ H _ S fun b Δ' H' kk S' f => by
  cases b with
  | true => exact iteT (kk.1 rfl B σ H' D S' (q.step f))
  | false => exact iteF (kk.2 rfl B σ H' D S' (q.step f))
end
end DL

namespace DL
open PySem PySem.Spec PyProof.Rows L2 TL
section
variable {K : PySem.W.Frag} {s s1 s' : S} {ta tb te tl : TE} {tr : TA} {tt : TT} {x y z w : W} {B : List Addr} {H H' : Hp} {σ : L2.St} {E : L2.St → XK} {O : Out} {t1 t2 tz tu tw : L2.TS} {g : TG}
theorem isn_o {a : Addr} : ∀ (M : Hp) v, RW K M v (.o a) → decide (v = .non) = false := fun M v r => by
  cases r
  exact decide_eq_false fun z => by cases z
/-- the rest of a loop over a list, once the list is there -/
theorem hs_forLR {M : S → Prop} (h : EvR K E tl s (fun x => ∃ (xs : List W) (I : Nat → S → Prop), Wk (I 0) s ∧ (∀ i s', I i s' → LV s' x xs) ∧
    (∀ i u s', xs[i]? = some u → I i s' → ∃ s1, GS K g u s' s1 ∧ HS K E tu s1 { O with n := Wk (I (i + 1)), c := Wk (I (i + 1)), b := Wk M }) ∧ (∀ s', I xs.length s' → M s')) (fun c => O.x c s)) : HS K E (tFor (iList K tl) g tu) s { O with n := M } := fun B σ H D S q =>
  h B σ H _ S (fun x v H1 kk e1 r1 => by
    obtain ⟨xs, I, h0, l, hb, hd⟩ := kk
    have S1 := S.mono e1
    have q1 := q.step (Fr.of e1 (Δ := s.h))
    obtain ⟨G0, hI0, lG⟩ := h0
    have Sw : Sat K B ⟨G0, s.h⟩ σ H1 := ⟨S1.hh, lG.sat S1.gg⟩
    obtain ⟨a, vs0, rfl, g0, _⟩ := (l 0 _ hI0).get Sw r1
    refine ⟨a, rfl, ⟨vs0, g0⟩, fun i m σ' H' => m = xs.length - i ∧ i ≤ xs.length ∧ ∃ s', I i s' ∧ Sat K B s' σ' H' ∧ Fr s.h H1 s'.h H', ⟨xs.length, by simp, Nat.zero_le _, ⟨G0, s.h⟩, hI0, Sw, Fr.refl⟩, ?_⟩
    rintro i m σ' H' ⟨rfl, hi, s', hI, S', f⟩
    have r' : RW K (msk H' (ads s'.h ++ B)) (.ref a) x := rw_mono' _ _ _ f.msk r1
    obtain ⟨a', vs, ea, gv, rv⟩ := (l i s' hI).get S' r'
    cases ea
    by_cases hlt : i < xs.length
    · obtain ⟨y, hy, ry⟩ := rv.get (List.getElem?_eq_getElem hlt)
      refine .inr ⟨⟨vs, y, gv, hy⟩, fun σ2 H2 => ∃ s', I (i + 1) s' ∧ Sat K B s' σ2 H2 ∧ Fr s.h H1 s'.h H2, fun σ2 H2 n2 => ⟨xs.length - (i + 1), by omega, rfl, hlt, n2⟩, fun y' H2 yy => ?_⟩
      obtain ⟨e, yy⟩ := yy
      subst e
      have ey : y' = y := Option.some.inj ((yy vs gv).symm.trans hy)
      subst ey
      obtain ⟨s1, hg, hbody'⟩ := hb i _ s' (List.getElem?_eq_getElem hlt) hI
      have hbody := hs_wk (O := { O with n := I (i + 1), c := I (i + 1), b := M }) hbody'
      refine hg B σ' _ y' _ S' ry fun σ2 H3 S2 f2 => ?_
      have f3 : Fr s.h H1 s1.h H3 := f.trans f2
      exact hbody B σ2 H3 _ S2 ⟨fun s3 σ3 H4 m3 S3 f4 => ⟨s3, m3, S3, f3.trans f4⟩, fun w Δ' v H4 r S3 f4 rr => q1.r w Δ' v H4 r S3 (f3.trans f4) rr, fun s3 σ3 H4 m3 S3 f4 => q1.n s3 σ3 H4 m3 S3 (f3.trans f4), fun s3 σ3 H4 m3 S3 f4 => ⟨s3, m3, S3, f3.trans f4⟩, fun c s3 σ3 H4 xx S3 f4 => q1.x c s3 σ3 H4 xx S3 (f3.trans f4)⟩
    · have e : i = xs.length := by omega
      subst e
      exact .inl ⟨⟨vs, gv, by rw [rv.len]; exact Nat.le_refl _⟩, q1.n s' σ' H' (hd s' hI) S' f⟩) fun c H1 hx e1 => q.x c s σ H1 hx (S.mono e1) (Fr.of e1)
end
end DL

namespace DL
open PySem PySem.Spec PyProof.Rows L2 TL
/-! ### errors whose context is None: what an except suite that raises asks of the try's body -/
section
variable {X : Cx} {W Wv : WX} {P : Program} {w : World} {K : PySem.W.Frag} {mg : Str → Option Value} {base : Heap} {A : Around} {k j : Nat} {C : Addr} {ps : List Str} {tr : Tr} {ta : TA}
theorem sky_n {B h : Heap} {l : List Env} {a L : Addr} {cls : Value} {d : Option Addr} (s : Sky B l a (L2N.Zn cls d) L h) : Sky B l a (Zc cls d) L h := by
  rcases s with ⟨h1, h2, h3, oe, vs, h4, h5, h6⟩ | h1 | ⟨h1, h2, h3, h4⟩
  · exact .inl ⟨h1, h2, h3, oe, vs, h4, h5.zc, h6⟩
  · exact .inr (.inl (L2H.flyingZ_imp (fun _ z => z.zc) h1))
  · exact .inr (.inr ⟨h1, h2, h3, L2H.tracedZ_imp (fun _ z => z.zc) h4⟩)
theorem takes_n (t : L2.Takes X W) : L2N.Takes X W := fun u s' ⟨a, B, sI, pins, σ, H, cls, d, e, I, nb, up, sky, r⟩ => t u s' ⟨a, B, sI, pins, σ, H, cls, d, e, I, nb, up, sky_n sky, r⟩
theorem fn_okN {x qual : Str} {st : Stmt} {f : Addr} {fd : FuncData} {N : List Str} {t : Tr} (F : Fun K x qual st f fd) (S : FnScope N ps (defScope st)) (len : ∀ xs Δ k ex, t xs Δ k ex → xs.length = ps.length)
    (hb : ∀ (cdv : Value) (A : Around) (outer : List Env) (s : Shared) (H : Hp) (E : XK), Room k (A.deeper (envOfC qual (defScope st) s.heap.objs.size f cdv)) →
      ∃ ts, PSs (cxOf (L2N.CX P w) P w K mg base N qual (defScope st) f cdv A outer s H E) (defBody st) ts ∧ ∀ xs Δ k ex, t xs Δ k ex → HS K (fun _ => E) ts ⟨xs.map some ++ List.replicate (N.length - xs.length) none, Δ⟩ { n := fun s' => k wn s'.h, r := k, x := fun c s' => ex c s'.h }) :
    FnOk P w K mg base (L2N.CX P w) (k + 1) f fd ps (spOf K t) := by
  obtain ⟨oc, od, kV, doc, pm, an, cdv, ct, osl, rfl, lk, hcd⟩ := F.ex
  refine fn_of lk hcd S (fun vs H Q E h => ?_) fun A outer s H vs Q E hr h => ?_
  · obtain ⟨B, xs, Δ, k, ex, sh, r, ht, _⟩ := h
    rw [r.len]; exact len _ _ _ _ ht
  · obtain ⟨ts, hp, hs⟩ := hb cdv A outer s H E hr
    exact ⟨ts, hp, body_ok (fun xs Δ k ex ht _ => hs xs Δ k ex ht) h⟩
theorem kn_ofN {x : Str} {st : Stmt} {f : Addr} {fd : FuncData} {N : List Str} {t : Tr} (F : Fun K x x st f fd) (hg : mg x = some (.ref f)) (hb : Binds K fd ps []) (S : FnScope N ps (defScope st)) (len : ∀ xs Δ k ex, t xs Δ k ex → xs.length = ps.length)
    (h : ∀ (cdv : Value) (A : Around) (outer : List Env) (s : Shared) (H : Hp) (E : XK), Room k (A.deeper (envOfC x (defScope st) s.heap.objs.size f cdv)) →
      ∃ ts, PSs (cxOf (L2N.CX P w) P w K mg base N x (defScope st) f cdv A outer s H E) (defBody st) ts ∧ ∀ xs Δ k ex, t xs Δ k ex → HS K (WE (fun cls d _ H => E cls d H)) ts ⟨xs.map some ++ List.replicate (N.length - xs.length) none, Δ⟩ { n := fun s' => k wn s'.h, r := k, x := fun c s' => ex c s'.h }) :
    Kn P w K mg base (L2N.CX P w) (k + 1) x ps t := ⟨f, fd, fn_okN F S len h, hg, F.kp, hb⟩
theorem ki_ofN {q : Str} {x m : Str} {C : Addr} {st : Stmt} {f : Addr} {fd : FuncData} {N : List Str} {t : Tr} (F : Fun K m q st f fd) (hm : Mk K C f) (hg : mg x = some (.ref C)) (hb : Binds K fd ps []) (S : FnScope N ps (defScope st)) (len : ∀ xs Δ k ex, t xs Δ k ex → xs.length = ps.length)
    (h : ∀ (cdv : Value) (A : Around) (outer : List Env) (s : Shared) (H : Hp) (E : XK), Room k (A.deeper (envOfC q (defScope st) s.heap.objs.size f cdv)) →
      ∃ ts, PSs (cxOf (L2N.CX P w) P w K mg base N q (defScope st) f cdv A outer s H E) (defBody st) ts ∧ ∀ xs Δ k ex, t xs Δ k ex → HS K (fun _ => E) ts ⟨xs.map some ++ List.replicate (N.length - xs.length) none, Δ⟩ { n := fun s' => k wn s'.h, r := k, x := fun c s' => ex c s'.h }) :
    KnI P w K mg base (L2N.CX P w) (k + 1) x C ps t := ⟨f, fd, fn_okN F S len h, hm, hb, hg⟩
variable {x m : Str} {i : Nat} {p p2 pos pos' : Pos} {e : Expr} {es : List Expr}
theorem ps_raiseDN (hc : X.calm = true) (tk : L2N.Takes X Wv) (T : Exc K mg x C) (hX : X.mg = mg := by rfl) (hK : X.K = K := by rfl) (hg : Gl X x := by rfl) (hdb : (x == ("__debug__" : Str)) = false := by decide) :
    PS X (.Raise (some (.Call (.Name x p) [.Constant (.str m) i p2] [] pos')) none pos) (tRaiseD (WE Wv) C) := by
  subst hX hK
  exact L2N.ps_raise hc tk (L2N.pmk_own PySem.F.excBase_ValueError T.q T.g T.k (raises_own T.b T.t) hg hdb)
theorem pe_knN (h : Kn P w K mg base (L2N.CX P w) k x ps tr) (hr : Room j A) (hj : k ≤ j) (ha : PA X (e :: es) ta) (tk : L2N.Takes X Wv) (hA : X.A = A := by rfl) (hX : At X P w K mg base := by exact ⟨rfl, rfl, rfl, rfl, rfl⟩) (hg : Gl X x := by rfl) (hdb : (x == ("__debug__" : Str)) = false := by decide)
    (he : starEach (e :: es) X.env = (false, eval e X.env) :: starEach es X.env := by rfl) (hpl : (backTo pos (starEach es X.env)).any (·.1) = false := by rfl) : PE X (.Call (.Name x p) (e :: es) [] pos) (tCallS (spOf K tr) (WE Wv) ta) := by
  obtain ⟨f, fd, F, hm, hk, hb⟩ := h
  obtain ⟨rfl, rfl, rfl, rfl, rfl⟩ := hX
  subst hA
  exact pe_callS F (hr.mono hj) hg hm hk hb (fun σ => L2N.passAt tk σ) ha hdb he hpl
theorem pe_kiN (h : KnI P w K mg base (L2N.CX P w) k x C ps tr) (hr : Room j A) (hj : k + 1 ≤ j) (ha : PA X (e :: es) ta) (tk : L2N.Takes X Wv) (hA : X.A = A := by rfl) (hX : At X P w K mg base := by exact ⟨rfl, rfl, rfl, rfl, rfl⟩) (hg : Gl X x := by rfl)
    (hdb : (x == ("__debug__" : Str)) = false := by decide) (he : starEach (e :: es) X.env = (false, eval e X.env) :: starEach es X.env := by rfl) (hpl : (backTo pos (starEach es X.env)).any (·.1) = false := by rfl) :
    PE X (.Call (.Name x p) (e :: es) [] pos) (tMakeS C (spOf K tr) (WE Wv) ta) := by
  obtain ⟨f, fd, F, M, hb, hm⟩ := h
  obtain ⟨rfl, rfl, rfl, rfl, rfl⟩ := hX
  subst hA
  exact pe_makeS M F (hr.mono hj) hg hm hb (fun σ => L2N.passAt tk σ) ha hdb he hpl
/-- C('m') of an own class, told with the room of its record -/
theorem pmk5_own (T : Exc X.K X.mg x C) (hg : Gl X x) (hdb : (x == ("__debug__" : Str)) = false := by decide) : L2H.PMk5 X (.Call (.Name x p) [.Constant (.str m) i p2] [] pos) (fun _ H Q => Q (.ref C) none H) := fun pins s σ H Q I q => by
  refine wpAny_Call_Name_kw (ld_glob I hg T.g ?_ hdb)
  refine PySem.W.callWith_K (h₀ := X.base) I.ok.mod.kin T.k (thn ((pa_cons pe_str pa_nil : PA X [.Constant (.str m) i p2] (tCons (tC (.str m)) tNil)).run pos pins s σ H (fun vs H1 => H1 = H ∧ vs = [V.str m]) I ⟨rfl, rfl⟩) ?_)
  rintro us s1 ⟨vs, H1, I1, r, rfl, rfl⟩
  refine ⟨I1.kIn, ?_⟩
  obtain ⟨u, rfl⟩ : ∃ u, us = [u] := by
    cases r with
    | cons a b => cases b; exact ⟨_, rfl⟩
  obtain ⟨bm, N, nm, qn, bs, hd, sn, sub, ab, col, dd, k0, k1, k2, k3, k5, mN, hC, hN, hn, TT⟩ := exc_obj I1.kIn T.q
  show wpAny _ _ (call (.ref C) [u]) _ _ _
  exact wpAny_call_exc_subT PySem.F.excBase_ValueError TT hC hN hn (fun h' e' hm => L2H.mk_of5 I1 hm (raises_own T.b T.t) q (I1.hok.gone hm.new)) (by rw [sizeLine_eq]; show 1 ≤ _; omega)
theorem ps_raiseHND {jn : Nat} {cpos : Pos} (hot : L2H.HotC X) (tk : L2.Takes X Wv) (T : Exc K mg x C) (hX : X.mg = mg := by rfl) (hK : X.K = K := by rfl) (hg : Gl X x := by rfl) (hdb : (x == ("__debug__" : Str)) = false := by decide) :
    PS X (.Raise (some (.Call (.Name x p) [.Constant (.str m) i p2] [] pos')) (some (.Constant .none jn cpos)) pos) (tRaiseD (WE Wv) C) := by
  subst hX hK
  exact L2H.ps_raiseHN hot tk (pmk5_own T hg hdb)
end
section
variable {X : Cx} {x : Str} {c : Value} {body suite : List Stmt} {b₀ : Stmt} {np pos pos' : Pos} {tb : WX → L2.TS} {ts : Addr → Value → Option Addr → L2.TS} {Wout : WX} {K : PySem.W.Frag} {s : S} {E : L2.St → XK} {O : Out}
theorem ps_try_onlyXD (hs : X.stack = X.env :: X.outer) (hf : X.env.frame = some X.env.locals) (hc : Names X x c) (hpa : ∀ hd : Option Value, PassesOwnAt (model X.prog X.w) (X.A.mark hd) X.A X.env X.xe) (tk : L2.Takes X Wout)
    (hb : ∀ (W : WX) (pn : List (Addr × Obj)) (xe : Value → Shared → Prop), L2N.Takes (X.tr pn xe) W → PassesOwn (model X.prog X.w) X.A X.env xe → PSs (X.tr pn xe) body (tb W))
    (hsu : ∀ (a : Addr) (oe : Obj) (cls : Value) (d : Option Addr) (pn : List (Addr × Obj)), L2.Takes (L2H.suiteX X a ((a, oe) :: pn)) Wout → L2H.HotC (L2H.suiteX X a ((a, oe) :: pn)) → PSs (L2H.suiteX X a ((a, oe) :: pn)) (b₀ :: suite) (ts a cls d)) :
    PS X (.Try body [.ExceptHandler (some (.Name x np)) none (b₀ :: suite) pos'] [] [] pos) (tTryOnly X.K c tb ts Wout) := L2H.ps_try_onlyX hs hf hc hpa tk (fun W pn xe t _ hp => hb W pn xe t hp) fun a oe cls d pn _ _ t h => hsu a oe cls d pn t h
/-- the same, its suite may raise -/
theorem hs_tryOnlyX {cx : Value} (Xb : Value → S → Prop)
    (hb : ∀ Wv : WX, HS K (WE Wv) (tb Wv) s { O with x := Xb })
    (hs : ∀ c s', Xb c s' → ∃ b, PySem.W.exmOne K c cx = some b ∧ (b = true → ∀ a, HS K (WE Wout) (ts a c none) s' O) ∧ (b = false → O.x c s')) :
    HS K (WE Wout) (tTryOnly K cx tb ts Wout) s O := fun B σ H D S q =>
  hb (wOnly K cx ts Wout D) B σ H D S ⟨q.n, q.r, q.b, q.c, fun c s' σ' H' hx S' f => by
    obtain ⟨b, e, h1, h2⟩ := hs c s' hx
    exact ⟨b, e, fun hb a ha => h1 hb a B σ' H' _ S' (q.step f), fun hb => q.x c s' σ' H' (h2 hb) S' f⟩⟩
end
end DL

namespace DL
open PySem PySem.Spec PyProof.Rows L2 TL HotX
/-! ### loops over lists and texts within an except suite -/
section
variable {prog : Program} {w : World} {A : Around} {E : Value → Shared → Prop} {s : Shared}
theorem pyNext_list_end_hot {Q : Option Value → Shared → Prop} {it x1 : Addr} (hot : HotAt A x1 s.heap) (hne : x1 ≠ it) {l : Addr} {i : Nat} {items : Array Value} (hit : s.heap.IsListIter it l i) (hl : s.heap.IsList l items) (hx : items[i]? = none)
    (hQ : ∀ h', (∀ b o, b ≠ it → s.heap.get? b = some o → h'.get? b = some o) → Q none { s with heap := h' }) : wpAny (model prog w) A (pyNext (.ref it)) Q E s := by
  obtain ⟨o, ho, hc, hd⟩ := id hit
  obtain ⟨ol, hol, _, nl, hdl⟩ := hl
  obtain ⟨hh, o1, vs1, h1, d1, c1⟩ := hot
  unfold pyNext
  refine wpAny_bind (wpAny_attempt (wpAny_callSpecial?_slot (name := Str.ofString "__next__") hit.typeIs slot_listiter_next
    (wpAny_call_entry slot_listiter_next hit.typeIs entry_listiter_next ?_ (args_listiter_next _))))
  show wpAny _ _ (field (.ref it) 0 >>= _) _ _ s
  refine wpAny_bind (wpAny_field ho hd (x := .ref l) rfl ?_)
  show wpAny _ _ (if (Value.ref l == Value.none) = true then _ else _) _ _ s
  rw [if_neg (show ¬ ((Value.ref l == Value.none) = true) from Bool.false_ne_true)]
  show wpAny _ _ (field (.ref it) 1 >>= _) _ _ s
  refine wpAny_bind (wpAny_field ho hd (x := .int i 0) rfl ?_)
  show wpAny _ _ (seqItems? (.ref l) >>= _) _ _ s
  refine wpAny_bind (wpAny_seqItems hol hdl ?_)
  simp only [Int.toNat_natCast, hx]
  refine wpAny_bind (wpAny_rule (wpAny_bind (wpAny_setField ho hd (by simp) ?_)))
  show wpAny _ _ (newExc (.type "StopIteration") [] >>= _) _ _ _
  refine wpAny_bind ?_
  simp only [newExc, newTuple]
  refine wpAny_bind (wpAny_newObj_type ?_ (by size_fits))
  refine wpAny_bind (m := firstArgMember _ _) (wpAny_of_eq (a := Value.none) (by first | rfl | (simp only [firstArgMember]; rfl)) ?_)
  refine wpAny_newObj_type ?_ (by size_fits)
  refine raiseNew_hot ⟨hh, o1, vs1, Heap.get?_push_of_some _ (Heap.get?_push_of_some _ ((Heap.get?_update_other s.heap _ (Ne.symm hne)).trans h1)), d1, c1⟩ (Nat.ne_of_lt (Heap.lt_size (Heap.get?_push_of_some _ ((Heap.get?_update_other s.heap _ (Ne.symm hne)).trans h1)))) (Heap.get?_push_size _ rfl) rfl (by first | (simp; done) | (simp; omega) | (simp only [Array.size_append]; simp; omega)) ?_
  refine wpAny_bind (wpAny_isInstance (T := "StopIteration") (b := true) ⟨_, Heap.get?_update_self _ (Heap.get?_push_size _ rfl) rfl, rfl⟩ isSubtype_stop ?_)
  refine wpAny_pure (hQ _ fun b o hb e => ?_)
  have e2 := (Heap.get?_update_other s.heap (Obj.mapFields (·.setIfInBounds 0 Value.none)) (Ne.symm hb)).trans e
  rw [Heap.get?_update_other _ _ (Nat.ne_of_gt (Heap.lt_size (Heap.get?_push_of_some _ e2)))]
  exact Heap.get?_push_of_some _ (Heap.get?_push_of_some _ e2)
theorem pyNext_ascii_end_hot {Q : Option Value → Shared → Prop} {it x1 : Addr} (hot : HotAt A x1 s.heap) (hne : x1 ≠ it) {x : Str} {t : Tok} {i : Nat} (hit : s.heap.IsStrIter it "str_ascii_iterator" x t i) (hx : x.cps[i]? = none)
    (hQ : ∀ h', (∀ b o, b ≠ it → s.heap.get? b = some o → h'.get? b = some o) → Q none { s with heap := h' }) : wpAny (model prog w) A (pyNext (.ref it)) Q E s := by
  obtain ⟨o, ho, hc, hd⟩ := id hit

  obtain ⟨hh, o1, vs1, h1, d1, c1⟩ := hot
  unfold pyNext
  refine wpAny_bind (wpAny_attempt (wpAny_callSpecial?_slot (name := Str.ofString "__next__") hit.typeIs F.slot_str_ascii_iterator_next
    (wpAny_call_entry F.slot_str_ascii_iterator_next hit.typeIs F.entry_str_ascii_iterator_next ?_ (F.args_str_ascii_iterator_next_1 _))))
  show wpAny _ _ (field (.ref it) 0 >>= _) _ _ s
  refine wpAny_bind (wpAny_field ho hd (x := .str x t) rfl ?_)
  show wpAny _ _ (field (.ref it) 1 >>= _) _ _ s
  refine wpAny_bind (wpAny_field ho hd (x := .int i 0) rfl ?_)
  simp only [Int.toNat_natCast, hx]
  refine wpAny_bind (wpAny_rule (wpAny_bind (wpAny_setField ho hd (by simp) (wpAny_bind (wpAny_letGo ?_)))))
  show wpAny _ _ (newExc (.type "StopIteration") [] >>= _) _ _ _
  refine wpAny_bind ?_
  simp only [newExc, newTuple]
  refine wpAny_bind (wpAny_newObj_type ?_ (by size_fits))
  refine wpAny_bind (m := firstArgMember _ _) (wpAny_of_eq (a := Value.none) (by first | rfl | (simp only [firstArgMember]; rfl)) ?_)
  refine wpAny_newObj_type ?_ (by size_fits)
  refine raiseNew_hot ⟨hh, o1, vs1, Heap.get?_push_of_some _ (Heap.get?_push_of_some _ ((Heap.get?_update_other s.heap _ (Ne.symm hne)).trans h1)), d1, c1⟩ (Nat.ne_of_lt (Heap.lt_size (Heap.get?_push_of_some _ ((Heap.get?_update_other s.heap _ (Ne.symm hne)).trans h1)))) (Heap.get?_push_size _ rfl) rfl (by first | (simp; done) | (simp; omega) | (simp only [Array.size_append]; simp; omega)) ?_
  refine wpAny_bind (wpAny_isInstance (T := "StopIteration") (b := true) ⟨_, Heap.get?_update_self _ (Heap.get?_push_size _ rfl) rfl, rfl⟩ isSubtype_stop ?_)
  refine wpAny_pure (hQ _ fun b o hb e => ?_)
  have e2 := (Heap.get?_update_other s.heap (Obj.mapFields (·.setIfInBounds 0 Value.none)) (Ne.symm hb)).trans e
  rw [Heap.get?_update_other _ _ (Nat.ne_of_gt (Heap.lt_size (Heap.get?_push_of_some _ e2)))]
  exact Heap.get?_push_of_some _ (Heap.get?_push_of_some _ e2)
theorem pyNext_wide_end_hot {Q : Option Value → Shared → Prop} {it x1 : Addr} (hot : HotAt A x1 s.heap) (hne : x1 ≠ it) {x : Str} {t : Tok} {i : Nat} (hit : s.heap.IsStrIter it "str_iterator" x t i) (hx : x.cps[i]? = none)
    (hQ : ∀ h', (∀ b o, b ≠ it → s.heap.get? b = some o → h'.get? b = some o) → Q none { s with heap := h' }) : wpAny (model prog w) A (pyNext (.ref it)) Q E s := by
  obtain ⟨o, ho, hc, hd⟩ := id hit

  obtain ⟨hh, o1, vs1, h1, d1, c1⟩ := hot
  unfold pyNext
  refine wpAny_bind (wpAny_attempt (wpAny_callSpecial?_slot (name := Str.ofString "__next__") hit.typeIs F.slot_str_iterator_next
    (wpAny_call_entry F.slot_str_iterator_next hit.typeIs F.entry_str_iterator_next ?_ (F.args_str_iterator_next_1 _))))
  show wpAny _ _ (field (.ref it) 0 >>= _) _ _ s
  refine wpAny_bind (wpAny_field ho hd (x := .str x t) rfl ?_)
  show wpAny _ _ (field (.ref it) 1 >>= _) _ _ s
  refine wpAny_bind (wpAny_field ho hd (x := .int i 0) rfl ?_)
  simp only [Int.toNat_natCast, hx]
  refine wpAny_bind (wpAny_rule (wpAny_bind (wpAny_setField ho hd (by simp) (wpAny_bind (wpAny_letGo ?_)))))
  show wpAny _ _ (newExc (.type "StopIteration") [] >>= _) _ _ _
  refine wpAny_bind ?_
  simp only [newExc, newTuple]
  refine wpAny_bind (wpAny_newObj_type ?_ (by size_fits))
  refine wpAny_bind (m := firstArgMember _ _) (wpAny_of_eq (a := Value.none) (by first | rfl | (simp only [firstArgMember]; rfl)) ?_)
  refine wpAny_newObj_type ?_ (by size_fits)
  refine raiseNew_hot ⟨hh, o1, vs1, Heap.get?_push_of_some _ (Heap.get?_push_of_some _ ((Heap.get?_update_other s.heap _ (Ne.symm hne)).trans h1)), d1, c1⟩ (Nat.ne_of_lt (Heap.lt_size (Heap.get?_push_of_some _ ((Heap.get?_update_other s.heap _ (Ne.symm hne)).trans h1)))) (Heap.get?_push_size _ rfl) rfl (by first | (simp; done) | (simp; omega) | (simp only [Array.size_append]; simp; omega)) ?_
  refine wpAny_bind (wpAny_isInstance (T := "StopIteration") (b := true) ⟨_, Heap.get?_update_self _ (Heap.get?_push_size _ rfl) rfl, rfl⟩ isSubtype_stop ?_)
  refine wpAny_pure (hQ _ fun b o hb e => ?_)
  have e2 := (Heap.get?_update_other s.heap (Obj.mapFields (·.setIfInBounds 0 Value.none)) (Ne.symm hb)).trans e
  rw [Heap.get?_update_other _ _ (Nat.ne_of_gt (Heap.lt_size (Heap.get?_push_of_some _ e2)))]
  exact Heap.get?_push_of_some _ (Heap.get?_push_of_some _ e2)
end
section
variable {P : Program} {w : World} {K : PySem.W.Frag} {tg : Expr}
theorem turn_listH (a it : Addr) : L2H.TurnH P w K tg (Itl K a) [it] it (fun i h => h.IsListIter it a i) where
  mem := by simp
  obj := fun i h st b hb => by
    have e : b = it := by simpa using hb
    subst e
    obtain ⟨o, e, c, d⟩ := st
    exact ⟨o, e, fun v z => by rw [d] at z; cases z⟩
  keep := fun i h h' st k => st.at fun o e => k it (by simp) o e
  item := by
    intro X hP hw hK hc i pins s σ H E I hf st hg
    subst hP hw hK
    obtain ⟨xs, x, hq, hx⟩ := hg
    obtain ⟨its, rv, p, hz⟩ := I.list hq
    obtain ⟨u, hu, ru⟩ := rv.get hx
    obtain ⟨f0, f1, f2, f3, f4, f5⟩ := hf it (by simp)
    refine wpAny_pyNext_list_item st p.isList (x := u) (by simpa using hu) fun h' st' sb => ?_
    have I1 : Inv X pins σ H { s with heap := h' } := I.turned (t' := s.toks) (fun b o hb e => (sb.2 b hb).trans e) f0 f1 f3 f4 f5
    obtain ⟨o, e, c, d⟩ := id st'
    exact ⟨u, rfl, go_of (s := { s with heap := h' }) e c d (by decide) ⟨x, H, I1, ru, ⟨rfl, fun ys hy => by rw [I.list_inj hy hq]; exact hx⟩, st', fun b hb => (hf b hb).1⟩⟩
  done := by
    intro X hP hw hK hc i pins s σ H E I hf st hg
    subst hP hw hK
    obtain ⟨xs, hq, hx⟩ := hg
    obtain ⟨its, rv, p, hz⟩ := I.list hq
    obtain ⟨f0, f1, f2, f3, f4, f5⟩ := hf it (by simp)
    have hl := rv.length
    obtain ⟨pp, ⟨hh, v1, e1, c1⟩, hp⟩ := hc
    have hne : pp.1 ≠ it := f5 pp (List.mem_append_left _ hp)
    exact pyNext_list_end_hot ⟨hh, pp.2, v1, (I.pin pp (List.mem_append_left _ hp)).1, e1, c1⟩ hne st p.isList (by simp; omega) fun h' eb => ⟨rfl, I.turned (t' := s.toks) eb f0 f1 f3 f4 f5⟩
  self := fun _ _ _ _ _ st h => wpAny_pyIter_listiter st h
theorem turn_strH (it : Addr) (x : Str) (t : Tok) (ty : String) (hty : ty = "str_ascii_iterator" ∨ ty = "str_iterator") :
    L2H.TurnH P w K tg (Its x) [it] it (fun i h => h.IsStrIter it ty x t i) where
  mem := by simp
  obj := fun i h st b hb => by
    have e : b = it := by simpa using hb
    subst e
    obtain ⟨o, e, c, d⟩ := st
    exact ⟨o, e, fun v z => by rw [d] at z; cases z⟩
  keep := fun i h h' st k => let ⟨o, ho, r⟩ := st; ⟨o, k it (by simp) o ho, r⟩
  item := by
    intro X hP hw hK hc i pins s σ H E I hf st hg
    subst hP hw hK
    obtain ⟨f0, f1, f2, f3, f4, f5⟩ := hf it (by simp)
    have hi : i < x.cps.size := hg
    have hno : ["enumerate", "zip", "dict_itemiterator", "dict_reverseitemiterator", "odict_iterator", "itertools.zip_longest", "itertools.pairwise"].contains ty = false := by
      rcases hty with e | e
      · rw [e]; decide
      · rw [e]; decide
    have hx : x.cps[i]? = some x.cps[i] := Array.getElem?_eq_getElem hi
    have fin : ∀ h', h'.IsStrIter it ty x t (i + 1) → Heap.SameBut it s.heap h' → ∃ u, (some (Value.str ⟨#[x.cps[i]]⟩ s.toks) : Option Value) = some u ∧
        wpAny (model X.prog X.w) X.A (letOwnedTupleGo tg (.ref it) u) (fun _ s2 => ∃ y H', Inv X pins σ H' s2 ∧ RelV y u ∧ (Its x).yld i H y H' ∧ s2.heap.IsStrIter it ty x t (i + 1) ∧ ∀ b ∈ [it], H' b = none) E { s with heap := h', toks := s.toks + 1 } := fun h' st' sb => by
      have I1 : Inv X pins σ H { s with heap := h', toks := s.toks + 1 } := I.turned (fun b o hb e => (sb.2 b hb).trans e) f0 f1 f3 f4 f5
      obtain ⟨oi, e, cc, dd⟩ := id st'
      exact ⟨_, rfl, go_of (s := { s with heap := h', toks := s.toks + 1 }) e cc dd hno ⟨.str ⟨#[x.cps[i]]⟩, H, I1, ⟨s.toks, rfl⟩, ⟨rfl, _, hx, rfl⟩, st', fun b hb => (hf b hb).1⟩⟩
    rcases hty with e | e
    · subst e
      exact wpAny_pyNext_ascii_item st hx fun h' st' sb => fin h' st' sb
    · subst e
      exact wpAny_pyNext_wide_item st hx fun h' st' sb => fin h' st' sb
  done := by
    intro X hP hw hK hc i pins s σ H E I hf st hg
    subst hP hw hK
    obtain ⟨f0, f1, f2, f3, f4, f5⟩ := hf it (by simp)
    have hx : x.cps[i]? = none := Array.getElem?_eq_none hg
    obtain ⟨pp, ⟨hh, v1, e1, c1⟩, hp⟩ := hc
    have hne : pp.1 ≠ it := f5 pp (List.mem_append_left _ hp)
    rcases hty with e | e
    · rw [e] at st
      exact pyNext_ascii_end_hot ⟨hh, pp.2, v1, (I.pin pp (List.mem_append_left _ hp)).1, e1, c1⟩ hne st hx fun h' eb => ⟨rfl, I.turned (t' := s.toks) eb f0 f1 f3 f4 f5⟩
    · rw [e] at st
      exact pyNext_wide_end_hot ⟨hh, pp.2, v1, (I.pin pp (List.mem_append_left _ hp)).1, e1, c1⟩ hne st hx fun h' eb => ⟨rfl, I.turned (t' := s.toks) eb f0 f1 f3 f4 f5⟩
  self := fun A i s Q E st h => by
    rcases hty with e | e
    · rw [e] at st; exact wpAny_pyIter_striter_ascii st h
    · rw [e] at st; exact wpAny_pyIter_striter_wide st h
end
section
variable {X : Cx} {tg e l : Expr} {te tl : TE}
theorem pi_listH (hl : PE X l tl) : L2H.PIH X tg l (iList X.K tl) := by
  refine ⟨fun pins s σ H R I h => ?_⟩
  refine thn (hl.run pins s σ H _ I h) fun v s1 ⟨x, H1, I1, r1, q1⟩ => ?_
  obtain ⟨a, e, ⟨xs, hq⟩, q⟩ := q1
  subst e
  cases r1
  obtain ⟨its, rv, p, hz⟩ := I1.list hq
  refine wpAny_pyIter_list p.isList ?_
  refine ⟨s1.heap.objs.size, [s1.heap.objs.size], _, _, H1, rfl, I1.kept (t' := s1.toks) fun b o e => Heap.get?_push_of_some _ e, turn_listH a _, ⟨_, Heap.get?_push_size _ rfl, rfl, rfl⟩, fun b hb => ?_, q⟩
  have e : b = s1.heap.objs.size := by simpa using hb
  subst e
  exact I1.fpOk (Nat.le_refl _) (I1.hok.fresh (Nat.le_refl _))
theorem pi_listHK (K : PySem.W.Frag) (hl : PE X l tl) (hK : X.K = K := by rfl) : L2H.PIH X tg l (iList K tl) := hK ▸ pi_listH hl
theorem pi_strH (he : PE X e te) : L2H.PIH X tg e (iStr te) := by
  refine ⟨fun pins s σ H R I h => ?_⟩
  refine thn (he.run pins s σ H _ I h) fun v s1 ⟨y, H1, I1, r1, x, ex, q⟩ => ?_
  subst ex
  obtain ⟨t, rfl⟩ := r1
  cases ha : x.cps.all (· < 128)
  · refine wpAny_pyIter_wide ha ?_
    refine ⟨s1.heap.objs.size, [s1.heap.objs.size], _, _, H1, rfl, I1.kept (t' := s1.toks) fun b o e => Heap.get?_push_of_some _ e, turn_strH _ x t "str_iterator" (.inr rfl), ⟨_, Heap.get?_push_size _ rfl, rfl, rfl⟩, fun b hb => ?_, q⟩
    have e : b = s1.heap.objs.size := by simpa using hb
    subst e
    exact I1.fpOk (Nat.le_refl _) (I1.hok.fresh (Nat.le_refl _))
  · refine wpAny_pyIter_ascii ha ?_
    refine ⟨s1.heap.objs.size, [s1.heap.objs.size], _, _, H1, rfl, I1.kept (t' := s1.toks) fun b o e => Heap.get?_push_of_some _ e, turn_strH _ x t "str_ascii_iterator" (.inl rfl), ⟨_, Heap.get?_push_size _ rfl, rfl, rfl⟩, fun b hb => ?_, q⟩
    have e : b = s1.heap.objs.size := by simpa using hb
    subst e
    exact I1.fpOk (Nat.le_refl _) (I1.hok.fresh (Nat.le_refl _))
end
/-! ### defs that are called there: the handled error's context is None -/
section
variable {P : Program} {w : World} {K : PySem.W.Frag} {mg : Str → Option Value} {base : Heap}
def KnU (P : Program) (w : World) (K : PySem.W.Frag) (mg : Str → Option Value) (base : Heap) (k : Nat) (x : Str) (ps : List Str) (t : Tr) : Prop :=
  ∃ f fd, L2H.FnH P w K mg base CX0 k f fd ps (spOf K t) ∧ mg x = some (.ref f) ∧ PySem.W.keepIn K (.ref f) = true ∧ Binds K fd ps []
def KnMU (P : Program) (w : World) (K : PySem.W.Frag) (mg : Str → Option Value) (base : Heap) (k : Nat) (C : Addr) (m : Str) (ps : List Str) (t : Tr) : Prop :=
  ∃ f fd, L2H.FnH P w K mg base CX0 k f fd ps (spOf K t) ∧ Meth K C m f ∧ Binds K fd ps []
theorem fnU_of {x qual : Str} {st : Stmt} {f : Addr} {fd : FuncData} {N ps : List Str} {k : Nat} {t : Tr} (F : Fun K x qual st f fd) (S : FnScope N ps (defScope st)) (ln : ∀ xs Δ k ex, t xs Δ k ex → xs.length = ps.length)
    (hb : ∀ (cdv : Value) (A : Around) (fr : List Env) (s : Shared) (H : Hp) (E : XK) (p : Addr × Obj), L2H.RoomH k (A.deeper (envOfC qual (defScope st) s.heap.objs.size f cdv)) → L2H.HotC (L2H.cxH CX0 P w K mg base N qual (defScope st) f cdv A fr s H E p) →
      ∃ ts, PSs (L2H.cxH CX0 P w K mg base N qual (defScope st) f cdv A fr s H E p) (defBody st) ts ∧ ∀ xs Δ k ex, t xs Δ k ex → HS K (fun _ => E) ts ⟨xs.map some ++ List.replicate (N.length - xs.length) none, Δ⟩ { n := fun s' => k wn s'.h, r := k, x := fun c s' => ex c s'.h }) :
    L2H.FnH P w K mg base CX0 (k + 1) f fd ps (spOf K t) := by
  obtain ⟨oc, od, kV, doc, pm, an, cdv, ct, osl, rfl, atF, isC⟩ := F.ex
  refine L2H.fn_ofH atF isC S (fun vs H Q E h => ?_) fun A outer s H vs Q E p hot hr h => ?_
  · obtain ⟨B, xs, Δ, k, ex, sh, r, ht, _⟩ := h
    rw [r.len]; exact ln _ _ _ _ ht
  · obtain ⟨ts, hp, hs⟩ := hb cdv A outer s H E p hr ⟨p, hot, List.mem_cons_self⟩
    exact ⟨ts, hp, body_ok (fun xs Δ k ex ht _ => hs xs Δ k ex ht) h⟩
theorem knU_of {x : Str} {st : Stmt} {f : Addr} {fd : FuncData} {N ps : List Str} {k : Nat} {t : Tr} (F : Fun K x x st f fd) (hg : mg x = some (.ref f)) (hb : Binds K fd ps []) (S : FnScope N ps (defScope st)) (ln : ∀ xs Δ k ex, t xs Δ k ex → xs.length = ps.length)
    (h : ∀ (cdv : Value) (A : Around) (fr : List Env) (s : Shared) (H : Hp) (E : XK) (p : Addr × Obj), L2H.RoomH k (A.deeper (envOfC x (defScope st) s.heap.objs.size f cdv)) → L2H.HotC (L2H.cxH CX0 P w K mg base N x (defScope st) f cdv A fr s H E p) →
      ∃ ts, PSs (L2H.cxH CX0 P w K mg base N x (defScope st) f cdv A fr s H E p) (defBody st) ts ∧ ∀ xs Δ k ex, t xs Δ k ex → HS K (fun _ => E) ts ⟨xs.map some ++ List.replicate (N.length - xs.length) none, Δ⟩ { n := fun s' => k wn s'.h, r := k, x := fun c s' => ex c s'.h }) :
    KnU P w K mg base (k + 1) x ps t := ⟨f, fd, fnU_of F S ln h, hg, F.kp, hb⟩
theorem kmU_of {m qn : Str} {C : Addr} {st : Stmt} {f : Addr} {fd : FuncData} {N ps : List Str} {k : Nat} {t : Tr} (F : Fun K m qn st f fd) (hm : Meth K C m f) (hb : Binds K fd ps []) (S : FnScope N ps (defScope st)) (ln : ∀ xs Δ k ex, t xs Δ k ex → xs.length = ps.length)
    (h : ∀ (cdv : Value) (A : Around) (fr : List Env) (s : Shared) (H : Hp) (E : XK) (p : Addr × Obj), L2H.RoomH k (A.deeper (envOfC qn (defScope st) s.heap.objs.size f cdv)) → L2H.HotC (L2H.cxH CX0 P w K mg base N qn (defScope st) f cdv A fr s H E p) →
      ∃ ts, PSs (L2H.cxH CX0 P w K mg base N qn (defScope st) f cdv A fr s H E p) (defBody st) ts ∧ ∀ xs Δ k ex, t xs Δ k ex → HS K (fun _ => E) ts ⟨xs.map some ++ List.replicate (N.length - xs.length) none, Δ⟩ { n := fun s' => k wn s'.h, r := k, x := fun c s' => ex c s'.h }) :
    KnMU P w K mg base (k + 1) C m ps t := ⟨f, fd, fnU_of F S ln h, hm, hb⟩
variable {X : Cx} {k j : Nat} {C : Addr} {x m : Str} {ps : List Str} {t : Tr} {p pos apos : Pos} {o e : Expr} {es : List Expr} {ta : TE} {tr : TA} {A : Around}
theorem pe_knU (h : KnU P w K mg base k x ps t) (hr : L2H.RoomH j A) (hj : k ≤ j) (hc : L2H.HotC X) (ha : PA X (e :: es) tr) (hA : X.A = A := by rfl) (hX : At X P w K mg base := by exact ⟨rfl, rfl, rfl, rfl, rfl⟩) (hg : Gl X x := by rfl) (hdb : (x == ("__debug__" : Str)) = false := by decide)
    (he : starEach (e :: es) X.env = (false, eval e X.env) :: starEach es X.env := by rfl) (hpl : (backTo pos (starEach es X.env)).any (·.1) = false := by rfl) : PE X (.Call (.Name x p) (e :: es) [] pos) (tCallS (spOf K t) (fun _ => L2.E0) tr) := by
  obtain ⟨f, fd, F, hm, hk, hb⟩ := h
  obtain ⟨rfl, rfl, rfl, rfl, rfl⟩ := hX
  subst hA
  exact L2H.pe_callH F (hr.mono hj) hc hg hm hk hb (fun σ => fun _ _ _ _ _ _ c => c.elim) ha hdb he hpl
theorem pe_kmU {pl : Sem Bool} {L : List Str} (c : ClsF K C L) (h : KnMU P w K mg base k C m ps t) (hr : L2H.RoomH j A) (hj : k ≤ j) (hc : L2H.HotC X) (he : PE X o ta) (ha : PA X (e :: es) tr) (hA : X.A = A := by rfl) (hX : At X P w K mg base := by exact ⟨rfl, rfl, rfl, rfl, rfl⟩)
    (hst : starEach (e :: es) X.env = (false, eval e X.env) :: starEach es X.env := by rfl) (hpl : (backTo pos (starEach es X.env)).any (·.1) = false := by rfl)
    (ht : eval (.Call (.Attribute o m apos) (e :: es) [] pos) X.env = (do
      let ov ← eval o X.env
      standAt apos.atName
      let (f, first) ← holding [ov] (getMethod ov m pl)
      callWith pos f first (backTo pos (starEach (e :: es) X.env)) (backToKw pos (keywordEach [] X.env))) := by rfl) :
    PE X (.Call (.Attribute o m apos) (e :: es) [] pos) (tMethS C m (spOf K t) (fun _ => L2.E0) ta tr) := by
  obtain ⟨f, fd, F, hm, hb⟩ := h
  obtain ⟨rfl, rfl, rfl, rfl, rfl⟩ := hX
  subst hA
  exact L2H.pe_methH he c.1 hm F (hr.mono hj) hc hb (fun σ => fun _ _ _ _ _ _ c => c.elim) ha hst hpl ht
end
/-! ### a try whose suite calls such defs -/
section
variable {X : Cx} {x n : Str} {c : Value} {i : Nat} {body suite : List Stmt} {b₀ : Stmt} {np pos pos' : Pos} {tb : WX → L2.TS} {ts : Addr → Value → Option Addr → L2.TS} {Wout : WX}
theorem ps_try_asUD (hs : X.stack = X.env :: X.outer) (hf : X.env.frame = some X.env.locals) (hN : X.N.Nodup) (hi : X.N[i]? = some n) (hln : X.env.kindOf n = some .local) (hc : Names X x c) (tk : L2N.Takes X Wout)
    (hb : ∀ (W : WX) (pn : List (Addr × Obj)) (xe : Value → Shared → Prop), L2N.Takes (X.tr pn xe) W → PassesOwn (model X.prog X.w) X.A X.env xe → PSs (X.tr pn xe) body (tb W))
    (hsu : ∀ (a : Addr) (oe : Obj) (cls : Value) (d : Option Addr) (pn : List (Addr × Obj)), Zc cls d oe → (∃ vs, oe.data = .fields vs) → L2H.HotC (X.suite a ((a, oe) :: pn)) → PSs (X.suite a ((a, oe) :: pn)) (b₀ :: suite) (ts a cls d)) :
    PS X (.Try body [.ExceptHandler (some (.Name x np)) (some n) (b₀ :: suite) pos'] [] [] pos) (tTryAs X.K c i tb ts Wout) :=
  L2N.ps_try_as hs hf hN hi hln hc tk hb fun a oe cls d pn hz hfl => hsu a oe cls d pn hz.zc hfl ⟨(a, oe), ⟨rfl, by
    obtain ⟨vs, e⟩ := hfl
    exact ⟨vs, e, hz.2.2 vs e⟩⟩, List.mem_cons_self⟩
end
/-! ### a token is out: str.replace of written texts -/
section
variable {X : Cx} {a b e : Expr} {ta tb te : TE} {x : Str} {i : Nat} {pos pos' : Pos} {rest : List Stmt} {u : L2.TS} {r : R2}
def PEI (X : Cx) (e : Expr) (t : TE) : Prop :=
  ∀ (pins : List (Addr × Obj)) (s : Shared) (σ : L2.St) (H : Hp) (Q : VK), Inv X pins σ H s → t σ H Q → wpAny (model X.prog X.w) X.A (eval e X.env) (fun v s1 => 1 ≤ s1.toks ∧ EP X pins σ Q v s1) X.xe s
theorem pei_int {k : Int} {j : Nat} : PEI X (.Constant (.int k) j pos) (tC (.int k)) := fun pins s σ H Q I h => wpAny_Constant_int ⟨by show 1 ≤ s.toks + 1; omega, .int k, H, I.tok _, ⟨_, rfl⟩, h⟩
theorem pei_cmp {op : CmpOp} (ho : OpR X (compareOp op) r) (ha : PE X a ta) (hb : PEI X b tb) (hm : behindInMarks op b = false) : PEI X (.Compare a [op] [b] pos) (tOp r ta tb) := fun pins s σ H Q I h => by
  refine wpAny_Compare1 (thn (ha.run pins s σ H _ I h) fun v s1 ⟨y, H1, I1, r1, q1⟩ => thn (hb pins s1 σ H1 _ I1 q1) fun w s2 q => ?_) hm
  obtain ⟨hk, z, H2, I2, r2, q2⟩ := q
  exact wpAny_mono (PySem.wpAny_toks_of hk (ho pins s2 σ H2 y z v w Q I2 r1 r2 q2)) (fun _ _ q => q) fun _ _ q => q.2
theorem pss_setI (hN : X.N.Nodup) (hi : X.N[i]? = some x) (hx : Loc X.env.scope x) (he : PEI X e te) (h2 : PSsT X rest u) (hs : swapsWith e (some (.Name x pos')) pos.line X.env = pure false := by rfl) (hf : X.fn x = true ∨ X.env.scope.names.lookup x = some .local := by first | exact .inl rfl | exact .inr rfl | assumption) :
    PSs X (.Assign [.Name x pos'] e pos :: rest) (tSeq (tAsg te (gName i)) u) := by
  refine ⟨fun pins s σ H D I h => ?_⟩
  refine wpAny_execs_cons (wpAny_Assign_Name (thn (he pins s σ H _ I h) fun v s1 q => ?_) hs)
  obtain ⟨hk, y, H1, I1, r1, q1⟩ := q
  refine wpAny_mono (PySem.wpAny_toks_of hk (store_ok (v := y) (u := v) (Q := fun _ s2 => Inv X pins (σ.set i (some y)) H1 s2) I1 hN hi hx r1 (fun _ I2 => I2) hf)) (fun _ s2 q => ?_) fun _ _ z => z.2
  exact h2 pins s2 _ H1 D q.1 q.2 q1
theorem pst_set (hN : X.N.Nodup) (hi : X.N[i]? = some x) (hx : Loc X.env.scope x) (he : PET X e te) (hs : swapsWith e (some (.Name x pos')) pos.line X.env = pure false := by rfl) (hf : X.fn x = true ∨ X.env.scope.names.lookup x = some .local := by first | exact .inl rfl | exact .inr rfl | assumption) :
    PST X (.Assign [.Name x pos'] e pos) (tAsg te (gName i)) := fun pins s σ H D h0 I h =>
  wpAny_Assign_Name (thn (he pins s σ H _ h0 I h) fun v s1 ⟨y, H1, I1, r1, q1⟩ => store_ok I1 hN hi hx r1 (fun s2 I2 => ⟨_, H1, I2, q1⟩) hf) hs
theorem ev_replC {K : PySem.W.Frag} {s : S} {x y z : Str} (h : Ev K ta s (ws x)) (hl : x.length + (x.length + 1) * z.length ≤ 16777216) : Ev K (CwR.tReplC ta y z) s (ws (Txt.replace x y z)) := fun B σ H Q S q =>
  h B σ H _ S fun v H1 e1 r1 => by
    cases rw_s r1
    exact ⟨x, rfl, hl, q _ H1 e1 rs⟩
theorem repl_one {c : Nat} {z : List Nat} : ∀ l : List Nat, StrLaws.replL [c] z l = l.flatMap fun d => if d = c then z else [d]
  | [] => by rw [StrLaws.replL_nil]; rfl
  | d :: l => by
    by_cases h : d = c
    · subst h
      rw [StrLaws.replL_hit (by simp) (by simp), List.flatMap_cons, if_pos rfl]
      simp [repl_one l]
    · rw [StrLaws.replL_miss (by simpa using h), List.flatMap_cons, if_neg h, repl_one l]
      rfl
theorem replace_one (x : Str) (c d : Nat) : tl (Txt.replace x ⟨#[c]⟩ ⟨#[d]⟩) = (tl x).map fun e => if e = c then d else e := by
  have h := StrLaws.replace_list (x := x) (y := ⟨#[c]⟩) (z := ⟨#[d]⟩) (Nat.le_refl 1)
  show (Txt.replace x ⟨#[c]⟩ ⟨#[d]⟩).cps.toList = _
  rw [h]
  show StrLaws.replL [c] [d] (tl x) = _
  rw [repl_one]
  induction (tl x) with
  | nil => rfl
  | cons e l ih =>
    rw [List.flatMap_cons, List.map_cons, ih]
    by_cases h : e = c <;> simp [h]
end
section
variable {K : PySem.W.Frag} {s : S} {ta te : TE} {tr : TA} {B : List Addr} {H H' : Hp} {σ : L2.St} {E : L2.St → XK} {O : Out} {sp : Tr} {C a : Addr}
/-- a new object, some of the cells handed on to its __init__ -/
theorem evg_makeP (bs : List Bool) {xs : List W} {k : W → Del → Prop} {ex : Value → Del → Prop} (h : EvAW K tr s xs) (ht : ∀ b, b ∉ ads s.h → sp (.o b :: xs) ((b, .obj C []) :: pick bs s.h) (fun w Δ' => w = wn ∧ k (.o b) (put (true :: bs) Δ' ((b, .obj C []) :: s.h))) (fun c Δ' => ex c (put (true :: bs) Δ' ((b, .obj C []) :: s.h)))) : EvG K E (tMakeS C (spOf K sp) E tr) s k ex := fun B σ H Q S q qx =>
  h B σ H _ S fun us H1 S1 f1 r1 b dx nb nd ne => by
    have e0 : Same H1 (upd (upd H1 dx (.own b)) b (.ins C dx [])) := fun c o e => by
      rw [upd_ne (ne_of_none e nb), upd_ne (ne_of_none e nd)]
      exact e
    have nA : b ∉ ads s.h ++ B := S1.hh.out nb
    have fb : Fr s.h H1 ((b, .obj C []) :: s.h) (upd (upd H1 dx (.own b)) b (.ins C dx [])) := fun c o hc e => ⟨fun z => (List.mem_cons.mp z).elim (ne_of_none e nb) hc, e0 _ _ e⟩
    have Sm := S1.mono e0
    have S2 : Sat K B ⟨s.g, (b, .obj C []) :: s.h⟩ σ (upd (upd H1 dx (.own b)) b (.ins C dx [])) := by
      refine ⟨⟨fun p hp => ?_, List.nodup_cons.mpr ⟨fun z => nA (List.mem_append_left _ z), S.hh.nd⟩, Sm.hh.bt, fun c hc z => ?_, Sm.hh.nt⟩, S1.gg.mono fb.msk⟩
      · rcases List.mem_cons.mp hp with rfl | hp
        · exact ⟨dx, [], upd_same, rfl, .nil⟩
        · have q := S1.hh.cell p hp
          obtain ⟨o, ho⟩ := q.some
          rw [ho] at q
          rw [e0 _ _ ho]
          exact q.mono fb.msk
      · rcases List.mem_cons.mp z with z | z
        · have z : c = b := z
          exact nA (List.mem_append_right _ (z ▸ hc))
        · exact S1.hh.db c hc z
    have r2 := RWs.mono fb.msk r1
    refine callG (s := ⟨s.g, (b, .obj C []) :: s.h⟩) (t := sp) (true :: bs) S2 (.cons (w := .o b) rfl r2) (ht b fun z => nA (List.mem_append_left _ z)) (fun w Δ' v H3 kk S3 f3 r3 => ?_) (fun c Δ' H3 xx S3 f3 => ?_)
    · obtain ⟨rfl, kk⟩ := kk
      exact ⟨rw_n r3, q (.o b) _ _ H3 kk S3 ((f1.trans fb).trans f3) rfl⟩
    · exact qx c _ H3 xx S3 ((f1.trans fb).trans f3)
theorem evg_makeP0 {E' : L2.St → XK} (bs : List Bool) {xs : List W} {k : W → Del → Prop} {ex : Value → Del → Prop} (h : EvAW K tr s xs) (ht : ∀ b, b ∉ ads s.h → sp (.o b :: xs) ((b, .obj C []) :: pick bs s.h) (fun w Δ' => w = wn ∧ k (.o b) (put (true :: bs) Δ' ((b, .obj C []) :: s.h))) (fun _ _ => False)) : EvG K E (tMakeS C (spOf K sp) E' tr) s k ex := fun B σ H Q S q _ =>
  evg_makeP (E := E') (ex := fun _ _ => False) bs h ht B σ H Q S q fun _ _ _ z => z.elim
end
theorem roomHM {k : Nat} {A : Around} {v : Option Value} (r : Room k A) : L2H.RoomH k (A.mark v) := ⟨r.dp, r.un⟩
end DL

namespace DL
open PySem PySem.Spec PyProof.Rows L2 TL
/-! ### cutting at one sign -/
/-- at most k cuts at c -/
def cutAt (c : Nat) : Nat → List Nat → List (List Nat)
  | 0, l => [l]
  | k + 1, l => match l.findIdx? (· == c) with
    | none => [l]
    | some i => l.take i :: cutAt c k (l.drop (i + 1))
theorem occ_step (x : Str) (c limit : Nat) : ∀ (l : List Nat) (st : Array Nat × Nat), (∀ i ∈ l, st.2 ≤ i) → l.Pairwise (· < ·) →
    (forIn l st (StrLaws.occBody x ⟨#[c]⟩ x.length limit)).run.fst.toList = st.fst.toList ++ (l.filter fun i => (tl x)[i]? == some c).take (limit - st.fst.size)
  | [], st, _, _ => by simp
  | i :: l, st, h, p => by
    have hi := h i List.mem_cons_self
    have pl := List.pairwise_cons.mp p
    have one := StrLaws.subAt_one x c i
    rw [List.forIn_cons]
    by_cases hc : (tl x)[i]? = some c
    · have h1 := one.mpr hc
      rw [List.filter_cons, if_pos (by simp [hc])]
      by_cases hs : st.fst.size < limit
      · have e : StrLaws.occBody x ⟨#[c]⟩ x.length limit i st = pure (ForInStep.yield (st.fst.push i, i + (⟨#[c]⟩ : Str).length)) := by
          unfold StrLaws.occBody
          rw [if_pos ⟨⟨⟨hs, hi⟩, h1.1⟩, h1.2⟩]
        rw [e]
        have ih := occ_step x c limit l (st.fst.push i, i + (⟨#[c]⟩ : Str).length) (fun j hj => by have := pl.1 j hj; show i + 1 ≤ j; omega) pl.2
        show (forIn l (st.fst.push i, i + (⟨#[c]⟩ : Str).length) (StrLaws.occBody x ⟨#[c]⟩ x.length limit)).run.fst.toList = _
        rw [ih]
        obtain ⟨m, hm⟩ : ∃ m, limit - st.fst.size = m + 1 := ⟨limit - st.fst.size - 1, by omega⟩
        have hm' : limit - (st.fst.push i).size = m := by rw [Array.size_push]; omega
        show (st.fst.push i).toList ++ List.take (limit - (st.fst.push i).size) _ = _
        rw [hm, hm', List.take_succ_cons, Array.toList_push, List.append_assoc]
        rfl
      · have e : StrLaws.occBody x ⟨#[c]⟩ x.length limit i st = pure (ForInStep.yield (st.fst, st.snd)) := by
          unfold StrLaws.occBody
          rw [if_neg (fun z => hs z.1.1.1)]
        rw [e]
        show (forIn l (st.fst, st.snd) (StrLaws.occBody x ⟨#[c]⟩ x.length limit)).run.fst.toList = _
        rw [occ_step x c limit l (st.fst, st.snd) (fun j hj => h j (List.mem_cons_of_mem _ hj)) pl.2, show limit - st.fst.size = 0 by omega, List.take_zero, List.take_zero]
    · have e : StrLaws.occBody x ⟨#[c]⟩ x.length limit i st = pure (ForInStep.yield (st.fst, st.snd)) := by
        unfold StrLaws.occBody
        rw [if_neg (fun z => hc (one.mp ⟨z.1.2, z.2⟩))]
      rw [e, List.filter_cons, if_neg (by simpa using hc)]
      exact occ_step x c limit l (st.fst, st.snd) (fun j hj => h j (List.mem_cons_of_mem _ hj)) pl.2
theorem occ_list (x : Str) (c limit : Nat) : Builtin.Str.occurrences x ⟨#[c]⟩ 0 x.length limit = ((List.range (x.length + 1)).filter fun i => (tl x)[i]? == some c).take limit := by
  rw [StrLaws.occ_eq, occ_step x c limit _ _ (fun i hi => by simp [List.mem_range'_1] at hi ⊢) (by simpa using List.pairwise_lt_range' (s := 0) (n := x.length + 1 - 0) (step := 1))]
  show [] ++ _ = _
  rw [List.nil_append, List.range_eq_range']
  rfl
/-- the cuts and what stands between them -/
def betw (l : List Nat) : Nat → List Nat → List (List Nat)
  | a, [] => [l.drop a]
  | a, i :: r => (l.drop a).take (i - a) :: betw l (i + 1) r
theorem sub_tl (x : Str) (a b : Nat) : tl (Builtin.Str.strSub x a b) = ((tl x).drop a).take (b - a) := by
  show (x.cps.extract a b).toList = _
  rw [Array.toList_extract]
theorem betw_parts (x : Str) (c : Nat) : ∀ (cuts : List Nat) (a : Nat), (StrLaws.partsFrom x (⟨#[c]⟩ : Str).length a cuts).map tl = betw (tl x) a cuts
  | [], a => by
    unfold StrLaws.partsFrom betw
    rw [List.map_cons, List.map_nil, sub_tl, List.take_of_length_le (by rw [List.length_drop, tl_len]; exact Nat.le_refl _)]
  | i :: r, a => by
    unfold StrLaws.partsFrom betw
    rw [List.map_cons, sub_tl]
    exact congrArg _ (betw_parts x c r (i + 1))
theorem findIdx_min {c : Nat} : ∀ {l : List Nat}, (l.findIdx? (· == c) = none ∧ c ∉ l) ∨ ∃ i, l.findIdx? (· == c) = some i ∧ l[i]? = some c ∧ ∀ j, j < i → l[j]? ≠ some c := fun {l} => by
  cases h : l.findIdx? (· == c) with
  | none =>
    refine .inl ⟨rfl, fun hc => ?_⟩
    have := List.findIdx?_eq_none_iff.mp h c hc
    simp at this
  | some i =>
    obtain ⟨hi, h1, h2⟩ := List.findIdx?_eq_some_iff_getElem.mp h
    refine .inr ⟨i, rfl, by rw [List.getElem?_eq_getElem hi]; exact congrArg some (by simpa using h1), fun j hj e => ?_⟩
    obtain ⟨hjl, e⟩ := List.getElem?_eq_some_iff.mp e
    have := h2 j hj
    simp [e] at this
theorem filt_at (c : Nat) (l : List Nat) : ∀ (n a : Nat), l.length ≤ a + n → (∀ m, ((List.range' a n).filter fun i => l[i]? == some c).take m = [] → m = 0 ∨ ∀ i, a ≤ i → l[i]? ≠ some c) := fun n a hn m h => by
  cases m with
  | zero => exact .inl rfl
  | succ m =>
    refine .inr fun i hi e => ?_
    have hlt : i < l.length := (List.getElem?_eq_some_iff.mp e).1
    have : i ∈ (List.range' a n).filter fun i => l[i]? == some c := List.mem_filter.mpr ⟨List.mem_range'_1.mpr ⟨hi, by omega⟩, by simp [e]⟩
    cases hh : (List.range' a n).filter fun i => l[i]? == some c with
    | nil => rw [hh] at this; cases this
    | cons y r => rw [hh] at h; cases h
theorem cut_betw (c : Nat) (l : List Nat) : ∀ (m n a : Nat), a ≤ l.length → l.length ≤ a + n → betw l a (((List.range' a n).filter fun i => l[i]? == some c).take m) = cutAt c m (l.drop a)
  | 0, n, a, ha, hn => by rw [List.take_zero]; rfl
  | m + 1, n, a, ha, hn => by
    rcases findIdx_min (c := c) (l := l.drop a) with ⟨h, hc⟩ | ⟨i, h, hi, hj⟩
    · have e : ((List.range' a n).filter fun i => l[i]? == some c) = [] := by
        rw [List.filter_eq_nil_iff]
        intro i hi hh
        have hi' := List.mem_range'_1.mp hi
        have : l[i]? = some c := by simpa using hh
        refine hc (List.mem_of_getElem? (i := i - a) ?_)
        rw [List.getElem?_drop, show a + (i - a) = i by omega]
        exact this
      rw [e]
      unfold cutAt
      rw [h]
      rfl
    · rw [List.getElem?_drop] at hi
      have hlt : a + i < l.length := (List.getElem?_eq_some_iff.mp hi).1
      have e : ((List.range' a n).filter fun j => l[j]? == some c) = (a + i) :: ((List.range' (a + i + 1) (n - i - 1)).filter fun j => l[j]? == some c) := by
        have e1 : List.range' a n = List.range' a i ++ (a + i) :: List.range' (a + i + 1) (n - i - 1) := by
          have e2 : n = i + ((n - i - 1) + 1) := by omega
          rw [show List.range' a n = List.range' a (i + ((n - i - 1) + 1)) by rw [← e2], ← List.range'_append_1, List.range'_succ]
        have e3 : (List.range' a i).filter (fun j => l[j]? == some c) = [] := by
          rw [List.filter_eq_nil_iff]
          intro j hj' hh
          have hjr := List.mem_range'_1.mp hj'
          refine hj (j - a) (by omega) ?_
          rw [List.getElem?_drop, show a + (j - a) = j by omega]
          simpa using hh
        rw [e1, List.filter_append, e3, List.nil_append, List.filter_cons, if_pos (by simp [hi])]
      rw [e, List.take_succ_cons]
      unfold betw cutAt
      rw [h, show a + i - a = i by omega, cut_betw c l m (n - i - 1) (a + i + 1) (by omega) (by omega)]
      show _ = (l.drop a).take i :: cutAt c m ((l.drop a).drop (i + 1))
      rw [List.drop_drop, show a + (i + 1) = a + i + 1 by omega]
theorem parts_tl (x : Str) (c m : Nat) : (if (Builtin.Str.occurrences x ⟨#[c]⟩ 0 x.length m).isEmpty = true then [x] else Builtin.Str.partsBetween x (Builtin.Str.occurrences x ⟨#[c]⟩ 0 x.length m) (⟨#[c]⟩ : Str).length).map tl = cutAt c m (tl x) := by
  have h : betw (tl x) 0 (Builtin.Str.occurrences x ⟨#[c]⟩ 0 x.length m) = cutAt c m (tl x) := by
    rw [occ_list, List.range_eq_range', cut_betw c (tl x) m (x.length + 1) 0 (Nat.zero_le _) (by rw [tl_len]; omega), List.drop_zero]
  by_cases he : (Builtin.Str.occurrences x ⟨#[c]⟩ 0 x.length m).isEmpty = true
  · rw [if_pos he, ← h, List.isEmpty_iff.mp he]
    unfold betw
    rw [List.drop_zero]
    rfl
  · rw [if_neg he, StrLaws.partsBetween_eq, betw_parts, h]
theorem kind_le (x : Str) (c : Nat) (h : c ∈ tl x) : ¬ (decide (x.length < (⟨#[c]⟩ : Str).length) || decide (Builtin.Str.strKind x < Builtin.Str.strKind ⟨#[c]⟩)) = true := by
  have hx : c ∈ x.cps.toList := h
  have hl : 0 < x.length := by
    rw [← tl_len]
    exact List.length_pos_of_mem h
  have k1 : x.cps.all (· < 256) = true → c < 256 := fun e => by
    have := Array.all_eq_true'.mp e c (Array.mem_toList_iff.mp hx)
    simpa using this
  have k2 : x.cps.all (· < 65536) = true → c < 65536 := fun e => by
    have := Array.all_eq_true'.mp e c (Array.mem_toList_iff.mp hx)
    simpa using this
  rw [Bool.or_eq_true]
  rintro (z | z)
  · have z' : x.length < 1 := of_decide_eq_true z
    omega
  · have z := of_decide_eq_true z
    unfold Builtin.Str.strKind at z
    have c1 : (#[c] : Array Nat).all (· < 256) = decide (c < 256) := by simp
    have c2 : (#[c] : Array Nat).all (· < 65536) = decide (c < 65536) := by simp
    rw [c1, c2] at z
    by_cases a1 : x.cps.all (· < 256) = true
    · rw [if_pos a1, if_pos (by simpa using k1 a1)] at z; omega
    · rw [if_neg a1] at z
      by_cases a2 : x.cps.all (· < 65536) = true
      · rw [if_pos a2] at z
        by_cases b1 : c < 256
        · rw [if_pos (by simpa using b1)] at z; omega
        · rw [if_neg (by simpa using b1), if_pos (by simpa using k2 a2)] at z; omega
      · rw [if_neg a2] at z
        by_cases b1 : c < 256
        · rw [if_pos (by simpa using b1)] at z; omega
        · rw [if_neg (by simpa using b1)] at z
          by_cases b2 : c < 65536
          · rw [if_pos (by simpa using b2)] at z; omega
          · rw [if_neg (by simpa using b2)] at z; omega
theorem cutAt_no {c : Nat} {l : List Nat} (h : c ∉ l) (m : Nat) : cutAt c m l = [l] := by
  cases m with
  | zero => rfl
  | succ m =>
    unfold cutAt
    have : l.findIdx? (· == c) = none := List.findIdx?_eq_none_iff.mpr fun x hx => by
      simp only [beq_eq_false_iff_ne]
      exact fun e => h (e ▸ hx)
    rw [this]
theorem split_tl (x : Str) (c : Nat) : (Txt.split x ⟨#[c]⟩).map tl = cutAt c (x.length + 1) (tl x) := by
  unfold Txt.split
  by_cases h : c ∈ tl x
  · rw [if_neg (kind_le x c h)]
    exact parts_tl x c _
  · rw [cutAt_no h]
    have hp := parts_tl x c (x.length + 1)
    rw [cutAt_no h] at hp
    split
    · rfl
    · exact hp
theorem splitMax_tl (x : Str) (c : Nat) (k : Nat) : (Txt.splitMax x ⟨#[c]⟩ (k : Int)).map tl = cutAt c k (tl x) := by
  unfold Txt.splitMax
  have e : limitOf x (k : Int) = k := by
    unfold limitOf
    rw [if_neg (by omega), Int.toNat_natCast]
  rw [e]
  by_cases h : c ∈ tl x
  · rw [if_neg (kind_le x c h)]
    exact parts_tl x c _
  · rw [cutAt_no h]
    have hp := parts_tl x c k
    rw [cutAt_no h] at hp
    split
    · rfl
    · exact hp
theorem partition_tl (x : Str) (c : Nat) : (tl (Txt.partition x ⟨#[c]⟩).1, tl (Txt.partition x ⟨#[c]⟩).2.1, tl (Txt.partition x ⟨#[c]⟩).2.2) = match (tl x).findIdx? (· == c) with
    | none => (tl x, [], [])
    | some i => ((tl x).take i, [c], (tl x).drop (i + 1)) := by
  have h := StrLaws.occ_head x ⟨#[c]⟩ 1 (Nat.le_refl 1)
  have at1 : ∀ i, StrLaws.At x ⟨#[c]⟩ x.length i ↔ (tl x)[i]? = some c := fun i => StrLaws.subAt_one x c i
  unfold Txt.partition
  rcases h with ⟨h, hn⟩ | ⟨i, r, h, hi, hn⟩
  · rw [h]
    have : (tl x).findIdx? (· == c) = none := List.findIdx?_eq_none_iff.mpr fun y hy => by
      obtain ⟨j, hj⟩ := List.mem_iff_getElem?.mp hy
      simp only [beq_eq_false_iff_ne]
      exact fun e => hn j ((at1 j).mpr (e ▸ hj))
    rw [this]
    rfl
  · rw [h]
    rcases findIdx_min (c := c) (l := tl x) with ⟨_, hc⟩ | ⟨j, hj, hjc, hjm⟩
    · exact absurd (List.mem_of_getElem? ((at1 i).mp hi)) hc
    · have e : j = i := by
        rcases Nat.lt_trichotomy j i with z | z | z
        · exact absurd ((at1 j).mpr hjc) (hn j z)
        · exact z
        · exact absurd ((at1 i).mp hi) (hjm i z)
      subst e
      rw [hj]
      show (tl (Builtin.Str.strSub x 0 j), [c], tl (Builtin.Str.strSub x (j + 1) x.length)) = _
      rw [sub_tl, sub_tl, List.drop_zero, Nat.sub_zero, List.take_of_length_le (i := x.length - (j + 1)) (by rw [List.length_drop, tl_len]; exact Nat.le_refl _)]
end DL

namespace DL
open PySem PySem.Spec PyProof.Rows L2 TL
/-! ### constants of the module: tuples, dicts with text keys -/
def KDat (K : PySem.W.Frag) (v : V) (d : PyData) : Prop := ∀ M : Hp, Dq K M v d
inductive DatV (K : PySem.W.Frag) : Value → PyData → Prop
  | non : DatV K .none .none
  | bl (b : Bool) : DatV K (.bool b) (.bool b)
  | int (i : Int) (t : Tok) : DatV K (.int i t) (.int i)
  | str (x : Str) (t : Tok) : DatV K (.str x t) (.str x)
  | ref {a : Addr} {d : PyData} : KDat K (.ref a) d → DatV K (.ref a) d
inductive DatL (K : PySem.W.Frag) : List Value → List PyData → Prop
  | nil : DatL K [] []
  | cons {u : Value} {d : PyData} {us : List Value} {ds : List PyData} : DatV K u d → DatL K us ds → DatL K (u :: us) (d :: ds)
theorem DatV.v {K : PySem.W.Frag} {u : Value} {d : PyData} (h : DatV K u d) : ∃ v, RelV v u ∧ KDat K v d := by
  cases h with
  | non => exact ⟨.non, rfl, fun _ => .non⟩
  | bl b => exact ⟨.bl b, rfl, fun _ => .bl b⟩
  | int i t => exact ⟨.int i, ⟨t, rfl⟩, fun _ => .int i⟩
  | str x t => exact ⟨.str x, ⟨t, rfl⟩, fun _ => .str x⟩
  | ref h => exact ⟨.ref _, rfl, h⟩
theorem DatL.vs {K : PySem.W.Frag} : ∀ {us : List Value} {ds : List PyData}, DatL K us ds → ∃ vs, Vals vs us ∧ ∀ M, DqAll K M vs ds
  | _, _, .nil => ⟨[], .nil, fun _ => .nil⟩
  | _, _, .cons h r => by
    obtain ⟨v, h1, h2⟩ := h.v
    obtain ⟨vs, r1, r2⟩ := DatL.vs r
    exact ⟨v :: vs, .cons h1 r1, fun M => .cons (h2 M) (r2 M)⟩
theorem kdat_tup {K : PySem.W.Frag} {a : Addr} {us : List Value} {ds : List PyData} {n : Nat} {dd : Option Addr} {sl : Array (Option Value)} (hl : K.lookup a = some ⟨.type "tuple", dd, .seq us.toArray n, sl⟩) (h : DatL K us ds) (hz : us.length ≤ 1000) : KDat K (.ref a) (.tuple ds) := fun M => by
  obtain ⟨vs, h1, h2⟩ := h.vs
  exact .tup (.inr ⟨_, us.toArray, n, hl, rfl, rfl, by rw [List.size_toArray, sizeLine_eq]; omega, by simpa using h1⟩) (h2 M)
inductive EntD (K : PySem.W.Frag) (P : Params) : List DictEntry → List (Str × PyData) → Prop
  | nil : EntD K P [] []
  | cons {e : DictEntry} {es : List DictEntry} {k : Str} {t : Tok} {d : PyData} {kvs : List (Str × PyData)} : e.key = .str k t → e.hash = PyData.keyHash P k → DatV K e.val d → EntD K P es kvs → EntD K P (e :: es) ((k, d) :: kvs)
/-- at d: a dict of the module, its values data -/
def KDicD (K : PySem.W.Frag) (w : World) (a : Addr) (kvs : List (Str × PyData)) : Prop :=
  ∃ es n, K.lookup a = some ⟨.type "dict", none, .dict es n, #[]⟩ ∧ (a == sysModules) = false ∧ EntD K w.params es.toList kvs
theorem EntD.lit {K : PySem.W.Frag} {P : Params} : ∀ {es : List DictEntry} {kvs : List (Str × PyData)}, EntD K P es kvs → PySem.W.KeysLit P es
  | _, _, .nil => trivial
  | _, _, .cons h1 h2 _ r => ⟨⟨_, _, h1, h2⟩, r.lit⟩
theorem EntD.find {K : PySem.W.Frag} {P : Params} (z : Str) : ∀ {es : List DictEntry} {kvs : List (Str × PyData)}, EntD K P es kvs → match kvs.lookup z with
    | some d => ∃ e, es.find? (·.key.isStr z) = some e ∧ DatV K e.val d
    | none => es.find? (·.key.isStr z) = none
  | _, _, .nil => rfl
  | _, _, .cons (e := e) (es := es) (k := k) (t := t) (d := d) (kvs := kvs) h1 h2 hv r => by
    have ih := r.find z
    have hk : e.key.isStr z = (z == k) := by
      rw [h1]
      show (k == z) = (z == k)
      exact Bool.beq_comm
    by_cases hz : (z == k) = true
    · rw [List.lookup_cons, hz]
      exact ⟨e, by rw [List.find?_cons, hk, hz], hv⟩
    · have hz' : (z == k) = false := by simpa using hz
      rw [List.lookup_cons, hz']
      show match kvs.lookup z with | some d => _ | none => _
      cases hh : kvs.lookup z with
      | some d' =>
        rw [hh] at ih
        obtain ⟨e', h3, h4⟩ := ih
        exact ⟨e', by rw [List.find?_cons, hk, hz']; exact h3, h4⟩
      | none =>
        rw [hh] at ih
        rw [List.find?_cons, hk, hz']
        exact ih
theorem EntD.noRef {K : PySem.W.Frag} {P : Params} : ∀ {es : List DictEntry} {kvs : List (Str × PyData)}, EntD K P es kvs → es.any (·.refKey) = false
  | _, _, .nil => rfl
  | _, _, .cons (e := e) h1 _ _ r => by
    rw [List.any_cons, r.noRef]
    unfold DictEntry.refKey
    rw [h1]
    rfl
theorem KDicD.get {K : PySem.W.Frag} {w : World} {a : Addr} {kvs : List (Str × PyData)} (h : KDicD K w a kvs) (z : Str) : (∃ d u, kvs.lookup z = some d ∧ PySem.W.nsIn K a z = some (some u) ∧ DatV K u d) ∨ (kvs.lookup z = none ∧ PySem.W.nsIn K a z = some none) := by
  obtain ⟨es, n, hl, _, he⟩ := h
  have f := he.find z
  unfold PySem.W.nsIn
  rw [hl]
  dsimp only
  cases hh : kvs.lookup z with
  | some d =>
    rw [hh] at f
    obtain ⟨e, h1, h2⟩ := f
    exact .inl ⟨d, e.val, rfl, by rw [h1], h2⟩
  | none =>
    rw [hh] at f
    exact .inr ⟨rfl, by rw [f, he.noRef]; rfl⟩
def rInKD (K : PySem.W.Frag) (w : World) : R2 := fun x y H Q => ∃ z a kvs, x = .str z ∧ y = .ref a ∧ KDicD K w a kvs ∧ Q (.bl (kvs.lookup z).isSome) H
def rNinKD (K : PySem.W.Frag) (w : World) : R2 := fun x y H Q => ∃ z a kvs, x = .str z ∧ y = .ref a ∧ KDicD K w a kvs ∧ Q (.bl (!(kvs.lookup z).isSome)) H
def rIxKD (K : PySem.W.Frag) (w : World) : R2 := fun x y H Q => ∃ a z kvs d, x = .ref a ∧ y = .str z ∧ KDicD K w a kvs ∧ kvs.lookup z = some d ∧ ∀ v, KDat K v d → Q v H
section
variable {X : Cx}
theorem op_inKD0 : OpR X (compareOp .In) (rInKD X.K X.w) := by
  intro pins s σ H x y v u Q I rx ry h
  obtain ⟨z, a, kvs, rfl, rfl, hd, q⟩ := h
  obtain ⟨es, n, hl, lo, he⟩ := id hd
  have D : KDict X.K X.w a es n := ⟨hl, he.lit, lo⟩
  rcases hd.get z with ⟨d, u0, h1, h2, _⟩ | ⟨h1, h2⟩
  · rw [h1] at q
    exact op_in_kd D pins s σ H (.str z) (.ref a) v u Q I rx ry ⟨z, _, rfl, rfl, h2, q⟩
  · rw [h1] at q
    exact op_in_kd D pins s σ H (.str z) (.ref a) v u Q I rx ry ⟨z, _, rfl, rfl, h2, q⟩
theorem op_ninKD0 : OpR X (compareOp .NotIn) (rNinKD X.K X.w) := by
  intro pins s σ H x y v u Q I rx ry h
  obtain ⟨z, a, kvs, rfl, rfl, hd, q⟩ := h
  obtain ⟨es, n, hl, lo, he⟩ := id hd
  have D : KDict X.K X.w a es n := ⟨hl, he.lit, lo⟩
  rcases hd.get z with ⟨d, u0, h1, h2, _⟩ | ⟨h1, h2⟩
  · rw [h1] at q
    exact op_notIn_kd D pins s σ H (.str z) (.ref a) v u Q I rx ry ⟨z, _, rfl, rfl, h2, q⟩
  · rw [h1] at q
    exact op_notIn_kd D pins s σ H (.str z) (.ref a) v u Q I rx ry ⟨z, _, rfl, rfl, h2, q⟩
theorem ix_KD0 : IxR X (rIxKD X.K X.w) := by
  intro value slice pins s σ H x y v u Q I rx ry h hs
  obtain ⟨a, z, kvs, d, rfl, rfl, hd, hz, q⟩ := h
  obtain ⟨es, n, hl, lo, he⟩ := id hd
  rcases hd.get z with ⟨d', u0, h1, h2, h3⟩ | ⟨h1, h2⟩
  · rw [h1] at hz
    cases hz
    obtain ⟨v0, r0, k0⟩ := h3.v
    exact ix_kdict value slice pins s σ H (.ref a) (.str z) v u Q I rx ry ⟨a, z, v0, rfl, rfl, ⟨es, n, u0, hl, he.lit, h2, r0⟩, q v0 k0⟩ hs
  · rw [h1] at hz
    cases hz
theorem op_inKD (K : PySem.W.Frag) (w : World) (hK : X.K = K := by rfl) (hw : X.w = w := by rfl) : OpR X (compareOp .In) (rInKD K w) := hK ▸ hw ▸ op_inKD0
theorem op_ninKD (K : PySem.W.Frag) (w : World) (hK : X.K = K := by rfl) (hw : X.w = w := by rfl) : OpR X (compareOp .NotIn) (rNinKD K w) := hK ▸ hw ▸ op_ninKD0
theorem ix_KD (K : PySem.W.Frag) (w : World) (hK : X.K = K := by rfl) (hw : X.w = w := by rfl) : IxR X (rIxKD K w) := hK ▸ hw ▸ ix_KD0
theorem tupleK (K : PySem.W.Frag) (hK : X.K = K := by rfl) : CallR X (.type "tuple") (fun xs H Q => ∃ p ys, xs = [.ref p] ∧ ((SqL K H p ys ∧ ∀ l, H l = none → Q (.ref l) (upd H l (.tup ys))) ∨ (SqT K H p ys ∧ Q (.ref p) H))) := hK ▸ call_tuple_of
theorem pi_zipK (K : PySem.W.Frag) {e e2 : Expr} {ta : TA} {p pos tpos : Pos} {elts : List Expr} {kk : Nat} {mg : Str → Option Value} (hm : mg "zip" = none) (ha : PA X [e, e2] ta) (hK : X.K = K := by rfl) (hX : X.mg = mg := by rfl) (hg : Gl X "zip" := by rfl)
    (hs : starEach [e, e2] X.env = (false, eval e X.env) :: starEach [e2] X.env := by rfl) (hpl : (backTo pos (starEach [e2] X.env)).any (·.1) = false := by rfl) : PI X (.Tuple elts kk tpos) (.Call (.Name "zip" p) [e, e2] [] pos) (RZ.iZipA K ta) := by
  subst hK hX
  exact RZ.pi_zipA hg hm ha hs hpl
end
section
variable {K : PySem.W.Frag} {w0 : World} {s : S} {ta tb te : TE} {tr : TA} {x y : W} {a : Addr} {kvs : List (Str × PyData)} {z : Str} {d : PyData}
theorem ev_kd {v : V} (h : KDat K v d) : Ev K (tC v) s (.d d) := ev_c h
theorem rv_inKD (h : KDicD K w0 a kvs) : RVs K s (rInKD K w0) (ws z) (.x (.ref a)) (wb (kvs.lookup z).isSome) := fun B σ H v u Q S r1 r2 q => by
  cases rw_s r1
  cases (show u = V.ref a from r2)
  exact ⟨z, a, kvs, rfl, rfl, h, q _ H same_refl rb⟩
theorem rv_ninKD (h : KDicD K w0 a kvs) : RVs K s (rNinKD K w0) (ws z) (.x (.ref a)) (wb (!(kvs.lookup z).isSome)) := fun B σ H v u Q S r1 r2 q => by
  cases rw_s r1
  cases (show u = V.ref a from r2)
  exact ⟨z, a, kvs, rfl, rfl, h, q _ H same_refl rb⟩
theorem rv_ixKD (h : KDicD K w0 a kvs) (hz : kvs.lookup z = some d) : RVs K s (rIxKD K w0) (.x (.ref a)) (ws z) (.d d) := fun B σ H v u Q S r1 r2 q => by
  cases rw_s r2
  cases (show v = V.ref a from r1)
  exact ⟨a, z, kvs, d, rfl, rfl, h, hz, fun v hv => q v H same_refl (hv _)⟩
/-! ### texts -/
theorem rm_startswith {a b : Str} : RMs K s (fun x xs H Q => ∃ a b, x = .str a ∧ xs = [.str b] ∧ Q (.bl (Txt.startswith a b)) H) (ws a) [ws b] (wb (Txt.startswith a b)) := fun B σ H v vs Q S h1 h2 q => by
  cases rw_s h1
  cases h2 with
  | cons h2 h3 =>
    cases h3; cases rw_s h2
    exact ⟨a, b, rfl, rfl, q _ H same_refl rb⟩
theorem rm_startswith3 {a b : Str} {i : Int} : RMs K s (fun x xs H Q => ∃ (a b : Str) (i : Int), x = .str a ∧ xs = [.str b, .int i] ∧ Q (.bl (Txt.startswith3 a b i)) H) (ws a) [ws b, wi i] (wb (Txt.startswith3 a b i)) := fun B σ H v vs Q S h1 h2 q => by
  cases rw_s h1
  cases h2 with
  | cons h2 h3 =>
    cases h3 with
    | cons h3 h4 =>
      cases h4; cases rw_s h2; cases rw_i h3
      exact ⟨a, b, i, rfl, rfl, q _ H same_refl rb⟩
theorem rmf_split {a b : Str} (hb : (b.length == 0) = false) (h : a.length + 2 ≤ sizeLine) : RMF K s (fun x xs H Q => ∃ a b, x = .str a ∧ xs = [.str b] ∧ (b.length == 0) = false ∧ a.length + 2 ≤ sizeLine ∧ rNewStrs (Txt.split a b) H Q) (ws a) [ws b] (((Txt.split a b).map PyData.str).map .d) := fun B σ H v vs Q S h1 h2 q => by
  cases rw_s h1
  cases h2 with
  | cons h2 h3 =>
    cases h3; cases rw_s h2
    exact ⟨a, b, rfl, rfl, hb, h, fun p np => q p _ _ (same_new np) np upd_same (dpa_rws (strs_new _))⟩
theorem rmf_splitMax {a b : Str} {k : Int} (hb : (b.length == 0) = false) (h1' : -(2 ^ 63) ≤ k) (h2' : k < 2 ^ 63) (h : a.length + 2 ≤ sizeLine) : RMF K s (fun x xs H Q => ∃ (a b : Str) (k : Int), x = .str a ∧ xs = [.str b, .int k] ∧ (b.length == 0) = false ∧ -(2 ^ 63) ≤ k ∧ k < 2 ^ 63 ∧ a.length + 2 ≤ sizeLine ∧ rNewStrs (Txt.splitMax a b k) H Q) (ws a) [ws b, wi k] (((Txt.splitMax a b k).map PyData.str).map .d) := fun B σ H v vs Q S h1 h2 q => by
  cases rw_s h1
  cases h2 with
  | cons h2 h3 =>
    cases h3 with
    | cons h3 h4 =>
      cases h4; cases rw_s h2; cases rw_i h3
      exact ⟨a, b, k, rfl, rfl, hb, h1', h2', h, fun p np => q p _ _ (same_new np) np upd_same (dpa_rws (strs_new _))⟩
theorem rm_partition {a b : Str} (hb : (b.length == 0) = false) (h : a.length ≤ sizeLine) : RMs K s (fun x xs H Q => ∃ a b, x = .str a ∧ xs = [.str b] ∧ (b.length == 0) = false ∧ a.length ≤ sizeLine ∧
    ∀ p, H p = none → Q (.ref p) (upd H p (.tup [.str (Txt.partition a b).1, .str (Txt.partition a b).2.1, .str (Txt.partition a b).2.2]))) (ws a) [ws b] (wt [.str (Txt.partition a b).1, .str (Txt.partition a b).2.1, .str (Txt.partition a b).2.2]) := fun B σ H v vs Q S h1 h2 q => by
  cases rw_s h1
  cases h2 with
  | cons h2 h3 =>
    cases h3; cases rw_s h2
    refine ⟨a, b, rfl, rfl, hb, h, fun p np => q (.ref p) _ (same_new np) (Dq.tup (.inl ?_) (.cons (.str _) (.cons (.str _) (.cons (.str _) .nil))))⟩
    rw [msk_out (S.hh.out np)]
    exact upd_same
/-- tuple(a list of data) -/
theorem rc_tuple {ds : List PyData} (l : LV s x (ds.map .d)) : RCs K s (fun xs H Q => ∃ p ys, xs = [.ref p] ∧ ((SqL K H p ys ∧ ∀ l, H l = none → Q (.ref l) (upd H l (.tup ys))) ∨ (SqT K H p ys ∧ Q (.ref p) H))) [x] (wt ds) := fun B σ H vs Q S h1 q => by
  cases h1 with
  | cons h1 h2 =>
    cases h2
    obtain ⟨p, us, rfl, g, r⟩ := l.get S h1
    refine ⟨p, us, rfl, .inl ⟨g, fun l nl => q (.ref l) _ (same_new nl) (Dq.tup (.inl ?_) (rws_dpa (r.mono (msk_same (same_new nl)))))⟩⟩
    rw [msk_out (S.hh.out nl)]
    exact upd_same
end
end DL

namespace DL
open PySem PySem.Spec PyProof.Rows L2 TL RZ
/-! ### zip of a tuple and a list -/
/-- an iterator over what stands at l -/
structure Src (prog : Program) (w : World) (it l : Addr) (xs : Array Value) where
  pos : Nat → Heap → Prop
  has : Heap → Prop
  pExt : ∀ {k : Nat} {h h' : Heap} {b : Addr}, pos k h → Heap.ExtBut b h h' → it ≠ b → pos k h'
  sExt : ∀ {h h' : Heap} {b : Addr}, has h → Heap.ExtBut b h h' → l ≠ b → has h'
  pAt : ∀ {k : Nat} {h h' : Heap}, pos k h → (∀ o, h.get? it = some o → h'.get? it = some o) → pos k h'
  obj : ∀ {k : Nat} {h : Heap}, pos k h → ∃ o, h.get? it = some o ∧ ∀ v, o.data ≠ .cell v
  item : ∀ {A : Around} {E Q : Value → Shared → Prop} {s : Shared} {k : Nat} {x : Value}, pos k s.heap → has s.heap → xs[k]? = some x → (∀ h', pos (k + 1) h' → Heap.SameBut it s.heap h' → Q x { s with heap := h' }) →
    wpAny (model prog w) A (Builtin.SmallTypes.nextOf (.ref it)) Q E s
  fin : ∀ {A : Around} {E Q : Value → Shared → Prop} {s : Shared} {k : Nat}, A.handled = none → pos k s.heap → has s.heap → xs[k]? = none →
    (∀ h' e, Heap.ExtBut it s.heap h' → (∃ o, h'.get? e = some o ∧ o.cls = .type "StopIteration") → E (.ref e) { s with heap := h' }) → wpAny (model prog w) A (Builtin.SmallTypes.nextOf (.ref it)) Q E s
def srcT (prog : Program) (w : World) (it l : Addr) (xs : Array Value) : Src prog w it l xs where
  pos := fun k h => h.IsTupleIter it l k
  has := fun h => h.IsTuple l xs
  pExt := fun p e n => p.extBut e n
  sExt := fun p e n => p.extBut e n
  pAt := fun p k => p.at fun o e => k o e
  obj := fun ⟨o, e, _, d⟩ => ⟨o, e, fun v q => by rw [d] at q; cases q⟩
  item := fun p h hx q => nextOf_tuple_item p h hx q
  fin := fun hh p h hx q => nextOf_tuple_end hh p h hx q
def srcL (prog : Program) (w : World) (it l : Addr) (xs : Array Value) : Src prog w it l xs where
  pos := fun k h => h.IsListIter it l k
  has := fun h => h.IsList l xs
  pExt := fun p e n => p.extBut e n
  sExt := fun p e n => p.extBut e n
  pAt := fun p k => p.at fun o e => k o e
  obj := fun ⟨o, e, _, d⟩ => ⟨o, e, fun v q => by rw [d] at q; cases q⟩
  item := fun p h hx q => wpAny_nextOf_list_item p h hx q
  fin := fun hh p h hx q => wpAny_nextOf_list_end hh p h hx q
theorem Src.lt {prog : Program} {w : World} {it l : Addr} {xs : Array Value} (S : Src prog w it l xs) {k : Nat} {h : Heap} (p : S.pos k h) : it < h.objs.size := by
  obtain ⟨o, e, _⟩ := S.obj p
  exact Heap.lt_size e
section
variable {prog : Program} {w : World} {A : Around} {E : Value → Shared → Prop} {s : Shared} {z TI TO i1 i2 l1 l2 : Addr} {k1 k2 : Nat} {xs ys : Array Value} {x y a b : Value} (S1 : Src prog w i1 l1 xs) (S2 : Src prog w i2 l2 ys)
theorem zipS_item {Q : Value → Shared → Prop} (D : ZipApart z TI TO i1 i2 l1 l2) (hz : IsZip s.heap z TI TO .none) (hTI : IsPair s.heap TI (.ref i1) (.ref i2)) (hTO : IsPair s.heap TO a b)
    (h1 : S1.pos k1 s.heap) (h2 : S2.pos k2 s.heap) (g1 : S1.has s.heap) (g2 : S2.has s.heap) (hx : xs[k1]? = some x) (hy : ys[k2]? = some y)
    (hQ : ∀ h', IsZip h' z TI TO (rawInt s.heap.objs.size) → IsPair h' TO x y → S1.pos (k1 + 1) h' → S2.pos (k2 + 1) h' → IsPair h' s.heap.objs.size x y →
      (∀ c o, c ≠ z → c ≠ TO → c ≠ i1 → c ≠ i2 → s.heap.get? c = some o → h'.get? c = some o) → Q (.ref s.heap.objs.size) { s with heap := h' }) :
    wpAny (model prog w) A (Builtin.«zip.__next__» ⟨[.ref z], []⟩) (fun fin s' => ∃ v, fin = .done (.ret v) ∧ Q v s') E s := by
  show wpAny _ _ (field (.ref z) 2 >>= _) _ _ _
  refine wpAny_bind (wpAny_field hz rfl (x := .bool false) rfl ?_)
  show wpAny _ _ (field (.ref z) 3 >>= _) _ _ _
  refine wpAny_bind (wpAny_field hz rfl (x := .ref TI) rfl (wpAny_bind (wpAny_seqItems hTI rfl ?_)))
  show wpAny _ _ (Builtin.SmallTypes.ownedTupleIsFree (.ref z) >>= _) _ _ _
  refine wpAny_bind ?_
  unfold Builtin.SmallTypes.ownedTupleIsFree
  refine wpAny_bind (wpAny_field hz rfl (x := .none) rfl (wpAny_pure ?_))
  simp only [if_true]
  refine wpAny_bind (wpAny_rule (wpAny_bind (wpAny_field hz rfl (x := .ref TO) rfl (wpAny_bind (wpAny_setField_rec hz (by simp) fun ha za sa => ?_)))))
  have za : IsZip ha z TI TO .ellipsis := za
  refine wpAny_bind ?_
  simp only [List.zipIdx_cons, List.zipIdx_nil, List.forIn_cons, List.forIn_nil]
  refine wpAny_bind (wpAny_bind (wpAny_onRaise ?_))
  show wpAny _ _ (Builtin.SmallTypes.nextOf (.ref i1) >>= _) _ _ _
  refine wpAny_bind (S1.item (S1.pExt h1 sa.extBut D.i1z) (S1.sExt g1 sa.extBut D.l1z) hx fun hb p1 sb => wpAny_pure ?_)
  have tb : IsPair hb TO a b := sb.extBut _ _ D.TOi1 (sa.extBut _ _ D.TOz hTO)
  refine wpAny_bind (wpAny_seqItems tb rfl (wpAny_bind (wpAny_updateSeq_pair tb fun hc tc sc => wpAny_bind (wpAny_letGo (wpAny_pure ?_)))))
  have tc : IsPair hc TO x b := tc
  refine wpAny_bind (wpAny_bind (wpAny_onRaise ?_))
  show wpAny _ _ (Builtin.SmallTypes.nextOf (.ref i2) >>= _) _ _ _
  refine wpAny_bind (S2.item (S2.pExt (S2.pExt (S2.pExt h2 sa.extBut D.i2z) sb.extBut D.i12.symm) sc.extBut D.TOi2.symm) (S2.sExt (S2.sExt (S2.sExt g2 sa.extBut D.l2z) sb.extBut D.l2i1) sc.extBut D.l2TO) hy fun hd p2 sd => wpAny_pure ?_)
  have td : IsPair hd TO x b := sd.extBut _ _ D.TOi2 tc
  refine wpAny_bind (wpAny_seqItems td rfl (wpAny_bind (wpAny_updateSeq_pair td fun he te se => wpAny_bind (wpAny_letGo (wpAny_pure (wpAny_pure ?_))))))
  have te : IsPair he TO x y := te
  refine wpAny_bind (wpAny_seqItems te rfl (wpAny_bind (wpAny_newTuple ?_)))
  have size : he.objs.size = s.heap.objs.size := by rw [se.1, sd.1, sc.1, sb.1, sa.1]
  have ze : IsZip he z TI TO .ellipsis := se.extBut _ _ D.TOz.symm (sd.extBut _ _ D.i2z.symm (sc.extBut _ _ D.TOz.symm (sb.extBut _ _ D.i1z.symm za)))
  have ke : ∀ c o, c ≠ z → c ≠ TO → c ≠ i1 → c ≠ i2 → s.heap.get? c = some o → he.get? c = some o := fun c o c1 c2 c3 c4 e =>
    se.extBut _ _ c2 (sd.extBut _ _ c4 (sc.extBut _ _ c2 (sb.extBut _ _ c3 (sa.extBut _ _ c1 e))))
  have q1 : S1.pos (k1 + 1) he := S1.pExt (S1.pExt (S1.pExt p1 sc.extBut D.TOi1.symm) sd.extBut D.i12) se.extBut D.TOi1.symm
  have q2 : S2.pos (k2 + 1) he := S2.pExt p2 se.extBut D.TOi2.symm
  have zlt : z < he.objs.size := Heap.lt_size ze
  show wpAny _ _ (Builtin.SmallTypes.ownedTupleHandOut (.ref z) (.ref he.objs.size) >>= _) _ _ _
  refine wpAny_bind ?_
  unfold Builtin.SmallTypes.ownedTupleHandOut
  refine wpAny_bind (wpAny_setField_rec (show IsZip (he.push { cls := .type "tuple", data := .seq #[x, y] }) z TI TO .ellipsis from Heap.get?_push_of_some _ ze) (by simp) fun hf zf sf => ?_)
  have zf : IsZip hf z TI TO (rawInt he.objs.size) := zf
  refine wpAny_setField_rec zf (by simp) fun hg zg sg => ?_
  have zg : IsZip hg z TI TO (rawInt he.objs.size) := zg
  have up : ∀ c o, c ≠ z → he.get? c = some o → hg.get? c = some o := fun c o c1 e => sg.extBut _ _ c1 (sf.extBut _ _ c1 (Heap.get?_push_of_some _ e))
  have new : IsPair hg he.objs.size x y := sg.extBut _ _ (Nat.ne_of_gt zlt) (sf.extBut _ _ (Nat.ne_of_gt zlt) (Heap.get?_push_size _ rfl))
  rw [size] at zg new
  refine wpAny_pure ⟨_, rfl, ?_⟩
  show Q (.ref he.objs.size) _
  rw [size]
  exact hQ hg zg (up _ _ D.TOz te) (S1.pAt q1 fun o e => up _ o D.i1z e) (S2.pAt q2 fun o e => up _ o D.i2z e) new fun c o c1 c2 c3 c4 e => up c o c1 (ke c o c1 c2 c3 c4 e)
theorem zipS_end {Q : Fin → Shared → Prop} (hh : A.handled = none) (D : ZipApart z TI TO i1 i2 l1 l2) (hz : IsZip s.heap z TI TO .none) (hTI : IsPair s.heap TI (.ref i1) (.ref i2)) (hTO : IsPair s.heap TO a b)
    (h1 : S1.pos k1 s.heap) (h2 : S2.pos k2 s.heap) (g1 : S1.has s.heap) (g2 : S2.has s.heap) (hend : xs[k1]? = none ∨ ys[k2]? = none)
    (hE : ∀ h' e, (∀ c o, c ≠ z → c ≠ TO → c ≠ i1 → c ≠ i2 → s.heap.get? c = some o → h'.get? c = some o) → (∃ o, h'.get? e = some o ∧ o.cls = .type "StopIteration") → E (.ref e) { s with heap := h' }) :
    wpAny (model prog w) A (Builtin.«zip.__next__» ⟨[.ref z], []⟩) Q E s := by
  show wpAny _ _ (field (.ref z) 2 >>= _) _ _ _
  refine wpAny_bind (wpAny_field hz rfl (x := .bool false) rfl ?_)
  show wpAny _ _ (field (.ref z) 3 >>= _) _ _ _
  refine wpAny_bind (wpAny_field hz rfl (x := .ref TI) rfl (wpAny_bind (wpAny_seqItems hTI rfl ?_)))
  show wpAny _ _ (Builtin.SmallTypes.ownedTupleIsFree (.ref z) >>= _) _ _ _
  refine wpAny_bind ?_
  unfold Builtin.SmallTypes.ownedTupleIsFree
  refine wpAny_bind (wpAny_field hz rfl (x := .none) rfl (wpAny_pure ?_))
  simp only [if_true]
  refine wpAny_bind (wpAny_rule (wpAny_bind (wpAny_field hz rfl (x := .ref TO) rfl (wpAny_bind (wpAny_setField_rec hz (by simp) fun ha za sa => ?_)))))
  have za : IsZip ha z TI TO .ellipsis := za
  refine wpAny_bind ?_
  simp only [List.zipIdx_cons, List.zipIdx_nil, List.forIn_cons, List.forIn_nil]
  refine wpAny_bind (wpAny_bind (wpAny_onRaise ?_))
  show wpAny _ _ (Builtin.SmallTypes.nextOf (.ref i1) >>= _) _ _ _
  refine wpAny_bind ?_
  cases hx : xs[k1]? with
  | none =>
    refine S1.fin hh (S1.pExt h1 sa.extBut D.i1z) (S1.sExt g1 sa.extBut D.l1z) hx fun hb e sb ⟨oe, e1, e2⟩ => ?_
    have zb : IsZip hb z TI TO .ellipsis := sb _ _ D.i1z.symm za
    have ne : e ≠ z := fun q => by
      subst q
      rw [zb] at e1
      cases e1
      simp at e2
    exact wpAny_setField_rec zb (by simp) fun hc _ sc => hE hc e (fun c o c1 _ c3 _ q => sc.extBut _ _ c1 (sb _ _ c3 (sa.extBut _ _ c1 q))) ⟨oe, sc.extBut _ _ ne e1, e2⟩
  | some x =>
    have hy : ys[k2]? = none := by
      rcases hend with h | h
      · rw [hx] at h; cases h
      · exact h
    refine S1.item (S1.pExt h1 sa.extBut D.i1z) (S1.sExt g1 sa.extBut D.l1z) hx fun hb p1 sb => wpAny_pure ?_
    have tb : IsPair hb TO a b := sb.extBut _ _ D.TOi1 (sa.extBut _ _ D.TOz hTO)
    refine wpAny_bind (wpAny_seqItems tb rfl (wpAny_bind (wpAny_updateSeq_pair tb fun hc tc sc => wpAny_bind (wpAny_letGo (wpAny_pure ?_)))))
    refine wpAny_bind (wpAny_bind (wpAny_onRaise ?_))
    show wpAny _ _ (Builtin.SmallTypes.nextOf (.ref i2) >>= _) _ _ _
    refine wpAny_bind (S2.fin hh (S2.pExt (S2.pExt (S2.pExt h2 sa.extBut D.i2z) sb.extBut D.i12.symm) sc.extBut D.TOi2.symm) (S2.sExt (S2.sExt (S2.sExt g2 sa.extBut D.l2z) sb.extBut D.l2i1) sc.extBut D.l2TO) hy fun hd e sd ⟨oe, e1, e2⟩ => ?_)
    have zd : IsZip hd z TI TO .ellipsis := sd _ _ D.i2z.symm (sc.extBut _ _ D.TOz.symm (sb.extBut _ _ D.i1z.symm za))
    have ne : e ≠ z := fun q => by
      subst q
      rw [zd] at e1
      cases e1
      simp at e2
    exact wpAny_setField_rec zd (by simp) fun he _ se => hE he e (fun c o c1 c2 c3 c4 q => se.extBut _ _ c1 (sd _ _ c4 (sc.extBut _ _ c2 (sb.extBut _ _ c3 (sa.extBut _ _ c1 q))))) ⟨oe, se.extBut _ _ ne e1, e2⟩
end
/-- the walk over both, as it stands at each turn -/
def ItzM (K : PySem.W.Frag) (a b : Addr) : It :=
  ⟨fun i H => ∃ (xs ys : List V) (x y : V), SqT K H a xs ∧ SqL K H b ys ∧ xs[i]? = some x ∧ ys[i]? = some y,
    fun i H v H' => ∃ T x y, v = .ref T ∧ H T = none ∧ H' = upd H T (.tup [x, y]) ∧ (∀ xs, SqT K H a xs → xs[i]? = some x) ∧ ∀ ys, SqL K H b ys → ys[i]? = some y,
    fun i H => ∃ xs ys : List V, SqT K H a xs ∧ SqL K H b ys ∧ (xs.length ≤ i ∨ ys.length ≤ i)⟩
def fpZ (z TI TO i1 i2 : Addr) : List Addr := [z, TI, TO, i1, i2]
theorem fpZ_or {z TI TO i1 i2 c : Addr} (h : c ∈ fpZ z TI TO i1 i2) : c = z ∨ c = TI ∨ c = TO ∨ c = i1 ∨ c = i2 := by simpa [fpZ] using h
structure ZipM (h : Heap) (z TI TO i1 i2 a b : Addr) (i : Nat) : Prop where
  z : IsZip h z TI TO .none
  p : IsPair h TI (.ref i1) (.ref i2)
  o : ∃ x y, IsPair h TO x y
  t : h.IsTupleIter i1 a i
  l : h.IsListIter i2 b i
theorem turn_zipM {P : Program} {w : World} {K : PySem.W.Frag} {elts : List Expr} {kk : Nat} {tpos : Pos} {a b z TI TO i1 i2 : Addr} (D : ZipApart z TI TO i1 i2 a b) :
    Turn P w K (.Tuple elts kk tpos) (ItzM K a b) (fpZ z TI TO i1 i2) z (fun i h => ZipM h z TI TO i1 i2 a b i) where
  mem := List.mem_cons_self
  obj := fun i h st c hc => by
    rcases fpZ_or hc with q | q | q | q | q <;> subst q
    · exact ⟨_, st.z, fun v e => nomatch e⟩
    · exact ⟨_, st.p, fun v e => nomatch e⟩
    · obtain ⟨x, y, e⟩ := st.o
      exact ⟨_, e, fun v e => nomatch e⟩
    · obtain ⟨o, e, _, d⟩ := st.t
      exact ⟨o, e, fun v q => by rw [d] at q; cases q⟩
    · obtain ⟨o, e, _, d⟩ := st.l
      exact ⟨o, e, fun v q => by rw [d] at q; cases q⟩
  keep := fun i h h' st k => by
    obtain ⟨x, y, e⟩ := st.o
    exact ⟨k z (by simp [fpZ]) _ st.z, k TI (by simp [fpZ]) _ st.p, ⟨x, y, k TO (by simp [fpZ]) _ e⟩, st.t.at fun o q => k i1 (by simp [fpZ]) o q, st.l.at fun o q => k i2 (by simp [fpZ]) o q⟩
  item := by
    intro X hP hw hK hc i pins s σ H E I hf st hg
    subst hP hw hK
    obtain ⟨hz, hp, ⟨x0, y0, ho⟩, h1, h2⟩ := st
    obtain ⟨xs, ys, x, y, hqx, hqy, hx, hy⟩ := hg
    obtain ⟨its, rv, p, _⟩ := I.tuple hqx
    obtain ⟨its2, rv2, p2, _⟩ := I.list hqy
    obtain ⟨u, hu, ru⟩ := rv.get hx
    obtain ⟨u2, hu2, ru2⟩ := rv2.get hy
    have hzl : z < s.heap.objs.size := Heap.lt_size hz
    have hT : s.TypeIs (.ref z) "zip" := ⟨_, hz, rfl⟩
    have lt : ∀ c ∈ fpZ z TI TO i1 i2, c < s.heap.objs.size := fun c hcm => by
      rcases fpZ_or hcm with q | q | q | q | q <;> subst q
      · exact hzl
      · exact Heap.lt_size hp
      · exact Heap.lt_size ho
      · exact (srcT X.prog X.w c a its.toArray).lt h1
      · exact (srcL X.prog X.w c b its2.toArray).lt h2
    unfold pyNext
    refine wpAny_bind (wpAny_attempt (wpAny_callSpecial?_slot (name := Str.ofString "__next__") hT F.slot_zip_next (wpAny_call_entry F.slot_zip_next hT F.entry_zip_next
      (zipS_item (srcT X.prog X.w i1 a its.toArray) (srcL X.prog X.w i2 b its2.toArray) D hz hp ho h1 h2 p p2.isList (x := u) (y := u2) (by simpa using hu) (by simpa using hu2) fun h' z' o' t' l' n' k' => wpAny_pure ?_) (F.args_zip_next_1 _))))
    refine ⟨_, rfl, wpAny_letOwnedTupleGo_zip (s := { s with heap := h' }) z' fun h'' z'' sb => ?_⟩
    have hN : h''.get? s.heap.objs.size = some { cls := .type "tuple", data := .seq #[u, u2] } := (sb.2 _ (Nat.ne_of_gt hzl)).trans n'
    have new : ObjOk X.prog X.w (upd H s.heap.objs.size (.tup [x, y])) h'' s.heap.objs.size (.tup [x, y]) :=
      ⟨by show 2 ≤ sizeLine; decide, [u, u2], .cons ru (.cons ru2 .nil), ⟨_, hN, rfl, _, rfl⟩⟩
    have I1 : Inv X pins σ (upd H s.heap.objs.size (.tup [x, y])) { s with heap := h'' } :=
      I.turnedNew (t' := s.toks) (ch := fpZ z TI TO i1 i2) (fun c o hb q => (sb.2 c (fun e => hb (by simp [fpZ, e]))).trans (k' c o (fun e => hb (by simp [fpZ, e])) (fun e => hb (by simp [fpZ, e])) (fun e => hb (by simp [fpZ, e])) (fun e => hb (by simp [fpZ, e])) q)) hf (Nat.le_refl _) new
    refine ⟨.ref s.heap.objs.size, _, I1, rfl, ⟨_, x, y, rfl, I.hok.fresh (Nat.le_refl _), rfl, fun l hl => by rw [I.tuple_inj hl hqx]; exact hx, fun l hl => by rw [I.list_inj hl hqy]; exact hy⟩, ⟨z'', ?_, ⟨u, u2, ?_⟩, ?_, ?_⟩, fun c hcm => ?_⟩
    · exact (sb.2 _ D.TIz).trans (k' _ _ D.TIz D.TITO D.TIi1 D.TIi2 hp)
    · exact (sb.2 _ D.TOz).trans o'
    · exact (srcT X.prog X.w i1 a its.toArray).pAt t' fun o q => (sb.2 _ D.i1z).trans q
    · exact (srcL X.prog X.w i2 b its2.toArray).pAt l' fun o q => (sb.2 _ D.i2z).trans q
    · rw [upd_ne (Nat.ne_of_lt (lt c hcm))]
      exact (hf c hcm).1
  done := by
    intro X hP hw hK hc i pins s σ H E I hf st hg
    subst hP hw hK
    obtain ⟨hz, hp, ⟨x0, y0, ho⟩, h1, h2⟩ := st
    obtain ⟨xs, ys, hqx, hqy, hend⟩ := hg
    obtain ⟨its, rv, p, _⟩ := I.tuple hqx
    obtain ⟨its2, rv2, p2, _⟩ := I.list hqy
    have l1 := rv.length
    have l2 := rv2.length
    have he : its.toArray[i]? = none ∨ its2.toArray[i]? = none := hend.imp (fun q => by simp; omega) fun q => by simp; omega
    have hT : s.TypeIs (.ref z) "zip" := ⟨_, hz, rfl⟩
    unfold pyNext
    refine wpAny_bind (wpAny_attempt (wpAny_callSpecial?_slot (name := Str.ofString "__next__") hT F.slot_zip_next (wpAny_call_entry F.slot_zip_next hT F.entry_zip_next
      (zipS_end (srcT X.prog X.w i1 a its.toArray) (srcL X.prog X.w i2 b its2.toArray) (I.ok.hd hc) D hz hp ho h1 h2 p p2.isList he fun h' e hk ⟨oe, e1, e2⟩ => ?_) (F.args_zip_next_1 _))))
    refine wpAny_bind (wpAny_isInstance (T := "StopIteration") (b := true) ⟨oe, e1, e2⟩ isSubtype_stop (wpAny_pure ⟨rfl, I.turnedL (t' := s.toks) (ch := fpZ z TI TO i1 i2) (fun c o hb q => ?_) hf⟩))
    exact hk c o (fun e => hb (by simp [fpZ, e])) (fun e => hb (by simp [fpZ, e])) (fun e => hb (by simp [fpZ, e])) (fun e => hb (by simp [fpZ, e])) q
  self := fun A i s Q E st h => wpAny_pyIter_zip st.z h
/-- the heap behind zip(tuple, list) -/
abbrev zm1 (h : Heap) (a : Addr) : Heap := h.push { cls := .type "tuple_iterator", data := .fields #[.ref a, .int 0 0] }
abbrev zm2 (h : Heap) (a b : Addr) : Heap := (zm1 h a).push { cls := .type "list_iterator", data := .fields #[.ref b, .int 0 0] }
abbrev zm3 (h : Heap) (a b : Addr) : Heap := (zm2 h a b).push { cls := .type "tuple", data := .seq #[.ref h.objs.size, .ref (zm1 h a).objs.size] }
abbrev zm4 (h : Heap) (a b : Addr) : Heap := (zm3 h a b).push { cls := .type "tuple", data := .seq #[.none, .none] }
abbrev zm5 (h : Heap) (a b : Addr) : Heap := (zm4 h a b).push { cls := .type "zip", data := .fields #[.none, .bool false, .bool false, .ref (zm2 h a b).objs.size, .ref (zm3 h a b).objs.size] }
theorem meets_zipM (a b : Addr) (xs ys : Array Value) : Meets (Builtin.«zip.__new__» ⟨[.type "zip", .ref a, .ref b], []⟩) (fun _ R s => s.heap.IsTuple a xs ∧ s.heap.IsList b ys ∧ R (.ok (.ret (.ref (zm4 s.heap a b).objs.size))) { s with heap := zm5 s.heap a b }) :=
  .of_wp fun prog w A R s h => by
    obtain ⟨hp, g, d, tk, os⟩ := s
    obtain ⟨g1, g2, h⟩ := h
    have hsub := sub_zip
    have t1 : Heap.IsTuple (Shared.heap ⟨hp, g, d, tk, os⟩) a xs := g1
    have t2 : Heap.IsList (Shared.heap ⟨zm1 hp a, g, d, tk, os⟩) b ys := Heap.IsList.push g2 _
    wp_walk using wpAny_pyIter_tuple t1, wpAny_pyIter_list t2
    exact ⟨_, rfl, h⟩
theorem call_zipM {prog : Program} {w : World} {A : Around} {E : Value → Shared → Prop} {s : Shared} {a b : Addr} {xs ys : Array Value} {Q : Value → Shared → Prop} (g1 : s.heap.IsTuple a xs) (g2 : s.heap.IsList b ys)
    (h : ∀ h', ZipM h' (s.heap.objs.size + 4) (s.heap.objs.size + 2) (s.heap.objs.size + 3) s.heap.objs.size (s.heap.objs.size + 1) a b 0 → (∀ c o, s.heap.get? c = some o → h'.get? c = some o) → Q (.ref (s.heap.objs.size + 4)) { s with heap := h' }) :
    wpAny (model prog w) A (call (.type "zip") [.ref a, .ref b]) Q E s := by
  refine callType_new F.called_zip (by decide) (F.typeCall_zip_2 _ _) (F.newCall_zip_2 _ _) (fun obj => F.args_object_init_3 obj _ _) F.entry_zip_new (meets_zipM a b xs ys) ⟨g1, g2, ?_⟩
  have e1 : (zm1 s.heap a).objs.size = s.heap.objs.size + 1 := Heap.size_push ..
  have e2 : (zm2 s.heap a b).objs.size = s.heap.objs.size + 2 := (Heap.size_push ..).trans (by rw [e1])
  have e3 : (zm3 s.heap a b).objs.size = s.heap.objs.size + 3 := (Heap.size_push ..).trans (by rw [e2])
  have e4 : (zm4 s.heap a b).objs.size = s.heap.objs.size + 4 := (Heap.size_push ..).trans (by rw [e3])
  have up1 : ∀ {c o}, (zm1 s.heap a).get? c = some o → (zm5 s.heap a b).get? c = some o := fun q => Heap.get?_push_of_some _ (Heap.get?_push_of_some _ (Heap.get?_push_of_some _ (Heap.get?_push_of_some _ q)))
  have q5 : (zm5 s.heap a b).get? (zm4 s.heap a b).objs.size = some { cls := .type "zip", data := .fields #[.none, .bool false, .bool false, .ref (zm2 s.heap a b).objs.size, .ref (zm3 s.heap a b).objs.size] } := Heap.get?_push_size _ rfl
  have q4 : (zm5 s.heap a b).get? (zm3 s.heap a b).objs.size = some { cls := .type "tuple", data := .seq #[.none, .none] } := Heap.get?_push_of_some _ (Heap.get?_push_size _ rfl)
  have q3 : (zm5 s.heap a b).get? (zm2 s.heap a b).objs.size = some { cls := .type "tuple", data := .seq #[.ref s.heap.objs.size, .ref (zm1 s.heap a).objs.size] } := Heap.get?_push_of_some _ (Heap.get?_push_of_some _ (Heap.get?_push_size _ rfl))
  have q2 : (zm5 s.heap a b).get? (zm1 s.heap a).objs.size = some { cls := .type "list_iterator", data := .fields #[.ref b, .int 0 0] } := Heap.get?_push_of_some _ (Heap.get?_push_of_some _ (Heap.get?_push_of_some _ (Heap.get?_push_size _ rfl)))
  have q1 : (zm5 s.heap a b).get? s.heap.objs.size = some { cls := .type "tuple_iterator", data := .fields #[.ref a, .int 0 0] } := up1 (Heap.get?_push_size _ rfl)
  show _ ∧ _
  rw [e2, e3, e4] at q5
  rw [e1, e2] at q3
  rw [e3] at q4
  rw [e1] at q2
  rw [e4]
  exact ⟨⟨_, q5, rfl⟩, h _ ⟨q5, q3, ⟨_, _, q4⟩, ⟨_, q1, rfl, rfl⟩, ⟨_, q2, rfl, rfl⟩⟩ fun c o q => up1 (Heap.get?_push_of_some _ q)⟩
def iZipU (K : PySem.W.Frag) (ta : TA) : TI := fun σ H R => ta σ H fun vs H1 => ∃ a b xs ys, vs = [.ref a, .ref b] ∧ ((SqT K H1 a xs ∧ SqL K H1 b ys ∧ R (ItzM K a b) H1) ∨ (SqT K H1 a xs ∧ SqT K H1 b ys ∧ R (ItzT K a b) H1))
theorem pi_zipU (K : PySem.W.Frag) {X : Cx} {e e2 : Expr} {ta : TA} {p pos tpos : Pos} {elts : List Expr} {kk : Nat} {mg : Str → Option Value} (hm : mg "zip" = none) (ha : PA X [e, e2] ta) (hK : X.K = K := by rfl) (hX : X.mg = mg := by rfl) (hg : Gl X "zip" := by rfl)
    (hs : starEach [e, e2] X.env = (false, eval e X.env) :: starEach [e2] X.env := by rfl) (hpl : (backTo pos (starEach [e2] X.env)).any (·.1) = false := by rfl) : PI X (.Tuple elts kk tpos) (.Call (.Name "zip" p) [e, e2] [] pos) (iZipU K ta) := by
  subst hK hX
  refine ⟨fun pins s σ H R I h => Call_ (ld_blt I hg hm PyProof.Rows.boot_zip (PyProof.Rows.callWith_type1 (thn (ha.run pos pins s σ H _ I h) fun us s1 hh => ?_) hs hpl))⟩
  obtain ⟨vs, H1, I1, r1, a, b, xs, ys, ex, q1⟩ := hh
  subst ex
  obtain ⟨rfl⟩ : us = [Value.ref a, Value.ref b] := by
    cases r1 with
    | cons r rr =>
      cases rr with
      | cons r' rr =>
        cases rr
        cases r
        cases r'
        rfl
  have young : ∀ c, c ∈ fpZ (s1.heap.objs.size + 4) (s1.heap.objs.size + 2) (s1.heap.objs.size + 3) s1.heap.objs.size (s1.heap.objs.size + 1) → FpOk X pins H1 c := fun c hcm => by
    have hle : s1.heap.objs.size ≤ c := by
      rcases fpZ_or hcm with z | z | z | z | z <;> subst z
      · exact Nat.le_add_right _ _
      · exact Nat.le_add_right _ _
      · exact Nat.le_add_right _ _
      · exact Nat.le_refl _
      · exact Nat.le_add_right _ _
    exact I1.fpOk hle (I1.hok.fresh hle)
  rcases q1 with ⟨hqx, hqy, q⟩ | ⟨hqx, hqy, q⟩
  · obtain ⟨its, rv, p1, _⟩ := I1.tuple hqx
    obtain ⟨its2, rv2, p2, _⟩ := I1.list hqy
    obtain ⟨o1, ho1, _⟩ := id p1
    refine call_zipM (show s1.heap.IsTuple a its.toArray from p1) p2.isList fun h' zm hk => wpAny_pyIter_zip zm.z ?_
    exact ⟨_, _, _, _, H1, rfl, I1.kept (t' := s1.toks) hk, turn_zipM (PySem.W.ktu_apart s1.heap.objs.size a b (Heap.lt_size ho1) p2.lt), zm, young, q⟩
  · obtain ⟨its, rv, p1, _⟩ := I1.tuple hqx
    obtain ⟨its2, rv2, p2, _⟩ := I1.tuple hqy
    obtain ⟨o1, ho1, _⟩ := id p1
    obtain ⟨o2, ho2, _⟩ := id p2
    refine call_zipT (show s1.heap.IsTuple a its.toArray from p1) (show s1.heap.IsTuple b its2.toArray from p2) fun h' hz hTI hTO h1 h2 hsz hk => wpAny_pyIter_zip hz ?_
    exact ⟨_, _, _, _, H1, rfl, I1.kept (t' := s1.toks) hk, turn_zipT (PySem.W.ktu_apart s1.heap.objs.size a b (Heap.lt_size ho1) (Heap.lt_size ho2)), ⟨hz, hTI, ⟨_, _, hTO⟩, h1, h2⟩, young, q⟩
end DL

namespace DL
open PySem PySem.Spec PyProof.Rows L2 TL RZ
section
variable {K : PySem.W.Frag} {s s1 s' : S} {ta tb te tl : TE} {tr : TA} {tt : TT} {tu : L2.TS} {x y z w : W} {B : List Addr} {H H' : Hp} {σ : L2.St} {E : L2.St → XK} {O : Out} {g : TG}
/-- what zip walks: a tuple of data, and a list or a tuple of data -/
def ZV (s : S) (x y : W) (ds : List PyData) (ys : List W) : Prop := x = wt ds ∧ (LV s y ys ∨ ∃ es, y = wt es ∧ ys = es.map .d)
theorem zv_l {ds : List PyData} {ys : List W} (h : LV s y ys) : ZV s (wt ds) y ds ys := ⟨rfl, .inl h⟩
theorem zv_t {ds es : List PyData} : ZV s (wt ds) (wt es) ds (es.map .d) := ⟨rfl, .inr ⟨es, rfl, rfl⟩⟩
theorem sat_tup {T : Addr} {vs : List V} (S : Sat K B s σ H) (n : H T = none) : Sat K B s σ (upd H T (.tup vs)) := S.mono (same_new n)
abbrev inBZ (s : S) (vs : List Nat) (i j : Nat) (u1 u2 : W) : S := ⟨((wipeG s.g vs).set i (some u1)).set j (some u2), s.h⟩
theorem zv_get {ds : List PyData} {ys : List W} (h : ZV s x y ds ys) (S : Sat K B s σ H) {v u : V} (q1 : RW K (msk H (ads s.h ++ B)) v x) (q2 : RW K (msk H (ads s.h ++ B)) u y) :
    ∃ a b xs us, v = .ref a ∧ u = .ref b ∧ SqT K H a xs ∧ RWs K (msk H (ads s.h ++ B)) xs (ds.map .d) ∧ RWs K (msk H (ads s.h ++ B)) us ys ∧ (SqL K H b us ∨ SqT K H b us) := by
  obtain ⟨rfl, h⟩ := h
  obtain ⟨a, xs, rfl, g1, r1⟩ := tv_get S q1
  rcases h with h | ⟨es, rfl, rfl⟩
  · obtain ⟨b, us, rfl, g2, r2⟩ := h.get S q2
    exact ⟨a, b, xs, us, rfl, rfl, g1, r1, r2, .inl g2⟩
  · obtain ⟨b, us, rfl, g2, r2⟩ := tv_get S q2
    exact ⟨a, b, xs, us, rfl, rfl, g1, r1, r2, .inr g2⟩
theorem lc_zipM {a b : Addr} {xs ys : List V} {vs : List Nat} {H1 : Hp} {D : Addr} {Qd : Hp → Prop} (Pv : Nat → Hp → Prop) (h0 : Pv 0 (upd H1 D (.lst []))) (hq : ∀ i H, Pv i H → SqT K H a xs ∧ (SqL K H b ys ∨ SqT K H b ys)) (n : Nat) (hn : n = min xs.length ys.length)
    (hs : ∀ (i : Nat) (x y : V) (T : Addr) (H : Hp), xs[i]? = some x → ys[i]? = some y → Pv i H → H T = none → g (.ref T) (wipe σ vs) (upd H T (.tup [x, y])) fun σ2 H2 => wipe σ2 vs = wipe σ vs ∧ tt σ2 H2 fun b H3 =>
      if b = true then te σ2 H3 fun y H4 => ∃ acc, H4 D = some (.lst acc) ∧ acc.length < sizeLine ∧ Pv (i + 1) (upd H4 D (.lst (acc ++ [y]))) else Pv (i + 1) H3) (hd : ∀ H, Pv n H → Qd H) (J : It) (hJ : (J = ItzM K a b ∧ ∀ i H, Pv i H → SqL K H b ys) ∨ (J = ItzT K a b ∧ ∀ i H, Pv i H → SqT K H b ys)) :
    ∃ W : Nat → Nat → Hp → Prop, (∃ m, W 0 m (upd H1 D (.lst []))) ∧ ∀ i m H, W i m H →
      (J.stop i H ∧ Qd H) ∨ (J.go i H ∧ ∃ Nx : Hp → Prop, (∀ H', Nx H' → ∃ m', m' < m ∧ W (i + 1) m' H') ∧ ∀ v H', J.yld i H v H' → g v (wipe σ vs) H' fun σ2 H2 => wipe σ2 vs = wipe σ vs ∧ tt σ2 H2 fun b H3 =>
        if b = true then te σ2 H3 fun y H4 => ∃ acc, H4 D = some (.lst acc) ∧ acc.length < sizeLine ∧ Nx (upd H4 D (.lst (acc ++ [y]))) else Nx H3) := by
  refine ⟨fun i m H => m = n - i ∧ i ≤ n ∧ Pv i H, ⟨n, rfl, Nat.zero_le _, h0⟩, ?_⟩
  rintro i m H ⟨rfl, hi, p⟩
  have qx := (hq i H p).1
  by_cases hlt : i < n
  · have hx : xs[i]? = some (xs[i]'(by omega)) := List.getElem?_eq_getElem (by omega)
    have hy : ys[i]? = some (ys[i]'(by omega)) := List.getElem?_eq_getElem (by omega)
    rcases hJ with ⟨rfl, hJ⟩ | ⟨rfl, hJ⟩
    · refine .inr ⟨⟨xs, ys, _, _, qx, hJ i H p, hx, hy⟩, Pv (i + 1), fun H' p' => ⟨n - (i + 1), by omega, rfl, hlt, p'⟩, fun v H' yy => ?_⟩
      obtain ⟨T, x', y', rfl, hT, rfl, f1, f2⟩ := yy
      exact hs i x' y' T H (f1 xs qx) (f2 ys (hJ i H p)) p hT
    · refine .inr ⟨⟨xs, ys, _, _, qx, hJ i H p, hx, hy⟩, Pv (i + 1), fun H' p' => ⟨n - (i + 1), by omega, rfl, hlt, p'⟩, fun v H' yy => ?_⟩
      obtain ⟨T, x', y', rfl, hT, rfl, f1, f2⟩ := yy
      exact hs i x' y' T H (f1 xs qx) (f2 ys (hJ i H p)) p hT
  · obtain rfl : i = n := by omega
    rcases hJ with ⟨rfl, hJ⟩ | ⟨rfl, hJ⟩
    · exact .inl ⟨⟨xs, ys, qx, hJ i H p, by omega⟩, hd H p⟩
    · exact .inl ⟨⟨xs, ys, qx, hJ i H p, by omega⟩, hd H p⟩
theorem cw_same {out : List W} {D T : Addr} {vs : List V} (c : CW K B s σ H D out H') (n : H' T = none) : CW K B s σ H D out (upd H' T (.tup vs)) := by
  obtain ⟨e, acc, h, r⟩ := c
  have e2 : Same H' (upd H' T (.tup vs)) := same_new n
  exact ⟨e.trans e2, acc, e2 _ _ h, r.mono (msk_same e2)⟩
theorem evf_lcZ {i j : Nat} {vs : List Nat} {ds : List PyData} {ys : List W} (f : Nat → Bool) (v : Nat → W) (h : EvA K tr s [x, y]) (l : ZV s x y ds ys) (hl : ds.length ≤ 16000000) (hi : i ∈ vs) (hj : j ∈ vs)
    (ht : ∀ (k : Nat) (d : PyData) (u : W), ds[k]? = some d → ys[k]? = some u → EvT K tt (inBZ s vs i j (.d d) u) (f k)) (he : ∀ (k : Nat) (d : PyData) (u : W), ds[k]? = some d → ys[k]? = some u → f k = true → Ev K te (inBZ s vs i j (.d d) u) (v k)) :
    EvF K (tLc (iZipU K tr) (gTup K 2 (gCons (gName i) (gCons (gName j) gNil))) tt te vs) s (outs (min ds.length ys.length) f v) := fun B σ H Q S q =>
  h B σ H _ S fun us H1 e1 r1 => by
    cases r1 with
    | cons a1 r1 =>
    cases r1 with
    | cons a2 r1 =>
    cases r1
    have S1 := S.mono e1
    obtain ⟨a, b, xs, us, rfl, rfl, g1, rr1, rr2, g2⟩ := zv_get l S1 a1 a2
    have hl1 : xs.length = ds.length := by rw [rr1.len, List.length_map]
    have hl2 : us.length = ys.length := rr2.len
    have core : ∀ (J : It) (D : Addr), H1 D = none → ((J = ItzM K a b ∧ SqL K H1 b us) ∨ (J = ItzT K a b ∧ SqT K H1 b us)) → _ := fun J D nD hJ =>
      lc_zipM (K := K) (σ := σ) (vs := vs) (g := gTup K 2 (gCons (gName i) (gCons (gName j) gNil))) (tt := tt) (te := te) (Qd := Q (.ref D)) (fun k H' => CW K B s σ H1 D (outs k f v) H') (cw_start nD) (fun k H' c => ⟨same_t c.1 g1, g2.imp (fun z => c.1.seq z) fun z => same_t c.1 z⟩) (min ds.length ys.length) (by omega)
        (fun k x1 y1 T H' hx hy c nT => by
          obtain ⟨w1, hw1, ru1⟩ := rr1.getv hx
          obtain ⟨u, hu, ru2⟩ := rr2.getv hy
          rw [List.getElem?_map] at hw1
          cases hp : ds[k]? with
          | none => rw [hp] at hw1; cases hw1
          | some d =>
          rw [hp] at hw1
          obtain rfl : W.d d = w1 := Option.some.inj hw1
          have hlt : k < ds.length := (List.getElem?_eq_some_iff.mp hp).1
          have hz : (outs k f v).length < sizeLine := Nat.lt_of_le_of_lt (outs_len k f v) (by rw [sizeLine_eq]; omega)
          have c' := cw_same (vs := [x1, y1]) c nT
          obtain ⟨e, acc, hD, r⟩ := c'
          refine ⟨T, [x1, y1], rfl, SqT.of upd_same, rfl, _, _, rfl, _, _, rfl, rfl, wipe_set2 hi hj, ?_⟩
          have S2 : Sat K B (inBZ s vs i j (.d d) u) (((wipe σ vs).set i (some x1)).set j (some y1)) H1 := ⟨S1.hh, ((wipe_sat S1.gg vs).set ru1 i).set ru2 j⟩
          have S3 := cw_sat S2 nD e ⟨_, hD⟩
          exact cw_turn ⟨e, acc, hD, r⟩ S3 nD rfl hz (ht k d u hp hu) (he k d u hp hu) (fun hb H2 c2 => by rw [outs_yes hb]; exact c2) (fun hb H2 c2 => by rw [outs_no hb]; exact c2))
        (fun H' c => cw_end c fun a us H2 e2 ha ea rr => q a us H2 (e1.trans e2) (by rw [ea]; exact e1.free nD) ha rr) J
        (hJ.imp (fun z => ⟨z.1, fun k H' c => c.1.seq z.2⟩) fun z => ⟨z.1, fun k H' c => same_t c.1 z.2⟩)
    refine ⟨a, b, xs, us, rfl, ?_⟩
    rcases g2 with g2 | g2
    · exact .inl ⟨g1, g2, fun D nD => core _ D nD (.inl ⟨rfl, g2⟩)⟩
    · exact .inr ⟨g1, g2, fun D nD => core _ D nD (.inr ⟨rfl, g2⟩)⟩
end
end DL
namespace DL
open PySem PySem.Spec PyProof.Rows L2 TL
/-! ### str of an int or of a text -/
def rStrU : List V → Hp → VK → Prop := fun xs H Q => (∃ i, xs = [.int i] ∧ i.natAbs.log2 < 1920 ∧ Q (.str (toString i)) H) ∨ ∃ a, xs = [.str a] ∧ Q (.str a) H
theorem call_strU {X : Cx} : CallR X (.type "str") rStrU := fun pins s σ H us vs Q I r h => h.elim (fun h => call_str_int pins s σ H us vs Q I r h) fun h => SkE.call_str_str pins s σ H us vs Q I r h
theorem rc_strUI {K : PySem.W.Frag} {s : S} {i : Int} (h : i.natAbs.log2 < 1920) : RCs K s rStrU [wi i] (ws (toString i)) := fun B σ H vs Q S a q => .inl (rc_strI h B σ H vs Q S a q)
theorem rc_strUS {K : PySem.W.Frag} {s : S} {x : Str} : RCs K s rStrU [ws x] (ws x) := fun B σ H vs Q S a q => by
  cases a with
  | cons a1 a2 =>
    cases a2; cases rw_s a1
    exact .inr ⟨x, rfl, q _ H same_refl rs⟩
end DL
namespace DL
open PySem PySem.Spec PyProof.Rows L2 TL
section
variable {K : PySem.W.Frag} {s : S} {te tl : TE} {tt : TT} {B : List Addr} {H : Hp} {σ : L2.St}
/-- a comprehension over a tuple of data -/
theorem evf_lcT {j : Nat} {vs : List Nat} {ds : List PyData} (f : Nat → Bool) (v : Nat → W) (h : Ev K tl s (wt ds)) (hl : ds.length ≤ 16000000) (hj : j ∈ vs)
    (ht : ∀ (i : Nat) (d : PyData), ds[i]? = some d → EvT K tt (inB s vs j (.d d)) (f i)) (he : ∀ (i : Nat) (d : PyData), ds[i]? = some d → f i = true → Ev K te (inB s vs j (.d d)) (v i)) :
    EvF K (tLc (iTup K tl) (gName j) tt te vs) s (outs ds.length f v) := fun B σ H Q S q =>
  h B σ H _ S fun u H1 e1 r1 => by
    have S1 := S.mono e1
    obtain ⟨a, us, rfl, g, rr⟩ := tv_get S1 r1
    have hlen : us.length = ds.length := by rw [rr.len, List.length_map]
    refine ⟨a, rfl, ⟨us, g⟩, fun D nD => ?_⟩
    refine lc_tup (xs := us) (fun i H' => CW K B s σ H1 D (outs i f v) H') (cw_start nD) (fun i H' _ c => same_t c.1 g) (fun i y H' hi c => ?_) (fun H' c => cw_end (by rw [hlen] at c; exact c) fun a us H2 e2 ha ea rr => q a us H2 (e1.trans e2) (by rw [ea]; exact e1.free nD) ha rr)
    obtain ⟨w1, hw, rw1⟩ := rr.getv hi
    rw [List.getElem?_map] at hw
    cases hp : ds[i]? with
    | none => rw [hp] at hw; cases hw
    | some d =>
      rw [hp] at hw
      obtain rfl : W.d d = w1 := Option.some.inj hw
      have hlt : i < ds.length := (List.getElem?_eq_some_iff.mp hp).1
      refine ⟨wipe_set hj, ?_⟩
      have hz : (outs i f v).length < sizeLine := Nat.lt_of_le_of_lt (outs_len i f v) (by rw [sizeLine_eq]; omega)
      have S2 : Sat K B ⟨(wipeG s.g vs).set j (some (.d d)), s.h⟩ ((wipe σ vs).set j (some y)) H1 := ⟨S1.hh, (wipe_sat S1.gg vs).set rw1 j⟩
      obtain ⟨e, acc, hD, r⟩ := c
      have S3 := cw_sat S2 nD e ⟨_, hD⟩
      exact cw_turn ⟨e, acc, hD, r⟩ S3 nD rfl hz (ht i d hp) (he i d hp) (fun hb H2 c2 => by rw [outs_yes hb]; exact c2) (fun hb H2 c2 => by rw [outs_no hb]; exact c2)
theorem evf_lcTM {j : Nat} {vs : List Nat} {ds : List PyData} (p : PyData → PyData) (h : Ev K tl s (wt ds)) (hl : ds.length ≤ 16000000) (hj : j ∈ vs) (he : ∀ d ∈ ds, Ev K te (inB s vs j (.d d)) (.d (p d))) :
    EvF K (tLc (iTup K tl) (gName j) tYes te vs) s ((ds.map p).map .d) := by
  refine evf_is (evf_lcT (fun _ => true) (fun i => .d (p (ds.getD i .none))) h hl hj (fun _ _ _ => et_yes) (fun i d hd _ => ?_)) ?_
  · have e : ds.getD i .none = d := by rw [List.getD_eq_getElem?_getD, hd]; rfl
    rw [e]
    exact he d (List.mem_of_getElem? hd)
  · rw [outs_all, List.map_map]
    exact range_map ds .none fun d => W.d (p d)
end
end DL
namespace DL
open PySem PySem.Spec PyProof.Rows L2 TL
/-- a call that raises nothing, whatever comes back -/
theorem evr_callT {K : PySem.W.Frag} {s : S} {E E1 : L2.St → XK} {E2 : XK} {tr : TA} {t : Tr} {xs : List W} {k : W → Prop} {x : Value → Prop} (h : EvA K tr s xs) (ht : t xs [] (fun w' Δ' => Δ' = [] ∧ k w') (fun _ _ => False)) : EvR K E (tCall (spOf K t) [] E2 tr) s k x := fun B σ H Q S q _ =>
  h B σ H _ S fun vs H1 e1 r1 => by
    have S1 := S.mono e1
    refine ⟨ads s.h ++ B, xs, [], _, _, sath_mt S1.hh, by rw [List.append_nil]; exact r1, ht, ?_, fun _ _ _ z => z.elim⟩
    rintro w' Δ' v H' ⟨rfl, hk⟩ _ f r
    exact q w' v H' hk (e1.trans (fr_nil_same f)) r
end DL

namespace DL
open PySem PySem.Spec PyProof.Rows L2 TL
/-! ### a try whose one clause tests a tuple of classes, without a name; its suite may raise -/
def wTup (K : PySem.W.Frag) (cs : List Value) (ts : Addr → Value → Option Addr → L2.TS) (Wout : WX) (D : Ends) : WX :=
  fun cls d σ H => ∃ b, PySem.W.exmAny K cls cs = some b ∧ (b = true → ∀ a, H a = none → ts a cls d D σ H) ∧ (b = false → Wout cls d σ H)
def tTryTup (K : PySem.W.Frag) (cs : List Value) (tb : WX → L2.TS) (ts : Addr → Value → Option Addr → L2.TS) (Wout : WX) : L2.TS := fun D σ H => tb (wTup K cs ts Wout D) D σ H
/-- the test of a clause: it may lay a tuple -/
def TstX (X : Cx) (t : Expr) (cs : List Value) : Prop :=
  ∀ {a : Addr} {pn pins : List (Addr × Obj)} {σ : L2.St} {H : Hp} {s : Shared} {cls : Value} {b : Bool} {Q : Bool → Shared → Prop} {E : Value → Shared → Prop}, Inv (X.suite a pn) pins σ H s → X.K.In s.heap →
    PySem.W.Looks (model X.prog X.w) s.heap (typeOf (.ref a)) cls → PySem.W.exmAny X.K cls cs = some b → (∀ h', (∀ q o, s.heap.get? q = some o → h'.get? q = some o) → Q b { s with heap := h' }) →
    wpAny (model X.prog X.w) (X.A.mark (some (.ref a))) (eval t X.env) (fun c s1 => wpAny (model X.prog X.w) (X.A.mark (some (.ref a))) (excMatches (.ref a) c) Q E s1) E s
theorem nm_test {X : Cx} {x : Str} {c : Value} {np : Pos} (hc : Names X x c) {a : Addr} {pn pins : List (Addr × Obj)} {σ : L2.St} {H : Hp} {s : Shared} {Q : Value → Shared → Prop} {E : Value → Shared → Prop} (S : Inv (X.suite a pn) pins σ H s) (q : Q c s) :
    wpAny (model X.prog X.w) (X.A.mark (some (.ref a))) (eval (.Name x np) X.env) Q E s := by
  rcases hc with ⟨g1, g2, m | ⟨m, v, n⟩⟩
  · exact ld_glob (X := X.suite a pn) S g1 m q g2
  · exact ld_blt (X := X.suite a pn) S g1 m v q n g2
theorem tst_two {X : Cx} {x y : Str} {c d : Value} {p q r : Pos} {k : Nat} (h1 : Names X x c) (h2 : Names X y d) : TstX X (.Tuple [.Name x p, .Name y q] k r) [c, d] := fun {_ _ _ _ _ s _ _ _ _} S I LT hx kk => by
  refine wpAny_Tuple (wpAny_items_cons (nm_test h1 S (wpAny_items_cons (nm_test h2 S (wpAny_items_nil ⟨by rw [sizeLine_eq]; show 2 ≤ _; decide, ?_⟩)))))
  have up : ∀ q o, s.heap.get? q = some o → (s.heap.push { cls := .type "tuple", data := .seq [c, d].toArray }).get? q = some o := fun _ _ z => Heap.get?_push_of_some _ z
  exact (PySem.W.exm_tup2 (I.keeps up) (LT.keeps up) (Heap.get?_push_size s.heap rfl) hx).here (kk _ up)
theorem tst_three {X : Cx} {x y z : Str} {c d e : Value} {p q r u : Pos} {k : Nat} (h1 : Names X x c) (h2 : Names X y d) (h3 : Names X z e) : TstX X (.Tuple [.Name x p, .Name y q, .Name z u] k r) [c, d, e] := fun {_ _ _ _ _ s _ _ _ _} S I LT hx kk => by
  refine wpAny_Tuple (wpAny_items_cons (nm_test h1 S (wpAny_items_cons (nm_test h2 S (wpAny_items_cons (nm_test h3 S (wpAny_items_nil ⟨by rw [sizeLine_eq]; show 3 ≤ _; decide, ?_⟩)))))))
  have up : ∀ q o, s.heap.get? q = some o → (s.heap.push { cls := .type "tuple", data := .seq [c, d, e].toArray }).get? q = some o := fun _ _ z => Heap.get?_push_of_some _ z
  exact (PySem.W.exm_tup3 (I.keeps up) (LT.keeps up) (Heap.get?_push_size s.heap rfl) hx).here (kk _ up)
theorem fly_more {B h h' : Heap} {l : List Env} {a : Addr} {Z : Obj → Prop} (up : ∀ q o, h.get? q = some o → h'.get? q = some o) (f : HandSPX.FlyingZ B l a Z h) : HandSPX.FlyingZ B l a Z h' := by
  obtain ⟨f1, f2, f3, oe, vs, T, oT, ts, e1, e2, e3, e4, e5, e6, e7, e8, e9⟩ := f
  exact ⟨fun b o e => up _ _ (f1 b o e), f2, f3.of_keeps fun b o e _ => ⟨o, up _ _ e, rfl⟩, oe, vs, T, oT, ts, up _ _ e1, e2, e3, e4, e5, e6, up _ _ e7, e8, e9⟩
theorem upto_more {h h' : Heap} (up : ∀ q o, h.get? q = some o → h'.get? q = some o) : h.UpToSlots h' := fun b o e _ => ⟨o.slots, up b o e⟩
section
variable {X : Cx} {t : Expr} {cs : List Value} {body suite : List Stmt} {b₀ : Stmt} {pos pos' : Pos} {tb : WX → L2.TS} {ts : Addr → Value → Option Addr → L2.TS} {Wout : WX}
/-- an error flies on -/
theorem fly_on {D : Ends} {pins : List (Addr × Obj)} {a : Addr} {B g : Heap} {sI s1 : Shared} {τ : L2.St} {G : Hp} {cls : Value} {d : Option Addr} (hs : X.stack = X.env :: X.outer) (hf : X.env.frame = some X.env.locals) (tk : L2.Takes X Wout) (J : Inv X pins τ G sI)
    (nb : ∀ b o, sI.heap.get? b = some o → b ∉ frs X.stack → B.get? b = some o) (up : sI.heap.UpToSlots g) (fl : HandSPX.FlyingZ B (X.env :: X.outer) a (L2.Zc cls d) g) (na : G a = none) (os : s1.os = sI.os) (ag : AllBare s1.gens) (w : Wout cls d τ G) :
    wpAny (model X.prog X.w) X.A (handleBy (.ref a) X.env []) (SP X pins D) X.xe { s1 with heap := g } := by
  have out : wpAny (model X.prog X.w) X.A (setFlight (.ref a) X.env.frame) (fun _ z => wpAny (model X.prog X.w) X.A (throw (.ref a) : Sem Flow) (SP X pins D) X.xe z) X.xe { s1 with heap := g } := by
    rw [hf]
    exact HandSPX.setFlight_upZ fl fun g2 hh2 u2 => wpAny_throw (tk _ _ ⟨a, B, sI, pins, τ, G, cls, d, rfl, J, nb, up.trans u2, .inr (.inr (by rw [hs]; exact hh2)), na, os, ag, w⟩)
  obtain ⟨_, _, _, o2, v2, T, oT, tt, he, hz, hd, h1, hr⟩ := id fl
  refine wpAny_handleBy_nil ?_
  unfold PySem.passOn
  refine wpAny_bind (wpAny_field he hd h1 ?_)
  rw [if_neg (by simp : ¬ (Value.ref T == Value.none) = true)]
  first
    | exact wpAny_bind (wpAny_pure (wpAny_bind out))
    | exact wpAny_bind out
theorem ps_try_tupX (hs : X.stack = X.env :: X.outer) (hf : X.env.frame = some X.env.locals) (hc : TstX X t cs) (hpa : ∀ hd : Option Value, PassesOwnAt (model X.prog X.w) (X.A.mark hd) X.A X.env X.xe) (tk : L2.Takes X Wout)
    (hb : ∀ (W : WX) (pn : List (Addr × Obj)) (xe : Value → Shared → Prop), L2N.Takes (X.tr pn xe) W → PassesOwn (model X.prog X.w) X.A X.env xe → PSs (X.tr pn xe) body (tb W))
    (hsu : ∀ (a : Addr) (oe : Obj) (cls : Value) (d : Option Addr) (pn : List (Addr × Obj)), L2.Takes (L2H.suiteX X a ((a, oe) :: pn)) Wout → L2H.HotC (L2H.suiteX X a ((a, oe) :: pn)) → PSs (L2H.suiteX X a ((a, oe) :: pn)) (b₀ :: suite) (ts a cls d)) :
    PS X (.Try body [.ExceptHandler (some t) none (b₀ :: suite) pos'] [] [] pos) (tTryTup X.K cs tb ts Wout) := by
  refine ⟨fun pins s σ H D I h => wpAny_Try_except ?_⟩
  have k := I.ok
  have frA : X.A.frames = some (X.env :: X.outer) := by rw [k.frames, hs]
  refine wpAny_mono ((hb (wTup X.K cs ts Wout D) (X.pn ++ pins) (fun e t1 => wpAny (model X.prog X.w) X.A (noteFrame e X.env) (fun _ t2 => wpAny (model X.prog X.w) X.A (setFlight e none)
    (fun _ t3 => wpAny (model X.prog X.w) X.A (handleBy e X.env [.ExceptHandler (some t) none (b₀ :: suite) pos']) (SP X pins D) X.xe t3) X.xe t2) X.xe t1) (fun u s1 xx => ?_) PassesOwn.looking).run [] s σ H D (I.toTry _) h) (fun f s1 hsp => ?_) fun e s1 he => he
  · obtain ⟨a, B, sI, _, τ, G, cls, d, rfl, J0, nb, up, sk, na, os, ag, b, hx, yes, no⟩ := xx
    have J : Inv X pins τ G sI := J0.ofTry k
    have sk2 : Sky B (X.env :: X.outer) a (L2N.Zn cls d) X.env.locals s1.heap := hs ▸ sk
    show wpAny (model X.prog X.w) X.A (noteFrame (.ref a) X.env) _ _ _
    refine L2N.Sky.land L2N.Zn.steady frA hf sk2 fun g fl ug => ?_
    have J1 : Inv X pins τ G { s1 with heap := g } := J.landed nb fl.1 (up.trans ug) os ag
    obtain ⟨o1, v1, ge, gz, gd⟩ := fl.there
    have nfr := no_frame fl.2.2.1 ge gd
    have nL : a ≠ X.env.locals := fun z => nfr (List.mem_filterMap.mpr ⟨X.env, List.mem_cons_self, by rw [hf, z]⟩)
    have nF : a ∉ X.fs := fun hm => (List.mem_filterMap.mp hm).elim fun e ⟨he, q⟩ => nfr (List.mem_filterMap.mpr ⟨e, List.mem_cons_of_mem _ he, q⟩)
    have LT : PySem.W.Looks (model X.prog X.w) g (typeOf (.ref a)) cls := fun A Q E t k q => wpAny_typeOf_ref (k _ _ ge) (by rw [gz.1]; exact q)
    refine wpAny_handleBy_cons (codeAny_handlers_test ?_) (fun q => nomatch q)
    refine hc (J1.suite ge gd na nL nF) J1.kIn LT hx fun g1 u1 => ?_
    have fl1 := fly_more u1 fl
    have ug1 := (up.trans ug).trans (upto_more u1)
    cases b with
    | false => exact fly_on hs hf tk J nb ug1 (L2H.flyingZ_imp (fun o z => z.zc) fl1) na os ag (no rfl)
    | true =>
      refine codeAny_handlers_suite ?_
      refine HandSPX.lands_againZ fl1 fun g2 fl2 u2 => ?_
      have J2 : Inv X pins τ G { s1 with heap := g2 } := J.landed nb fl2.1 (ug1.trans u2) os ag
      obtain ⟨o2, v2, e2, z2, d2⟩ := fl2.there
      have tkS : L2.Takes (L2H.suiteX X a ((a, o2) :: (X.pn ++ pins))) Wout := fun u z x => by
        obtain ⟨b1, b2, b3, b4, b5, b6, b7, b8, b9, b10, b11⟩ := x
        exact tk u z ⟨b1, b2, b3, pins, b5, b6, b7, b8, b9, L2H.unsuiteX b10 k, b11⟩
      have hot : L2H.HotC (L2H.suiteX X a ((a, o2) :: (X.pn ++ pins))) := ⟨(a, o2), ⟨rfl, v2, d2, z2.2.2 v2 d2⟩, List.mem_cons_self⟩
      refine wpAny_mono ((hsu a o2 cls d (X.pn ++ pins) tkS hot).run [] _ τ G _ (L2H.suiteX_of (J2.suite e2 d2 na nL nF)) (yes rfl a na)) (fun f z hsp => ?_) fun e z q => hpa (some (.ref a)) e z q
      cases f with
      | next => exact hsp.elim fun τ2 ⟨G2, J3, q⟩ => ⟨τ2, G2, L2H.unsuiteX J3 k, q⟩
      | brk => exact hsp.elim fun τ2 ⟨G2, J3, q⟩ => ⟨τ2, G2, L2H.unsuiteX J3 k, q⟩
      | cont => exact hsp.elim fun τ2 ⟨G2, J3, q⟩ => ⟨τ2, G2, L2H.unsuiteX J3 k, q⟩
      | ret u => exact hsp.elim fun v ⟨τ2, G2, J3, r, q⟩ => ⟨v, τ2, G2, L2H.unsuiteX J3 k, r, q⟩
  · have := end_try I f hsp
    cases f with
    | next => exact wpAny_execs_nil this
    | brk => exact this
    | cont => exact this
    | ret u => exact this
/-- .. whose suite raises nothing -/
theorem ps_try_tupD (hs : X.stack = X.env :: X.outer) (hf : X.env.frame = some X.env.locals) (hc : TstX X t cs) (tk : L2.Takes X Wout)
    (hb : ∀ (W : WX) (pn : List (Addr × Obj)) (xe : Value → Shared → Prop), L2.Takes (X.tr pn xe) W → PassesOwn (model X.prog X.w) X.A X.env xe → PSs (X.tr pn xe) body (tb W))
    (hsu : ∀ (a : Addr) (oe : Obj) (cls : Value) (d : Option Addr) (pn : List (Addr × Obj)), L2.Zc cls d oe → (∃ vs, oe.data = .fields vs) → PSs (X.suite a ((a, oe) :: pn)) (b₀ :: suite) (ts a cls d)) :
    PS X (.Try body [.ExceptHandler (some t) none (b₀ :: suite) pos'] [] [] pos) (tTryTup X.K cs tb ts Wout) := by
  refine ⟨fun pins s σ H D I h => wpAny_Try_except ?_⟩
  have k := I.ok
  have frA : X.A.frames = some (X.env :: X.outer) := by rw [k.frames, hs]
  refine wpAny_mono ((hb (wTup X.K cs ts Wout D) (X.pn ++ pins) (fun e t1 => wpAny (model X.prog X.w) X.A (noteFrame e X.env) (fun _ t2 => wpAny (model X.prog X.w) X.A (setFlight e none)
    (fun _ t3 => wpAny (model X.prog X.w) X.A (handleBy e X.env [.ExceptHandler (some t) none (b₀ :: suite) pos']) (SP X pins D) X.xe t3) X.xe t2) X.xe t1) (fun u s1 xx => ?_) PassesOwn.looking).run [] s σ H D (I.toTry _) h) (fun f s1 hsp => ?_) fun e s1 he => he
  · obtain ⟨a, B, sI, _, τ, G, cls, d, rfl, J0, nb, up, sk, na, os, ag, b, hx, yes, no⟩ := xx
    have J : Inv X pins τ G sI := J0.ofTry k
    have sk2 : Sky B (X.env :: X.outer) a (L2.Zc cls d) X.env.locals s1.heap := hs ▸ sk
    show wpAny (model X.prog X.w) X.A (noteFrame (.ref a) X.env) _ _ _
    refine Sky.land L2.Zc.steady frA hf sk2 fun g fl ug => ?_
    have J1 : Inv X pins τ G { s1 with heap := g } := J.landed nb fl.1 (up.trans ug) os ag
    obtain ⟨o1, v1, ge, gz, gd⟩ := fl.there
    have nfr := no_frame fl.2.2.1 ge gd
    have nL : a ≠ X.env.locals := fun z => nfr (List.mem_filterMap.mpr ⟨X.env, List.mem_cons_self, by rw [hf, z]⟩)
    have nF : a ∉ X.fs := fun hm => (List.mem_filterMap.mp hm).elim fun e ⟨he, q⟩ => nfr (List.mem_filterMap.mpr ⟨e, List.mem_cons_of_mem _ he, q⟩)
    have LT : PySem.W.Looks (model X.prog X.w) g (typeOf (.ref a)) cls := fun A Q E t k q => wpAny_typeOf_ref (k _ _ ge) (by rw [gz.1]; exact q)
    refine wpAny_handleBy_cons (codeAny_handlers_test ?_) (fun q => nomatch q)
    refine hc (J1.suite ge gd na nL nF) J1.kIn LT hx fun g1 u1 => ?_
    have fl1 := fly_more u1 fl
    have ug1 := (up.trans ug).trans (upto_more u1)
    cases b with
    | false => exact fly_on hs hf tk J nb ug1 fl1 na os ag (no rfl)
    | true =>
      refine codeAny_handlers_suite ?_
      refine HandSPX.lands_againZ fl1 fun g2 fl2 u2 => ?_
      have J2 : Inv X pins τ G { s1 with heap := g2 } := J.landed nb fl2.1 (ug1.trans u2) os ag
      obtain ⟨o2, v2, e2, z2, d2⟩ := fl2.there
      exact wpAny_mono ((hsu a o2 cls d (X.pn ++ pins) z2 ⟨_, d2⟩).run [] _ τ G _ (J2.suite e2 d2 na nL nF) (yes rfl a na)) (fun f z hsp => end_suite k f hsp) fun _ _ q => q.elim
  · have := end_try I f hsp
    cases f with
    | next => exact wpAny_execs_nil this
    | brk => exact this
    | cont => exact this
    | ret u => exact this
end
section
variable {K : PySem.W.Frag} {s : S} {E : L2.St → XK} {O : Out} {cs : List Value} {tb : WX → L2.TS} {ts : Addr → Value → Option Addr → L2.TS} {Wout : WX}
/-- read: the suite may raise -/
theorem hs_tryTupX (Xb : Value → S → Prop) (hb : ∀ Wv : WX, HS K (WE Wv) (tb Wv) s { O with x := Xb })
    (hs : ∀ c s', Xb c s' → ∃ b, PySem.W.exmAny K c cs = some b ∧ (b = true → ∀ a, HS K (WE Wout) (ts a c none) s' O) ∧ (b = false → O.x c s')) :
    HS K (WE Wout) (tTryTup K cs tb ts Wout) s O := fun B σ H D S q =>
  hb (wTup K cs ts Wout D) B σ H D S ⟨q.n, q.r, q.b, q.c, fun c s' σ' H' hx S' f => by
    obtain ⟨b, e, h1, h2⟩ := hs c s' hx
    exact ⟨b, e, fun hb a ha => h1 hb a B σ' H' _ S' (q.step f), fun hb => q.x c s' σ' H' (h2 hb) S' f⟩⟩
/-- read: the clause takes all, its suite raises nothing -/
theorem hs_tryTup0 {E2 : L2.St → XK} (Xb : Value → S → Prop) (hb : ∀ Wv : WX, HS K (WE Wv) (tb Wv) s { O with x := Xb })
    (hs : ∀ c s', Xb c s' → PySem.W.exmAny K c cs = some true ∧ ∀ a, HS K E2 (ts a c none) s' { O with x := fun _ _ => False }) :
    HS K E (tTryTup K cs tb ts Wout) s O := fun B σ H D S q =>
  hb (wTup K cs ts Wout D) B σ H D S ⟨q.n, q.r, q.b, q.c, fun c s' σ' H' hx S' f => by
    obtain ⟨e, h1⟩ := hs c s' hx
    refine ⟨true, e, fun hb a ha => h1 a B σ' H' _ S' ?_, fun hb => by cases hb⟩
    exact ⟨fun s2 σ2 H2 hn S2 f2 => q.n s2 σ2 H2 hn S2 (f.trans f2), fun w Δ v H2 hr S2 f2 r2 => q.r w Δ v H2 hr S2 (f.trans f2) r2,
      fun s2 σ2 H2 hn S2 f2 => q.b s2 σ2 H2 hn S2 (f.trans f2), fun s2 σ2 H2 hn S2 f2 => q.c s2 σ2 H2 hn S2 (f.trans f2), fun _ _ _ _ z => z.elim⟩⟩
end
/-! ### methods whose errors have no context -/
section
variable {P : Program} {w : World} {K : PySem.W.Frag} {mg : Str → Option Value} {base : Heap}
theorem km_ofN {q : Str} {C : Addr} {m : Str} {st : Stmt} {f : Addr} {fd : FuncData} {N ps : List Str} {k : Nat} {t : Tr} (F : Fun K m q st f fd) (hm : Meth K C m f) (hb : Binds K fd ps []) (S : FnScope N ps (defScope st)) (len : ∀ xs Δ k ex, t xs Δ k ex → xs.length = ps.length)
    (h : ∀ (cdv : Value) (A : Around) (outer : List Env) (s : Shared) (H : Hp) (E : XK), Room k (A.deeper (envOfC q (defScope st) s.heap.objs.size f cdv)) →
      ∃ ts, PSs (cxOf (L2N.CX P w) P w K mg base N q (defScope st) f cdv A outer s H E) (defBody st) ts ∧ ∀ xs Δ k ex, t xs Δ k ex → HS K (fun _ => E) ts ⟨xs.map some ++ List.replicate (N.length - xs.length) none, Δ⟩ { n := fun s' => k wn s'.h, r := k, x := fun c s' => ex c s'.h }) :
    KnM P w K mg base (L2N.CX P w) (k + 1) C m ps t := ⟨f, fd, fn_okN F S len h, hm, hb⟩
end
section
variable {X : Cx} {k j : Nat} {C : Addr} {ps : List Str} {m : Str} {pos apos : Pos} {e o : Expr} {es : List Expr} {ta : TE} {t : TA} {tr : Tr} {Wv : WX} {P : Program} {w : World} {K : PySem.W.Frag} {mg : Str → Option Value} {base : Heap} {A : Around}
theorem pe_kmN {pl : Sem Bool} {L : List Str} (c : ClsF K C L) (h : KnM P w K mg base (L2N.CX P w) k C m ps tr) (hr : Room j A) (hj : k ≤ j) (he : PE X o ta) (ha : PA X (e :: es) t) (tk : L2N.Takes X Wv) (hA : X.A = A := by rfl) (hX : At X P w K mg base := by exact ⟨rfl, rfl, rfl, rfl, rfl⟩)
    (hst : starEach (e :: es) X.env = (false, eval e X.env) :: starEach es X.env := by rfl) (hpl : (backTo pos (starEach es X.env)).any (·.1) = false := by rfl)
    (ht : eval (.Call (.Attribute o m apos) (e :: es) [] pos) X.env = (do
      let ov ← eval o X.env
      standAt apos.atName
      let (f, first) ← holding [ov] (getMethod ov m pl)
      callWith pos f first (backTo pos (starEach (e :: es) X.env)) (backToKw pos (keywordEach [] X.env))) := by rfl) :
    PE X (.Call (.Attribute o m apos) (e :: es) [] pos) (tMethS C m (spOf K tr) (WE Wv) ta t) := by
  obtain ⟨f, fd, F, hm, hb⟩ := h
  obtain ⟨rfl, rfl, rfl, rfl, rfl⟩ := hX
  subst hA
  exact pe_methS (pl := pl) he c.1 hm F (hr.mono hj) hb (fun σ => L2N.passAt tk σ) ha hst hpl ht
theorem pe_kmN0 {pl : Sem Bool} {L : List Str} (c : ClsF K C L) (h : KnM P w K mg base (L2N.CX P w) k C m ps tr) (hr : Room j A) (hj : k ≤ j) (he : PE X o ta) (tk : L2N.Takes X Wv) (hA : X.A = A := by rfl) (hX : At X P w K mg base := by exact ⟨rfl, rfl, rfl, rfl, rfl⟩)
    (ht : eval (.Call (.Attribute o m apos) [] [] pos) X.env = (do
      let ov ← eval o X.env
      standAt apos.atName
      let (f, first) ← holding [ov] (getMethod ov m pl)
      callWith pos f first (backTo pos (starEach [] X.env)) (backToKw pos (keywordEach [] X.env))) := by rfl) :
    PE X (.Call (.Attribute o m apos) [] [] pos) (tMethS C m (spOf K tr) (WE Wv) ta tNil) := by
  obtain ⟨f, fd, F, hm, hb⟩ := h
  obtain ⟨rfl, rfl, rfl, rfl, rfl⟩ := hX
  subst hA
  exact pe_methS0 (pl := pl) he c.1 hm F (hr.mono hj) hb (fun σ => L2N.passAt tk σ) ht
end
theorem exm_two {K : PySem.W.Frag} {c a b : Value} {x y : Bool} (h1 : PySem.W.exmOne K c a = some x) (h2 : PySem.W.exmOne K c b = some y) : PySem.W.exmAny K c [a, b] = some (x || y) := by
  have e : PySem.W.exmAny K c [] = some false := rfl
  have e1 : PySem.W.exmAny K c [b] = some (y || false) := by unfold PySem.W.exmAny; rw [h2, e]
  unfold PySem.W.exmAny
  rw [h1, e1, Bool.or_false]
theorem exm_three {K : PySem.W.Frag} {c a b d : Value} {x y z : Bool} (h1 : PySem.W.exmOne K c a = some x) (h2 : PySem.W.exmOne K c b = some y) (h3 : PySem.W.exmOne K c d = some z) : PySem.W.exmAny K c [a, b, d] = some (x || (y || z)) := by
  have e1 := exm_two h2 h3
  unfold PySem.W.exmAny
  rw [h1, e1]
end DL

namespace DL
open PySem PySem.Spec PyProof.Rows L2 TL
/-! ### a list's pop at a place, insert -/
def rIns : V → List V → Hp → VK → Prop := fun x us H Q => ∃ (a : Addr) (vs : List V) (j : Int) (v : V), x = V.ref a ∧ us = [V.int j, v] ∧ H a = some (.lst vs) ∧ vs.length < sizeLine ∧ 0 ≤ j ∧ j < 2 ^ 63 ∧ Q V.non (upd H a (.lst (vs.take j.toNat ++ [v] ++ vs.drop j.toNat)))
theorem mt_insM {X : Cx} : MtR X "list.insert" rIns := mt_insert
theorem mt_popAM {X : Cx} : MtR X "list.pop" rPopAt := mt_popAt
section
variable {K : PySem.W.Frag} {s s1 s' : S} {ta tb te tl : TE} {tt : TT} {x y z w : W} {B : List Addr} {H H' : Hp} {σ : L2.St} {E : L2.St → XK} {O : Out} {t1 t2 tz tu tw : L2.TS}
theorem rws_erase {M : Hp} {vs : List V} {ws : List W} (h : RWs K M vs ws) : ∀ k : Nat, RWs K M (vs.eraseIdx k) (ws.eraseIdx k) := by
  induction h with
  | nil => intro k; exact .nil
  | cons a r ih =>
    intro k
    cases k with
    | zero => exact r
    | succ k => exact .cons a (ih k)
theorem rws_drop {M : Hp} {vs : List V} {ws : List W} (h : RWs K M vs ws) : ∀ k : Nat, RWs K M (vs.drop k) (ws.drop k) := by
  induction h with
  | nil => intro k; rw [List.drop_nil, List.drop_nil]; exact .nil
  | cons a r ih =>
    intro k
    cases k with
    | zero => exact .cons a r
    | succ k => exact ih k
/-- l.pop(i), 0 ≤ i -/
theorem evg_popA {n i : Nat} {a : Addr} {xs : List W} {k : W → Del → Prop} {ex : Value → Del → Prop} (hn : s.h[n]? = some (a, .lst xs)) (ho : Ev K ta s (.o a)) (hi : Ev K tb s (wi (i : Int))) (hl : xs.length ≤ sizeLine) (hw : xs[i]? = some w)
    (h : k w (s.h.set n (a, .lst (xs.eraseIdx i)))) : EvG K E (tBM K "list" rPopAt ta (tCons tb tNil)) s k ex := fun B σ H Q S q _ =>
  ho B σ H _ S fun u H1 e1 r1 => by
    cases (show u = V.ref a from r1)
    have S1 := S.mono e1
    refine ⟨tyw_v (tyw_l (lv_o n hn)) S1 r1, hi B σ H1 _ S1 fun t H2 e2 r2 => ?_⟩
    have S2 := S1.mono e2
    obtain ⟨vs, hv, rv⟩ := S2.hh.cell _ (List.mem_of_getElem? hn)
    have hin : i < xs.length := (List.getElem?_eq_some_iff.mp hw).1
    have hlen := rv.len
    obtain ⟨v, hv1, rv1⟩ := rv.get hw
    have kk := cell_set (c' := .lst (xs.eraseIdx i)) (o := .lst (vs.eraseIdx i)) S2 hn ⟨_, rfl, rws_erase rv i⟩
    have hz : ((i : Int) < 2 ^ 63) := by rw [sizeLine_eq] at hl; omega
    have hsq : PySem.seqIndex? (i : Int) vs.length = some i := by
      unfold PySem.seqIndex?
      have e0 : (if (i : Int) < 0 then (i : Int) + vs.length else (i : Int)) = (i : Int) := if_neg (by omega)
      rw [e0]
      rw [if_pos (by rw [Bool.and_eq_true]; exact ⟨decide_eq_true (by omega), decide_eq_true (by omega)⟩)]
      rfl
    exact ⟨a, vs, (i : Int), i, v, rfl, by rw [rw_i r2], hv, by omega, hz, hsq, hv1, q w _ v _ h kk.1 ((Fr.of (e1.trans e2)).trans kk.2) (rv1.mono kk.2.msk)⟩
/-- l.insert(i, x), 0 ≤ i -/
theorem evg_ins {n i : Nat} {a : Addr} {xs : List W} {k : W → Del → Prop} {ex : Value → Del → Prop} (hn : s.h[n]? = some (a, .lst xs)) (ho : Ev K ta s (.o a)) (hi : Ev K tb s (wi (i : Int))) (he : Ev K te s w) (hl : xs.length < sizeLine) (hz : i < 2 ^ 63)
    (h : k wn (s.h.set n (a, .lst (xs.take i ++ [w] ++ xs.drop i)))) : EvG K E (tBM K "list" rIns ta (tCons tb (tCons te tNil))) s k ex := fun B σ H Q S q _ =>
  ho B σ H _ S fun u H1 e1 r1 => by
    cases (show u = V.ref a from r1)
    have S1 := S.mono e1
    refine ⟨tyw_v (tyw_l (lv_o n hn)) S1 r1, hi B σ H1 _ S1 fun t H2 e2 r2 => he B σ H2 _ (S1.mono e2) fun v H3 e3 r3 => ?_⟩
    have S3 := (S1.mono e2).mono e3
    obtain ⟨vs, hv, rv⟩ := S3.hh.cell _ (List.mem_of_getElem? hn)
    have hlen := rv.len
    have kk := cell_set (c' := .lst (xs.take i ++ [w] ++ xs.drop i)) (o := .lst (vs.take i ++ [v] ++ vs.drop i)) S3 hn ⟨_, rfl, ((rv.take i).append (.cons r3 .nil)).append (rws_drop rv i)⟩
    refine ⟨a, vs, (i : Int), v, rfl, by rw [rw_i r2], hv, by omega, by omega, by omega, ?_⟩
    rw [Int.toNat_natCast]
    exact q wn _ V.non _ h kk.1 ((Fr.of ((e1.trans e2).trans e3)).trans kk.2) rn
end
/-! ### range(0, c * n, c) -/
theorem rg_up {c n : Nat} (h0 : 0 < c) (h1 : c < 1000000) (h2 : c * n < 1000000) : RgC 0 ((c * n : Nat) : Int) (c : Int) n := by
  have e : Builtin.Range.rangeSize 0 ((c * n : Nat) : Int) (c : Int) = n := by
    unfold Builtin.Range.rangeSize
    rw [if_pos (by omega)]
    by_cases hn : n = 0
    · subst hn
      rw [if_neg (by simp)]; rfl
    · have hp : 0 < c * n := Nat.mul_pos h0 (by omega)
      rw [if_pos (by omega)]
      have : (((c * n : Nat) : Int) - 0 - 1) / (c : Int) = ((n - 1 : Nat) : Int) := by
        have e1 : ((c * n : Nat) : Int) - 0 - 1 = ((c * n - 1 : Nat) : Int) := by omega
        rw [e1, ← Int.natCast_ediv]
        congr 1
        obtain ⟨m, rfl⟩ : ∃ m, n = m + 1 := ⟨n - 1, by omega⟩
        rw [Nat.mul_succ, show c * m + c - 1 = (c - 1) + c * m by omega, Nat.add_mul_div_left _ _ h0, Nat.div_eq_of_lt (by omega)]
        omega
      rw [this]; omega
  refine ⟨by omega, by omega, ?_, e⟩
  have fit : ∀ v : Int, 0 ≤ v → v < 3000000 → Builtin.Range.rangeFitsLong v = true := fun v a b => by
    unfold Builtin.Range.rangeFitsLong
    rw [Bool.and_eq_true]
    exact ⟨decide_eq_true (by omega), decide_eq_true (by omega)⟩
  have hn : n ≤ c * n := Nat.le_mul_of_pos_left n h0
  unfold Builtin.Range.small
  rw [e, fit 0 (by omega) (by omega), fit _ (by omega) (by omega), fit (c : Int) (by omega) (by omega), fit (n : Int) (by omega) (by omega), if_pos (by omega), fit (((c * n : Nat) : Int) + ((c : Int) - 1)) (by omega) (by omega)]
  simp
theorem ix_nat {n i : Nat} (h : i < n) : ixN n (i : Int) = some i := by
  unfold ixN
  rw [if_pos (by omega), if_pos (by omega)]
  rfl
theorem erase_map {α β : Type} (f : α → β) : ∀ (l : List α) (i : Nat), (l.map f).eraseIdx i = (l.eraseIdx i).map f
  | [], _ => rfl
  | _ :: _, 0 => rfl
  | a :: l, i + 1 => by rw [List.map_cons, List.eraseIdx_cons_succ, List.eraseIdx_cons_succ, erase_map f l i, List.map_cons]
/-- a new list to a name, the block's last statement -/
theorem hs_newF {K : PySem.W.Frag} {s : S} {te : TE} {E : L2.St → XK} {O : Out} {j : Nat} {xs : List W} (h : EvF K te s xs) (h2 : ∀ a, a ∉ ads s.h → O.n ⟨s.g.set j (some (.o a)), (a, .lst xs) :: s.h⟩) : HS K E (tAsg te (gName j)) s O := fun B σ H D S q =>
  h B σ H _ S fun a vs H' e n ha r => by
    obtain ⟨c1, c2, c3⟩ := cell_new S e n ha r
    exact q.n _ _ H' (h2 a (fun z => S.hh.out n (List.mem_append_left _ z))) ⟨c1, (S.gg.mono c3).set (v := .ref a) (w := .o a) rfl j⟩ c2
/-! ### slices of lists -/
theorem cutW_mid {xs : List W} {i j : Nat} (h : i ≤ j) : cutW xs (some (i : Int)) (some (j : Int)) = (xs.drop i).take (j - i) := by
  unfold cutW
  rw [HT.sIx_nat, HT.sIx_nat]
  by_cases h1 : i ≤ xs.length
  · rw [Nat.min_eq_left h1]
    by_cases h2 : j ≤ xs.length
    · rw [Nat.min_eq_left h2]
    · rw [Nat.min_eq_right (by omega), List.take_of_length_le (by rw [List.length_drop]; omega), List.take_of_length_le (by rw [List.length_drop]; omega)]
  · rw [Nat.min_eq_right (by omega), Nat.min_eq_right (by omega), List.drop_eq_nil_of_le (by omega), List.drop_eq_nil_of_le (by omega)]
    simp
theorem cutW_from {xs : List W} {i : Nat} : cutW xs (some (i : Int)) none = xs.drop i := by
  unfold cutW
  rw [HT.sIx_nat, HT.sIx_none]
  by_cases h1 : i ≤ xs.length
  · rw [Nat.min_eq_left h1, List.take_of_length_le (by rw [List.length_drop]; omega)]
  · rw [Nat.min_eq_right (by omega), List.drop_eq_nil_of_le (by omega), List.drop_eq_nil_of_le (by omega)]
    simp
end DL

namespace DL
open PySem PySem.Spec PyProof.Rows L2 TL
/-! ### a comprehension whose step raises: a call of a def -/
theorem note_same {e : Value} {a b : Env} (h : a.frame = b.frame) : noteFrame e a = noteFrame e b := by
  unfold noteFrame PySem.frameOf
  rw [h]
/-- what a comprehension's block leaves: its error goes on in the frame of env -/
def CP (M : Model) (A : Around) (env : Env) (E : Value → Shared → Prop) (Q : Value → Shared → Prop) (acc : Value) (C : Addr) : Result → Shared → Prop
  | .ok _, t => ∃ m, t.heap.Ns C m ∧ ∀ g, Heap.SameBut C t.heap g → Q acc { t with heap := g }
  | .error u, t => ∃ m, t.heap.Ns C m ∧ ∀ g, Heap.SameBut C t.heap g → ∀ ce : Env, ce.frame = env.frame → wpAny M A (passOn "comprehension.variables-let-go" u ce : Sem Value) (fun _ _ => False) E { t with heap := g }
section
variable {M : Model} {A : Around} {E : Value → Shared → Prop} {s : Shared} {env : Env}
theorem comp_run {e : Expr} {scope : Scope} {pos : Pos} {mkAcc first : Sem Value} {c : Comprehension} {cs : List Comprehension} {cl : List (Str × Addr)} {Q : Value → Shared → Prop} (h1 : clausesOf e = c :: cs)
    (h2 : ∀ x, foldedSetIterable c.iter env x = pure x) (h3 : closureFor scope env = pure cl) (h4 : scope.kind = .function) (h5 : ∀ x ∈ scope.names, x.2 = .local → scope.names.lookup x.1 = some .local)
    (h : wpAny M A first (fun x t1 => wpAny M A (pyIter x) (fun it t2 => wpAny M A mkAcc (fun acc t3 => wpAny M A (newFunctionEnv scope env.globals cl [] env.qual none .none (some env))
      (fun ce t4 => ce.frame = env.frame ∧ codeAny M A (.compStart e 0 it acc { ce with scope := relabel scope env }) (CP M A env E Q acc ce.locals) t4) E t3) E t2) E t1) E s) :
    wpAny M A (comprehension e scope env pos mkAcc false first none) Q E s := by
  have same : ∀ {α : Type} {P : α → Shared → Prop}, ∀ (a : Value) (t : Shared), E a t → E a t := fun _ _ z => z
  unfold comprehension
  rw [h3, h1]
  refine wpAny_bind (wpAny_mono h (fun x t1 k1 => ?_) fun _ _ z => z)
  refine wpAny_bind (wpAny_standAt (wpAny_bind (wpAny_of_eq (h2 x) (wpAny_bind (wpAny_holding ?_)))))
  refine wpAny_mono k1 (fun it t2 k2 => ?_) fun _ _ z => z
  refine wpAny_standIf (wpAny_bind (wpAny_mono k2 (fun acc t3 k3 => ?_) fun _ _ z => z))
  refine wpAny_bind (wpAny_pure (wpAny_bind (wpAny_mono k3 (fun ce t4 k4 => ?_) fun _ _ z => z)))
  obtain ⟨fr, k4⟩ := k4
  dsimp only
  have lo : ∀ x ∈ (scope.names.filter fun (n, k) => (k == .local || k == .cell) && n != (".0" : Str)).reverse, x.2 = .local → Env.kindOf { ce with scope := relabel scope env } x.1 = some .local := fun x hx hl =>
    lookup_relabel_local (h5 x (List.mem_filter.mp (List.mem_reverse.mp hx)).1 hl)
  refine wpAny_holding (wpAny_bind (wpAny_attempt (wpAny_holding (wpAny_run (codeAny_mono k4 fun r t5 hr => ?_)))))
  cases r with
  | ok f =>
    obtain ⟨m, hn, hq⟩ := hr
    refine wpAny_bind (wpAny_holding ?_)
    exact wpAny_comp_letGo (cenv := { ce with scope := relabel scope env }) h4 _ t5 m lo hn fun g m' _ sb => wpAny_pure (hq g sb)
  | error u =>
    obtain ⟨m, hn, hq⟩ := hr
    refine wpAny_bind (wpAny_holding ?_)
    exact wpAny_comp_letGo (cenv := { ce with scope := relabel scope env }) h4 _ t5 m lo hn fun g m' _ sb => wpAny_mono (hq g sb _ fr) (fun _ _ z => z.elim) fun _ _ z => z
theorem frames_but {g h B B' : Heap} {C : Addr} (k : ∀ b, b ≠ C → h.get? b = g.get? b) (kb : ∀ b, B.get? b = none → B'.get? b = none) : ∀ {l : List Env}, C ∉ frs l → g.FunFrames B l → h.FunFrames B' l
  | [], _, _ => trivial
  | en :: l, hC, x => by
    obtain ⟨hk, ⟨L, o, hf, hn, ho, hd⟩, hr⟩ := x
    have hL : L ≠ C := fun z => hC (List.mem_filterMap.mpr ⟨en, List.mem_cons_self, by rw [hf, z]⟩)
    refine ⟨hk, ⟨L, o, hf, kb L hn, (k L hL).trans ho, hd⟩, frames_but k kb (fun z => ?_) hr⟩
    obtain ⟨e, he, q⟩ := List.mem_filterMap.mp z
    exact hC (List.mem_filterMap.mpr ⟨e, List.mem_cons_of_mem _ he, q⟩)
end
section
variable {X : Cx} {pins : List (Addr × Obj)} {σ τ : L2.St} {H G : Hp} {s3 s5 s6 : Shared} {fp : List Addr} {scope : Scope} {ce : Env} {E : XK}
/-- an error of the step: noted, the block's names let go, on in the def -/
theorem step_err {E0 : Value → Shared → Prop} {Q : Value → Shared → Prop} {acc u : Value} {pins2 : List (Addr × Obj)} (hs : X.stack = X.env :: X.outer) (hf : X.env.frame = some X.env.locals) (tk : L2.Takes X (fun cls d _ H => E cls d H)) (I3 : Inv X pins σ H s3)
    (f3 : ∀ b ∈ fp, FpOk X pins H b ∧ b < s3.heap.objs.size) (cL : ce.locals = s3.heap.objs.size) (cF : ce.frame = X.env.frame) (I : Inv (X.blk s3 H scope ce fp) pins2 τ G s5) (c : L2.CX X.prog X.w X.stack G s5 E u s6) :
    wpAny (model X.prog X.w) X.A (noteFrame u ce) (fun _ t => CP (model X.prog X.w) X.A X.env X.xe Q acc s3.heap.objs.size (.error u) t) E0 s6 := by
  have x := XE.of_call (W := fun cls d _ H => E cls d H) I (fun _ _ _ h => h) c
  obtain ⟨a0, B0, G0, cls0, d0, e0, fl0, _⟩ := c
  obtain ⟨a, B, sI, pins3, τ2, G2, cls, d, rfl, J, nb, up, sky, na, os, ag, w⟩ := x
  have e0 := Value.ref.inj e0
  subst e0
  have frA : X.A.frames = some (X.env :: X.outer) := by rw [← hs]; exact I3.ok.frames
  have sky2 : Sky B (X.env :: X.outer) a (L2.Zc cls d) ce.locals s6.heap := hs ▸ sky
  have nb : ∀ b o, sI.heap.get? b = some o → b ∉ frs (X.env :: X.outer) → B.get? b = some o := hs ▸ nb
  generalize hC : s3.heap.objs.size = C at cL f3
  have CfX : C ∉ frs (X.env :: X.outer) := fun z => by
    rcases List.mem_cons.mp (I3.stkSub C (hs ▸ z)) with q | q
    · have := I3.lt
      rw [hC, ← q] at this
      exact Nat.lt_irrefl _ this
    · exact I3.nofs (Nat.le_of_eq hC) q
  have fin : ∀ g, HandSPX.HeldZ B (X.env :: X.outer) a (L2.Zc cls d) X.env.locals g → s6.heap.UpToSlots g → CP (model X.prog X.w) X.A X.env X.xe Q acc C (.error (.ref a)) { s6 with heap := g } := by
    intro g held u1
    obtain ⟨h1, h2, h3, oe, vs, T, oT, ts, t1, t2, t3, t4, t5, t6, t7, t8, t9⟩ := held
    obtain ⟨m, ⟨oC, es, ep, n1, n2, n3, n4⟩, _⟩ := J.loc
    have n1 : sI.heap.get? C = some oC := by rw [← cL]; exact n1
    have bC := nb C oC n1 CfX
    refine ⟨m, ⟨oC, es, ep, h1 _ _ bC, n2, n3, n4⟩, fun h sb en ef => ?_⟩
    have naC : a ≠ C := fun z => by rw [z, bC] at h2; cases h2
    have nTC : T ≠ C := fun z => by rw [z, bC] at t5; cases t5
    have same : ∀ b, b ≠ C → h.get? b = g.get? b := fun b hb => sb.2 b hb
    have B1 : (PySem.W.hideAll B [C]).get? C = none := PySem.W.hideAll_none _ List.mem_cons_self
    have B2 : ∀ b, B.get? b = none → (PySem.W.hideAll B [C]).get? b = none := fun b hb => by
      cases q : (PySem.W.hideAll B [C]).get? b with
      | none => rfl
      | some o =>
        have := PySem.W.of_hideAll _ q
        rw [hb] at this; cases this
    have B3 : ∀ b o, (PySem.W.hideAll B [C]).get? b = some o → B.get? b = some o ∧ b ≠ C := fun b o e => ⟨PySem.W.of_hideAll _ e, fun z => by rw [z, B1] at e; cases e⟩
    have ff : h.FunFrames (PySem.W.hideAll B [C]) (X.env :: X.outer) := frames_but same B2 CfX h3
    unfold PySem.passOn
    refine wpAny_bind (wpAny_field ((same a naC).trans t1) t3 t4 ?_)
    rw [if_neg (by simp : ¬ (Value.ref T == Value.none) = true)]
    have J7 : Inv X pins σ G2 sI := I3.call' (ch := fp) J.os J.base J.hok J.bare fun b hb => ⟨(f3 b hb).1.2.2.2.1, (f3 b hb).1.2.1, (f3 b hb).1.2.2.2.2.1, (f3 b hb).1.2.2.2.2.2⟩
    have nC : G2 C = none := by have z : G2 ce.locals = none := J.free; rwa [cL] at z
    obtain ⟨f0, f1, f2, f4, f5, f6⟩ := I3.fpOk (b := C) (Nat.le_of_eq hC) nC
    have J8 := J7.turned (it := C) (h' := PySem.W.hideAll sI.heap [C]) (t' := sI.toks) (fun b o hb e => PySem.W.hideAll_get _ e (by simpa using hb)) f0 f1 f4 f5 f6
    have out : wpAny (model X.prog X.w) X.A (setFlight (.ref a) en.frame) (fun _ t => wpAny (model X.prog X.w) X.A (throw (.ref a) : Sem Value) (fun _ _ => False) X.xe t) X.xe { s6 with heap := h } := by
      rw [ef, hf]
      refine HandSPX.setFlight_anyZ (s := { s6 with heap := h }) (base := PySem.W.hideAll B [C]) (l := X.env :: X.outer) (e := a) (Z := L2.Zc cls d) (fl := rawInt X.env.locals) (fr := some X.env.locals) ?_ ff ?_ fun g2 k1 k2 k3 k4 => ?_
      · intro b o e
        obtain ⟨e1, e2⟩ := B3 b o e
        exact (same b e2).trans (h1 _ _ e1)
      · exact ⟨oe, vs, T, oT, ts, (same a naC).trans t1, t2, t3, t4, B2 _ t5, t6, (same T nTC).trans t7, t8, t9⟩
      · refine wpAny_throw (tk _ _ ⟨a, PySem.W.hideAll B [C], { sI with heap := PySem.W.hideAll sI.heap [C] }, pins, σ, G2, cls, d, rfl, J8, ?_, ?_, .inr (.inr ?_), na, os, ag, w⟩)
        · intro b o e hb
          have e : (PySem.W.hideAll sI.heap [C]).get? b = some o := e
          have e1 := PySem.W.of_hideAll _ e
          have e2 : b ≠ C := fun z => by
            rw [z, PySem.W.hideAll_none [C] (h := sI.heap) (b := C) List.mem_cons_self] at e
            cases e
          exact PySem.W.hideAll_get _ (nb b o e1 (hs ▸ hb)) (by simpa using e2)
        · intro b o e hd
          have e : (PySem.W.hideAll sI.heap [C]).get? b = some o := e
          have e1 := PySem.W.of_hideAll _ e
          have e2 : b ≠ C := fun z => by
            rw [z, PySem.W.hideAll_none [C] (h := sI.heap) (b := C) List.mem_cons_self] at e
            cases e
          obtain ⟨sl, q⟩ := (up.trans u1) b o e1 hd
          obtain ⟨sl2, q2⟩ := k4 b _ ((same b e2).trans q) hd
          exact ⟨sl2, q2⟩
        · rw [hs]
          exact ⟨k1, B2 _ h2, k2, k3⟩
    first
      | exact wpAny_bind (wpAny_pure (wpAny_bind out))
      | exact wpAny_bind out
  rw [note_same (b := X.env) cF]
  rcases sky2 with ⟨g1, g2, g3, oe, vs, g4, g5, g6, g7⟩ | fl | held
  · exact HandSPX.look_newZ L2.Zc.steady frA g3 hf g4 g1 g2 g6 g7 g5 fin
  · exact HandSPX.looks_onZ L2.Zc.steady frA hf fl fin
  · obtain ⟨_, _, _, oe, vs, T, oT, ts, t1, t2, t3, t4, t5, t6, t7, t8, t9⟩ := held
    obtain ⟨_, _, _, oe2, vs2, T2, oT2, ts2, q1, q2, q3, q4, q5, q6, q7, q8, q9⟩ := fl0
    rw [t1] at q1; cases q1
    rw [t3] at q3; cases q3
    rw [t4] at q4; cases q4
    rw [t7] at q7; cases q7
    rw [t8] at q8; cases q8
    rw [t9] at q9
    simp [rawInt] at q9
/-- .. without a context -/
theorem step_errN {E0 : Value → Shared → Prop} {Q : Value → Shared → Prop} {acc u : Value} {pins2 : List (Addr × Obj)} (hs : X.stack = X.env :: X.outer) (hf : X.env.frame = some X.env.locals) (tk : L2N.Takes X (fun cls d _ H => E cls d H)) (I3 : Inv X pins σ H s3)
    (f3 : ∀ b ∈ fp, FpOk X pins H b ∧ b < s3.heap.objs.size) (cL : ce.locals = s3.heap.objs.size) (cF : ce.frame = X.env.frame) (I : Inv (X.blk s3 H scope ce fp) pins2 τ G s5) (c : L2N.CX X.prog X.w X.stack G s5 E u s6) :
    wpAny (model X.prog X.w) X.A (noteFrame u ce) (fun _ t => CP (model X.prog X.w) X.A X.env X.xe Q acc s3.heap.objs.size (.error u) t) E0 s6 := by
  have x := L2N.XE.of_call (W := fun cls d _ H => E cls d H) I (fun _ _ _ h => h) c
  obtain ⟨a0, B0, G0, cls0, d0, e0, fl0, _⟩ := c
  obtain ⟨a, B, sI, pins3, τ2, G2, cls, d, rfl, J, nb, up, sky, na, os, ag, w⟩ := x
  have e0 := Value.ref.inj e0
  subst e0
  have frA : X.A.frames = some (X.env :: X.outer) := by rw [← hs]; exact I3.ok.frames
  have sky2 : Sky B (X.env :: X.outer) a (L2N.Zn cls d) ce.locals s6.heap := hs ▸ sky
  have nb : ∀ b o, sI.heap.get? b = some o → b ∉ frs (X.env :: X.outer) → B.get? b = some o := hs ▸ nb
  generalize hC : s3.heap.objs.size = C at cL f3
  have CfX : C ∉ frs (X.env :: X.outer) := fun z => by
    rcases List.mem_cons.mp (I3.stkSub C (hs ▸ z)) with q | q
    · have := I3.lt
      rw [hC, ← q] at this
      exact Nat.lt_irrefl _ this
    · exact I3.nofs (Nat.le_of_eq hC) q
  have fin : ∀ g, HandSPX.HeldZ B (X.env :: X.outer) a (L2N.Zn cls d) X.env.locals g → s6.heap.UpToSlots g → CP (model X.prog X.w) X.A X.env X.xe Q acc C (.error (.ref a)) { s6 with heap := g } := by
    intro g held u1
    obtain ⟨h1, h2, h3, oe, vs, T, oT, ts, t1, t2, t3, t4, t5, t6, t7, t8, t9⟩ := held
    obtain ⟨m, ⟨oC, es, ep, n1, n2, n3, n4⟩, _⟩ := J.loc
    have n1 : sI.heap.get? C = some oC := by rw [← cL]; exact n1
    have bC := nb C oC n1 CfX
    refine ⟨m, ⟨oC, es, ep, h1 _ _ bC, n2, n3, n4⟩, fun h sb en ef => ?_⟩
    have naC : a ≠ C := fun z => by rw [z, bC] at h2; cases h2
    have nTC : T ≠ C := fun z => by rw [z, bC] at t5; cases t5
    have same : ∀ b, b ≠ C → h.get? b = g.get? b := fun b hb => sb.2 b hb
    have B1 : (PySem.W.hideAll B [C]).get? C = none := PySem.W.hideAll_none _ List.mem_cons_self
    have B2 : ∀ b, B.get? b = none → (PySem.W.hideAll B [C]).get? b = none := fun b hb => by
      cases q : (PySem.W.hideAll B [C]).get? b with
      | none => rfl
      | some o =>
        have := PySem.W.of_hideAll _ q
        rw [hb] at this; cases this
    have B3 : ∀ b o, (PySem.W.hideAll B [C]).get? b = some o → B.get? b = some o ∧ b ≠ C := fun b o e => ⟨PySem.W.of_hideAll _ e, fun z => by rw [z, B1] at e; cases e⟩
    have ff : h.FunFrames (PySem.W.hideAll B [C]) (X.env :: X.outer) := frames_but same B2 CfX h3
    unfold PySem.passOn
    refine wpAny_bind (wpAny_field ((same a naC).trans t1) t3 t4 ?_)
    rw [if_neg (by simp : ¬ (Value.ref T == Value.none) = true)]
    have J7 : Inv X pins σ G2 sI := I3.call' (ch := fp) J.os J.base J.hok J.bare fun b hb => ⟨(f3 b hb).1.2.2.2.1, (f3 b hb).1.2.1, (f3 b hb).1.2.2.2.2.1, (f3 b hb).1.2.2.2.2.2⟩
    have nC : G2 C = none := by have z : G2 ce.locals = none := J.free; rwa [cL] at z
    obtain ⟨f0, f1, f2, f4, f5, f6⟩ := I3.fpOk (b := C) (Nat.le_of_eq hC) nC
    have J8 := J7.turned (it := C) (h' := PySem.W.hideAll sI.heap [C]) (t' := sI.toks) (fun b o hb e => PySem.W.hideAll_get _ e (by simpa using hb)) f0 f1 f4 f5 f6
    have out : wpAny (model X.prog X.w) X.A (setFlight (.ref a) en.frame) (fun _ t => wpAny (model X.prog X.w) X.A (throw (.ref a) : Sem Value) (fun _ _ => False) X.xe t) X.xe { s6 with heap := h } := by
      rw [ef, hf]
      refine HandSPX.setFlight_anyZ (s := { s6 with heap := h }) (base := PySem.W.hideAll B [C]) (l := X.env :: X.outer) (e := a) (Z := L2N.Zn cls d) (fl := rawInt X.env.locals) (fr := some X.env.locals) ?_ ff ?_ fun g2 k1 k2 k3 k4 => ?_
      · intro b o e
        obtain ⟨e1, e2⟩ := B3 b o e
        exact (same b e2).trans (h1 _ _ e1)
      · exact ⟨oe, vs, T, oT, ts, (same a naC).trans t1, t2, t3, t4, B2 _ t5, t6, (same T nTC).trans t7, t8, t9⟩
      · refine wpAny_throw (tk _ _ ⟨a, PySem.W.hideAll B [C], { sI with heap := PySem.W.hideAll sI.heap [C] }, pins, σ, G2, cls, d, rfl, J8, ?_, ?_, .inr (.inr ?_), na, os, ag, w⟩)
        · intro b o e hb
          have e : (PySem.W.hideAll sI.heap [C]).get? b = some o := e
          have e1 := PySem.W.of_hideAll _ e
          have e2 : b ≠ C := fun z => by
            rw [z, PySem.W.hideAll_none [C] (h := sI.heap) (b := C) List.mem_cons_self] at e
            cases e
          exact PySem.W.hideAll_get _ (nb b o e1 (hs ▸ hb)) (by simpa using e2)
        · intro b o e hd
          have e : (PySem.W.hideAll sI.heap [C]).get? b = some o := e
          have e1 := PySem.W.of_hideAll _ e
          have e2 : b ≠ C := fun z => by
            rw [z, PySem.W.hideAll_none [C] (h := sI.heap) (b := C) List.mem_cons_self] at e
            cases e
          obtain ⟨sl, q⟩ := (up.trans u1) b o e1 hd
          obtain ⟨sl2, q2⟩ := k4 b _ ((same b e2).trans q) hd
          exact ⟨sl2, q2⟩
        · rw [hs]
          exact ⟨k1, B2 _ h2, k2, k3⟩
    first
      | exact wpAny_bind (wpAny_pure (wpAny_bind out))
      | exact wpAny_bind out
  rw [note_same (b := X.env) cF]
  rcases sky2 with ⟨g1, g2, g3, oe, vs, g4, g5, g6, g7⟩ | fl | held
  · exact PXN.look_newZ L2N.Zn.steady frA g3 hf g4 g1 g2 g6 g7 g5 fin
  · exact PXN.looks_onZ L2N.Zn.steady frA hf fl fin
  · obtain ⟨_, _, _, oe, vs, T, oT, ts, t1, t2, t3, t4, t5, t6, t7, t8, t9⟩ := held
    obtain ⟨_, _, _, oe2, vs2, T2, oT2, ts2, q1, q2, q3, q4, q5, q6, q7, q8, q9⟩ := fl0
    rw [t1] at q1; cases q1
    rw [t3] at q3; cases q3
    rw [t4] at q4; cases q4
    rw [t7] at q7; cases q7
    rw [t8] at q8; cases q8
    rw [t9] at q9
    simp [rawInt] at q9
end
/-- what a comprehension wishes of its step's errors -/
def StepErr (CX : CXT) (X : Cx) (E : XK) : Prop := ∀ (E0 : Value → Shared → Prop) (Q : Value → Shared → Prop) (acc : Value) {pins pins2 : List (Addr × Obj)} {σ τ : L2.St} {H G : Hp} {s3 s5 s6 : Shared} {fp : List Addr} {scope : Scope} {ce : Env} {u : Value},
  Inv X pins σ H s3 → (∀ b ∈ fp, FpOk X pins H b ∧ b < s3.heap.objs.size) → ce.locals = s3.heap.objs.size → ce.frame = X.env.frame → Inv (X.blk s3 H scope ce fp) pins2 τ G s5 → CX X.stack G s5 E u s6 →
    wpAny (model X.prog X.w) X.A (noteFrame u ce) (fun _ t => CP (model X.prog X.w) X.A X.env X.xe Q acc s3.heap.objs.size (.error u) t) E0 s6
section
variable {X : Cx} {E : XK}
/-- [elt for tg in iter if ..]: the step calls defs that raise -/
theorem pe_lcG {CX : CXT} {elt tg iter : Expr} {ifs : List Expr} {scope : Scope} {own : List (Str × Nat)} {pos : Pos} {wi : TI} {g : TG} {tt : TT} {te : TE} (err : StepErr CX X E) (hc : X.calm = true) (nd : X.N.Nodup) (hi : PI X tg iter wi) (ok : BlkOk X.N X.env.scope scope own)
    (hg : ∀ (t : Shared) (H : Hp) (C : Addr) (cl : List (Str × Addr)) (fp : List Addr), PG (X.blk t H scope (compEnvC scope cl C X.env) fp) tg g)
    (ht : ∀ (t : Shared) (H : Hp) (C : Addr) (cl : List (Str × Addr)) (fp : List Addr), PTs (X.blk t H scope (compEnvC scope cl C X.env) fp) ifs tt)
    (he : ∀ (t : Shared) (H : Hp) (C : Addr) (cl : List (Str × Addr)) (fp : List Addr) (xe : Value → Shared → Prop), (∀ τ, PassesAt CX (Cx.wish (X.blk t H scope (compEnvC scope cl C X.env) fp) xe) τ E) → PE (Cx.wish (X.blk t H scope (compEnvC scope cl C X.env) fp) xe) elt te)
    (fs : ∀ x, foldedSetIterable iter X.env x = pure x := by intro _; rfl) : PE X (.ListComp elt [⟨tg, iter, ifs, 0⟩] scope pos) (tLc wi g tt te (own.map (·.2))) := by
  refine ⟨fun pins s σ H Q I h => ?_⟩
  rw [eval_ListComp]
  have cl0 : ∀ y ∈ scope.names, y.2 = .free → ∃ c, X.env.cells.lookup y.1 = some c := fun y hy e => (ok.free y hy e).elim (fun k => I.ok.has _ (.inl k)) fun k => I.ok.has _ (.inr k)
  refine comp_run rfl fs (closure_ok cl0) ok.kind (fun y hy e => by rw [ok.uniq y hy, e]) (thn (hi.run pins s σ H _ I h) fun v t1 k1 => thn k1 fun itv t2 k2 => ?_)
  obtain ⟨it, fp, tn, J, G, rfl, I2, T, st, fo, q⟩ := k2
  refine wpAny_newObj_type (newEnv_comp ⟨rfl, ?_⟩) (by show 0 ≤ sizeLine; decide)
  -- the new list at D
  generalize eD : t2.heap.objs.size = D
  have fD : G D = none := I2.hok.fresh (Nat.le_of_eq eD)
  obtain ⟨W, ⟨m0, w0⟩, turn⟩ := q D fD
  generalize e3 : ({ t2 with heap := t2.heap.push { cls := .type "list", data := .seq ([] : List Value).toArray } } : Shared) = t3
  have hp3 : t3.heap = t2.heap.push { cls := .type "list", data := .seq ([] : List Value).toArray } := by rw [← e3]
  have up3 : ∀ b o, t2.heap.get? b = some o → t3.heap.get? b = some o := fun b o e => by rw [hp3]; exact Heap.get?_push_of_some _ e
  have Ia : Inv X pins σ (upd G D (.lst [])) t3 := by
    subst e3
    exact I2.laid (t' := t2.toks) (fun _ _ e => Heap.get?_push_of_some _ e) (Nat.le_of_eq eD) ⟨Nat.zero_le _, [], 0, .nil, by rw [← eD]; exact Heap.get?_push_size _ rfl⟩
  have fok : ∀ b ∈ fp, FpOk X pins (upd G D (.lst [])) b ∧ b < t3.heap.objs.size := fun b hb => by
    obtain ⟨o, eo, _⟩ := T.obj _ _ st b hb
    have lt := Heap.lt_size eo
    refine ⟨⟨?_, (fo b hb).2⟩, by rw [hp3, Heap.size_push]; exact Nat.lt_succ_of_lt lt⟩
    rw [upd_ne (by rw [← eD]; exact Nat.ne_of_lt lt)]
    exact (fo b hb).1
  have sta : tn 0 t3.heap := T.keep _ _ _ st fun b _ o e => up3 b o e
  generalize eH : upd G D (.lst []) = Ga at Ia fok w0
  have Ib := block_start Ia ok nd fok
  generalize eC : t3.heap.objs.size = C at fok
  generalize ecl : cellsFrom (C + 1) scope.names (cloFrom X.env.cells scope.names []) = cl
  have Ib : Inv (X.blk t3 Ga scope (compEnvC scope cl C X.env) fp) [] (wipe σ (own.map (·.2))) Ga { t3 with heap := pushCells (t3.heap.push { cls := .type "dict", data := .dict #[] }) scope.names } := by
    rw [← ecl, ← eC]; exact Ib
  have pg := hg t3 Ga C cl fp
  have pt := ht t3 Ga C cl fp
  have pe := he t3 Ga C cl fp
  show codeAny _ _ (.compStart (.ListComp elt [⟨tg, iter, ifs, 0⟩] scope pos) 0 (.ref it) (.ref D) (compEnvC scope cl C X.env)) (CP (model X.prog X.w) X.A X.env X.xe (EP X pins σ Q) (.ref D) C) { t3 with heap := pushCells (t3.heap.push { cls := .type "dict", data := .dict #[] }) scope.names }
  generalize ece : compEnvC scope cl C X.env = ce at Ib pg pt pe ⊢
  have ceL : ce.locals = C := by subst ece; rfl
  have ceF : ce.frame = X.env.frame := by subst ece; rfl
  generalize e4 : ({ t3 with heap := pushCells (t3.heap.push { cls := .type "dict", data := .dict #[] }) scope.names } : Shared) = t4 at Ib ⊢
  have stb : tn 0 t4.heap := T.keep _ _ _ sta fun b _ o e => by subst e4; exact pushCells_keeps _ _ _ _ (Heap.get?_push_of_some _ e)
  have hole : ∀ b ∈ fp, Ga b = none := fun b hb => (fok b hb).1.1
  have fix : ∀ {τ : L2.St} {Gx : Hp} {t : Shared}, Inv (X.blk t3 Ga scope ce fp) [] τ Gx t → (∀ b ∈ fp, Gx b = none) → ∀ b ∈ fp, FpOk (X.blk t3 Ga scope ce fp) [] Gx b := fun {τ Gx t} Ix hn b hb =>
    ⟨hn b hb, (Ix.ok.exf b hb).1, Ix.ok.exfs b hb, .inl hb, fun x c e => (Ix.ok.exf b hb).2 x c e, fun p hp => absurd (show p ∈ ([] : List (Addr × Obj)) ++ [] from hp) (by simp)⟩
  have main : codeAny (model X.prog X.w) X.A (.compLoop (.ListComp elt [⟨tg, iter, ifs, 0⟩] scope pos) 0 (.ref it) (.ref D) ce) (CP (model X.prog X.w) X.A X.env X.xe (EP X pins σ Q) (.ref D) C) t4 := by
    refine compLoop_any (fun n t => ∃ i Gx, Inv (X.blk t3 Ga scope ce fp) [] (wipe σ (own.map (·.2))) Gx t ∧ tn i t.heap ∧ (∀ b ∈ fp, Gx b = none) ∧ W i n Gx) ?_ m0 ⟨0, Ga, Ib, stb, hole, w0⟩
    rintro n t5 ⟨i, G5, I5, st5, n5, w5⟩
    rcases turn i n G5 w5 with ⟨stop, done⟩ | ⟨go, Nx, down, step⟩
    · refine thnF (T.done (X.blk t3 Ga scope ce fp) rfl rfl rfl hc i [] t5 _ G5 (fun _ _ => False) I5 (fix I5 n5) st5 stop) fun r t6 ⟨hr, I6⟩ => ?_
      subst hr
      have Iz : Inv X pins σ G5 t6 := Ia.call' (ch := fp) I6.os I6.base I6.hok I6.bare fun b hb => ⟨(fok b hb).1.2.2.2.1, (fok b hb).1.2.1, (fok b hb).1.2.2.2.2.1, (fok b hb).1.2.2.2.2.2⟩
      have nC : G5 C = none := by have z : G5 ce.locals = none := I6.free; rwa [ceL] at z
      obtain ⟨m, hn, _⟩ := I6.loc
      have hn : t6.heap.Ns ce.locals m := hn
      rw [ceL] at hn
      obtain ⟨f0, f1, f2, f4, f5, f6⟩ := Ia.fpOk (b := C) (Nat.le_of_eq eC) nC
      exact ⟨m, hn, fun g sb => ⟨.ref D, G5, Iz.turned (t' := t6.toks) (fun b o hb e => (sb.2 b hb).trans e) f0 f1 f4 f5 f6, rfl, done⟩⟩
    · refine thnF (T.item (X.blk t3 Ga scope ce fp) rfl rfl rfl hc i [] t5 _ G5 (fun _ _ => False) I5 (fix I5 n5) st5 go) fun r t6 ⟨u, hr, k6⟩ => ?_
      subst hr
      refine thnF k6 fun _ t7 ⟨x, G7, I7, r7, y7, st7, n7⟩ => ?_
      have I7p := I7.pinned (fix I7 n7) (T.obj _ _ st7)
      refine thnF (pg.run _ t7 _ G7 x u _ I7p r7 (step x G7 y7)) fun _ t8 ⟨τ, G8, I8, hw8, q8⟩ => ?_
      refine thnF (pt.run _ t8 τ G8 _ I8 q8) fun b t9 ⟨G9, I9, q9⟩ => ?_
      have next : ∀ {t : Shared} {Gx : Hp}, Inv (X.blk t3 Ga scope ce fp) ([] ++ pinsAt fp t7.heap) τ Gx t → Nx Gx → ∃ m, m < n ∧ ∃ i Gx, Inv (X.blk t3 Ga scope ce fp) [] (wipe σ (own.map (·.2))) Gx t ∧ tn i t.heap ∧ (∀ b ∈ fp, Gx b = none) ∧ W i m Gx := fun {t Gx} Ix nx => by
        obtain ⟨m', hm, w'⟩ := down Gx nx
        have held : ∀ b ∈ fp, ∀ o, t7.heap.get? b = some o → t.heap.get? b = some o ∧ Gx b = none := fun b hb o e =>
          have z := Ix.pin (b, o) (List.mem_append_right _ (List.mem_append_right _ (mem_pinsAt hb e)))
          ⟨z.1, z.2.1⟩
        refine ⟨m', hm, i + 1, Gx, (Ix.unpinned (pins := [])).weak (by rw [← hw8, wipe_length]) (fun j v e => ?_), T.keep _ _ _ st7 fun b hb o e => (held b hb o e).1, fun b hb => ?_, w'⟩
        · rw [← hw8] at e
          exact (wipe_some e).1
        · obtain ⟨o, e, _⟩ := T.obj _ _ st7 b hb
          exact (held b hb o e).2
      cases b with
      | false =>
        simp only [Bool.false_eq_true, if_false] at q9 ⊢
        exact next I9 q9
      | true =>
        simp only [if_true] at q9 ⊢
        have pX := pe (notedBy (model X.prog X.w) X.A ce fun e t => CP (model X.prog X.w) X.A X.env X.xe (EP X pins σ Q) (.ref D) C (.error e) t) (fun τ2 pins2 Gy ty ey ty2 Iy cy => by
          have z := err (fun e t => CP (model X.prog X.w) X.A X.env X.xe (EP X pins σ Q) (.ref D) C (.error e) t) (EP X pins σ Q) (.ref D) Ia (fun b hb => ⟨(fok b hb).1, by rw [eC]; exact (fok b hb).2⟩) (by rw [eC]; exact ceL) ceF Iy.unwish cy
          rw [eC] at z
          exact z)
        refine wpAny_mono (pX.run _ t9 τ G9 _ (I9.wish _) q9) (fun z t10 ⟨yv, G10, I10, r10, acc, hD, hz, nx⟩ => ?_) fun e t z => z
        exact app_ok (X := X.blk t3 Ga scope ce fp) I10.unwish hD hz r10 fun t11 I11 => next I11 nx
  exact codeAny_compStart_list main (T.self X.A 0 _ _ _ stb main)
/-- .. whose errors have any context -/
theorem pe_lcX {elt tg iter : Expr} {ifs : List Expr} {scope : Scope} {own : List (Str × Nat)} {pos : Pos} {wi : TI} {g : TG} {tt : TT} {te : TE} (hs : X.stack = X.env :: X.outer) (hf : X.env.frame = some X.env.locals)
    (tk : L2.Takes X (fun cls d _ H => E cls d H)) (hc : X.calm = true) (nd : X.N.Nodup) (hi : PI X tg iter wi) (ok : BlkOk X.N X.env.scope scope own)
    (hg : ∀ (t : Shared) (H : Hp) (C : Addr) (cl : List (Str × Addr)) (fp : List Addr), PG (X.blk t H scope (compEnvC scope cl C X.env) fp) tg g)
    (ht : ∀ (t : Shared) (H : Hp) (C : Addr) (cl : List (Str × Addr)) (fp : List Addr), PTs (X.blk t H scope (compEnvC scope cl C X.env) fp) ifs tt)
    (he : ∀ (t : Shared) (H : Hp) (C : Addr) (cl : List (Str × Addr)) (fp : List Addr) (xe : Value → Shared → Prop), (∀ τ, PassesAt (L2.CX X.prog X.w) (Cx.wish (X.blk t H scope (compEnvC scope cl C X.env) fp) xe) τ E) → PE (Cx.wish (X.blk t H scope (compEnvC scope cl C X.env) fp) xe) elt te)
    (fs : ∀ x, foldedSetIterable iter X.env x = pure x := by intro _; rfl) : PE X (.ListComp elt [⟨tg, iter, ifs, 0⟩] scope pos) (tLc wi g tt te (own.map (·.2))) :=
  pe_lcG (fun _ _ _ _ _ _ _ _ _ _ _ _ _ _ _ _ I3 f3 cL cF I c => step_err hs hf tk I3 f3 cL cF I c) hc nd hi ok hg ht he fs
/-- .. whose errors have no context -/
theorem pe_lcXN {elt tg iter : Expr} {ifs : List Expr} {scope : Scope} {own : List (Str × Nat)} {pos : Pos} {wi : TI} {g : TG} {tt : TT} {te : TE} (hs : X.stack = X.env :: X.outer) (hf : X.env.frame = some X.env.locals)
    (tk : L2N.Takes X (fun cls d _ H => E cls d H)) (hc : X.calm = true) (nd : X.N.Nodup) (hi : PI X tg iter wi) (ok : BlkOk X.N X.env.scope scope own)
    (hg : ∀ (t : Shared) (H : Hp) (C : Addr) (cl : List (Str × Addr)) (fp : List Addr), PG (X.blk t H scope (compEnvC scope cl C X.env) fp) tg g)
    (ht : ∀ (t : Shared) (H : Hp) (C : Addr) (cl : List (Str × Addr)) (fp : List Addr), PTs (X.blk t H scope (compEnvC scope cl C X.env) fp) ifs tt)
    (he : ∀ (t : Shared) (H : Hp) (C : Addr) (cl : List (Str × Addr)) (fp : List Addr) (xe : Value → Shared → Prop), (∀ τ, PassesAt (L2N.CX X.prog X.w) (Cx.wish (X.blk t H scope (compEnvC scope cl C X.env) fp) xe) τ E) → PE (Cx.wish (X.blk t H scope (compEnvC scope cl C X.env) fp) xe) elt te)
    (fs : ∀ x, foldedSetIterable iter X.env x = pure x := by intro _; rfl) : PE X (.ListComp elt [⟨tg, iter, ifs, 0⟩] scope pos) (tLc wi g tt te (own.map (·.2))) :=
  pe_lcG (fun _ _ _ _ _ _ _ _ _ _ _ _ _ _ _ _ I3 f3 cL cF I c => step_errN hs hf tk I3 f3 cL cF I c) hc nd hi ok hg ht he fs
end
end DL

namespace DL
open PySem PySem.Spec PyProof.Rows L2 TL
/-! ### a call of a def within a comprehension, its error let through -/
section
variable {X : Cx} {k j : Nat} {x : Str} {ps : List Str} {p pos : Pos} {e : Expr} {es : List Expr} {ta : TA} {tr : Tr} {E : XK} {P : Program} {w : World} {K : PySem.W.Frag} {mg : Str → Option Value} {base : Heap} {A : Around}
theorem pe_knC (h : Kn P w K mg base (L2.CX P w) k x ps tr) (hr : Room j A) (hj : k ≤ j) (ha : PA X (e :: es) ta) (hx : ∀ σ, PassesAt (L2.CX P w) X σ E) (hA : X.A = A := by rfl) (hX : At X P w K mg base := by exact ⟨rfl, rfl, rfl, rfl, rfl⟩) (hg : Gl X x := by rfl)
    (hdb : (x == ("__debug__" : Str)) = false := by decide) (he : starEach (e :: es) X.env = (false, eval e X.env) :: starEach es X.env := by rfl) (hpl : (backTo pos (starEach es X.env)).any (·.1) = false := by rfl) :
    PE X (.Call (.Name x p) (e :: es) [] pos) (tCallS (spOf K tr) (fun _ => E) ta) := by
  obtain ⟨f, fd, F, hm, hk, hb⟩ := h
  obtain ⟨rfl, rfl, rfl, rfl, rfl⟩ := hX
  subst hA
  exact pe_callS F (hr.mono hj) hg hm hk hb hx ha hdb he hpl
theorem pe_knCN (h : Kn P w K mg base (L2N.CX P w) k x ps tr) (hr : Room j A) (hj : k ≤ j) (ha : PA X (e :: es) ta) (hx : ∀ σ, PassesAt (L2N.CX P w) X σ E) (hA : X.A = A := by rfl) (hX : At X P w K mg base := by exact ⟨rfl, rfl, rfl, rfl, rfl⟩) (hg : Gl X x := by rfl)
    (hdb : (x == ("__debug__" : Str)) = false := by decide) (he : starEach (e :: es) X.env = (false, eval e X.env) :: starEach es X.env := by rfl) (hpl : (backTo pos (starEach es X.env)).any (·.1) = false := by rfl) :
    PE X (.Call (.Name x p) (e :: es) [] pos) (tCallS (spOf K tr) (fun _ => E) ta) := by
  obtain ⟨f, fd, F, hm, hk, hb⟩ := h
  obtain ⟨rfl, rfl, rfl, rfl, rfl⟩ := hX
  subst hA
  exact pe_callS F (hr.mono hj) hg hm hk hb hx ha hdb he hpl
theorem passes_n (hx : ∀ σ, PassesAt (L2.CX P w) X σ E) : ∀ σ, PassesAt (L2N.CX P w) X σ E := fun σ pins H s e s' I ⟨a, B, H', cls, d, h1, h2, h3⟩ =>
  hx σ pins H s e s' I ⟨a, B, H', cls, d, h1, ⟨h2.1, h2.2.1, h2.2.2.1, L2H.tracedZ_imp (fun _ z => z.zc) h2.2.2.2⟩, h3⟩
end
/-! ### a try whose one clause names no error and calls defs -/
section
variable {X : Cx} {x : Str} {c : Value} {body suite : List Stmt} {b₀ : Stmt} {np pos pos' : Pos} {tb : WX → L2.TS} {ts : Addr → Value → Option Addr → L2.TS} {Wout : WX}
theorem ps_try_oneUD (hs : X.stack = X.env :: X.outer) (hf : X.env.frame = some X.env.locals) (hc : Names X x c) (tk : L2N.Takes X Wout)
    (hb : ∀ (W : WX) (pn : List (Addr × Obj)) (xe : Value → Shared → Prop), L2N.Takes (X.tr pn xe) W → PassesOwn (model X.prog X.w) X.A X.env xe → PSs (X.tr pn xe) body (tb W))
    (hsu : ∀ (a : Addr) (oe : Obj) (cls : Value) (d : Option Addr) (pn : List (Addr × Obj)), Zc cls d oe → (∃ vs, oe.data = .fields vs) → L2H.HotC (X.suite a ((a, oe) :: pn)) → PSs (X.suite a ((a, oe) :: pn)) (b₀ :: suite) (ts a cls d)) :
    PS X (.Try body [.ExceptHandler (some (.Name x np)) none (b₀ :: suite) pos'] [] [] pos) (tTryMany X.K [(c, ts)] tb Wout) :=
  L2N.ps_try_many hs hf tk hb (.cons hc (fun a oe cls d pn hz hfl => hsu a oe cls d pn hz.zc hfl ⟨(a, oe), ⟨rfl, by
    obtain ⟨vs, e⟩ := hfl
    exact ⟨vs, e, hz.2.2 vs e⟩⟩, List.mem_cons_self⟩) .nil)
end
section
variable {K : PySem.W.Frag} {s s1 s' : S} {ta tb te tl : TE} {tt : TT} {x y z w : W} {B : List Addr} {H H' : Hp} {σ : L2.St} {E : XK} {O : Out} {t1 t2 tz tu tw : L2.TS} {ex : Value → Prop}
/-- a new list, or an error -/
def EvFR (K : PySem.W.Frag) (E : L2.St → XK) (te : TE) (s : S) (k : List W → Prop) (x : Value → Prop) : Prop := ∀ (B : List Addr) (σ : L2.St) (H : Hp) (Q : VK), Sat K B s σ H →
  (∀ xs a vs H', k xs → Same H H' → H a = none → H' a = some (.lst vs) → RWs K (msk H' (a :: (ads s.h ++ B))) vs xs → Q (.ref a) H') → (∀ c H', x c → Same H H' → E σ c none H') → te σ H Q
theorem EvFR.ev {E : L2.St → XK} {k : W → Prop} {ex : Value → Prop} (h : EvFR K E te s (fun xs => ∃ ds : List PyData, xs = ds.map .d ∧ k (wl ds)) ex) : EvR K E te s k ex := fun B σ H Q S q qx => h B σ H Q S (fun xs a vs H' kk e n ha r => by
  obtain ⟨ds, rfl, hk⟩ := kk
  have no := S.hh.out n
  refine q (wl ds) _ _ hk e (Dq.lst ?_ (rws_dpa (r.mono (msk_less fun b hb => List.mem_cons_of_mem _ hb))))
  rw [msk_out no]
  exact ha) qx
theorem cw_turnR {S1 : S} {b : Bool} {out : List W} {D : Addr} {σ2 : L2.St} {Nx : Hp → Prop} {ok : W → Prop} (c : CW K B s σ H D out H') (S3 : Sat K (D :: B) S1 σ2 H') (nD : H D = none) (hh : S1.h = s.h) (hz : out.length < sizeLine) (ht : EvT K tt S1 b)
    (he : b = true → EvR K (fun _ => E) te S1 ok ex) (hy : b = true → ∀ w H2, ok w → CW K B s σ H D (out ++ [w]) H2 → Nx H2) (hn : b = false → ∀ H2, CW K B s σ H D out H2 → Nx H2) (hx : ∀ c H2, ex c → Same H H2 → E c none H2) :
    tt σ2 H' fun b H3 => if b = true then te σ2 H3 fun y H4 => ∃ acc, H4 D = some (.lst acc) ∧ acc.length < sizeLine ∧ Nx (upd H4 D (.lst (acc ++ [y]))) else Nx H3 := by
  obtain ⟨e, acc, hD, r⟩ := c
  have sw2 : ∀ H : Hp, Same (msk H (ads s.h ++ D :: B)) (msk H (D :: (ads s.h ++ B))) := fun H => msk_less fun b hb => by
    rcases List.mem_cons.mp hb with z | z
    · exact List.mem_append_right _ (z ▸ List.mem_cons_self)
    · rcases List.mem_append.mp z with z | z
      · exact List.mem_append_left _ z
      · exact List.mem_append_right _ (List.mem_cons_of_mem _ z)
  refine ht (D :: B) σ2 H' _ S3 fun H3 e3 => ?_
  cases b with
  | false => exact iteF (hn rfl _ ⟨e.trans e3, acc, e3 _ _ hD, r.mono (msk_same e3)⟩)
  | true =>
    refine iteT (he rfl (D :: B) σ2 H3 _ (S3.mono e3) (fun w y H4 hw e4 ry => ⟨acc, e4 _ _ (e3 _ _ hD), by rw [r.len]; exact hz, hy rfl w _ hw ⟨fun b o q => ?_, acc ++ [y], upd_same, ?_⟩⟩) fun c H4 hc e4 => hx c H4 hc ((e.trans e3).trans e4))
    · have nb : b ≠ D := ne_of_none q nD
      rw [upd_ne nb]
      exact e4 _ _ (e3 _ _ (e _ _ q))
    · have m : ∀ A, D ∈ A → Same (msk H4 A) (msk (upd H4 D (.lst (acc ++ [y]))) A) := fun A hA b o q => by
        obtain ⟨n, q⟩ := msk_some q
        have nb : b ≠ D := fun z => n (z ▸ hA)
        rw [msk_out n, upd_ne nb]
        exact q
      refine ((r.mono (msk_same (e3.trans e4))).append (.cons ?_ .nil)).mono (m _ List.mem_cons_self)
      rw [hh] at ry
      exact ry.mono (sw2 _)
/-- over a list; P tells what the turns so far have given -/
theorem evr_lcL {j : Nat} {vs : List Nat} {xs : List W} {k : List W → Prop} (P : Nat → List W → Prop) (h : Ev K tl s x) (l : LV s x xs) (hl : xs.length ≤ 16000000) (hj : j ∈ vs) (h0 : P 0 [])
    (hs : ∀ (i : Nat) (u : W) (out : List W), xs[i]? = some u → out.length ≤ i → P i out → ∃ b, EvT K tt (inB s vs j u) b ∧ (b = true → EvR K (fun _ => E) te (inB s vs j u) (fun w => P (i + 1) (out ++ [w])) ex) ∧ (b = false → P (i + 1) out))
    (hk : ∀ out, P xs.length out → k out) : EvFR K (fun _ => E) (tLc (iList K tl) (gName j) tt te vs) s k ex := fun B σ H Q S q qx =>
  h B σ H _ S fun u H1 e1 r1 => by
    have S1 := S.mono e1
    obtain ⟨a, us, rfl, g, rr⟩ := l.get S1 r1
    refine ⟨a, rfl, ⟨us, g⟩, fun D nD => ?_⟩
    refine lc_list (xs := us) (fun i H' => ∃ out, out.length ≤ i ∧ P i out ∧ CW K B s σ H1 D out H') ⟨[], Nat.le_refl _, h0, cw_start nD⟩ (fun i H' _ c => by obtain ⟨_, _, _, c⟩ := c; exact c.1.seq g) (fun i y H' hi c => ?_) (fun H' c => ?_)
    · obtain ⟨out, hol, hp, c⟩ := c
      obtain ⟨u, hu, ru⟩ := rr.getv hi
      have hlt : i < xs.length := (List.getElem?_eq_some_iff.mp hu).1
      refine ⟨wipe_set hj, ?_⟩
      have S2 : Sat K B ⟨(wipeG s.g vs).set j (some u), s.h⟩ ((wipe σ vs).set j (some y)) H1 := ⟨S1.hh, (wipe_sat S1.gg vs).set ru j⟩
      obtain ⟨e, acc, hD, r⟩ := c
      have S3 := cw_sat S2 nD e ⟨_, hD⟩
      obtain ⟨b, hb, hy, hn⟩ := hs i u out hu hol hp
      exact cw_turnR (ok := fun w => P (i + 1) (out ++ [w])) ⟨e, acc, hD, r⟩ S3 nD rfl (by rw [sizeLine_eq]; omega) hb hy (fun _ w H2 hw c2 => ⟨out ++ [w], by rw [List.length_append, List.length_singleton]; omega, hw, c2⟩) (fun hf H2 c2 => ⟨out, by omega, hn hf, c2⟩) fun c H2 hc e2 => qx c H2 hc (e1.trans e2)
    · obtain ⟨out, _, hp, c⟩ := c
      rw [rr.len] at hp
      exact cw_end c fun a us H2 e2 ha ea rr => q out a us H2 (hk out hp) (e1.trans e2) (by rw [ea]; exact e1.free nD) ha rr
/-- a built-in's call that makes a list of the answer of what may raise -/
theorem evr_cbF {E : L2.St → XK} {rr : List V → Hp → VK → Prop} {k : W → Prop} {ex : Value → Prop} (h : EvR K E te s (fun w => ∃ zs : List PyData, RCF K s rr [w] (zs.map .d) ∧ k (wl zs)) ex) : EvR K E (tCB rr (tCons te tNil)) s k ex := fun B σ H Q S q qx =>
  h B σ H _ S (fun w v H1 kk e1 r1 => by
    obtain ⟨zs, hr, hk⟩ := kk
    have S1 := S.mono e1
    refine hr B σ H1 [v] Q S1 (.cons r1 .nil) fun a vs H2 e2 n ha r2 => ?_
    have no := S1.hh.out n
    refine q (wl zs) _ _ hk (e1.trans e2) (Dq.lst ?_ (rws_dpa (r2.mono (msk_less fun b hb => List.mem_cons_of_mem _ hb))))
    rw [msk_out no]
    exact ha) qx
/-- a new list to a name, or an error -/
theorem hq_newR {E : L2.St → XK} {j : Nat} (h : EvFR K E te s (fun xs => ∀ a, a ∉ ads s.h → HS K E tz ⟨s.g.set j (some (.o a)), (a, .lst xs) :: s.h⟩ O) (fun c => O.x c s)) : HS K E (tSeq (tAsg te (gName j)) tz) s O := fun B σ H D S q =>
  h B σ H _ S (fun xs a vs H' kk e n ha r => by
    obtain ⟨c1, c2, c3⟩ := cell_new S e n ha r
    refine kk a (fun z => S.hh.out n (List.mem_append_left _ z)) B _ H' D ⟨c1, ?_⟩ (q.step c2)
    exact (S.gg.mono c3).set (v := .ref a) (w := .o a) rfl j) fun c H' hc e => q.x c s σ H' hc (S.mono e) (Fr.of e)
end
/-! ### d.get(k), d.get(k, x) -/
section
variable {K : PySem.W.Frag} {s : S} {td ty tx : TE} {d : Addr} {kvs : List (Key × W)} {key : Key} {z : W}
theorem dget_of {B : List Addr} {σ : L2.St} {H : Hp} {b : V} (S : Sat K B s σ H) (h : DicAt s d kvs) (rk : RW K (msk H (ads s.h ++ B)) b (kW key)) : IsD H d ∧ ∃ o, DGet H d b o ∧ ∀ (u : V) (z : W), RW K (msk H (ads s.h ++ B)) u z → RW K (msk H (ads s.h ++ B)) (o.getD u) ((valW kvs key).getD z) := by
  obtain ⟨vs, rd, dr⟩ := h.get S
  refine ⟨.inl ⟨vs, rd⟩, L2.valV vs key, .inl ⟨vs, key, rd, rw_k rk, rfl⟩, fun u z ru => ?_⟩
  have hv := dr_val (k := key) dr
  cases q : valW kvs key with
  | none => rw [hv.2 q]; exact ru
  | some w =>
    obtain ⟨v, e, r⟩ := hv.1 w q
    rw [e]
    exact r
theorem isd_of {B : List Addr} {σ : L2.St} {H : Hp} (S : Sat K B s σ H) (h : DicAt s d kvs) : IsD H d := by
  obtain ⟨vs, rd, dr⟩ := h.get S
  exact .inl ⟨vs, rd⟩
theorem ev_dget2 (hd : Ev K td s (.o d)) (hk : Ev K ty s (kW key)) (hz : Ev K tx s z) (h : DicAt s d kvs) : Ev K (tDGet2 td ty tx) s ((valW kvs key).getD z) := fun B σ H Q S q =>
  hd B σ H _ S fun a H1 e1 r1 => by
    cases (show a = V.ref d from r1)
    have S1 := S.mono e1
    refine ⟨d, rfl, isd_of S1 h, hk B σ H1 _ S1 fun b H2 e2 r2 => hz B σ H2 _ (S1.mono e2) fun u H3 e3 r3 => ?_⟩
    obtain ⟨_, o, g, hr⟩ := dget_of ((S1.mono e2).mono e3) h (r2.mono (msk_same e3))
    exact ⟨o, g, q _ H3 ((e1.trans e2).trans e3) (hr u z r3)⟩
theorem ev_dget1 (hd : Ev K td s (.o d)) (hk : Ev K ty s (kW key)) (h : DicAt s d kvs) : Ev K (tDGet1 td ty) s ((valW kvs key).getD wn) := fun B σ H Q S q =>
  hd B σ H _ S fun a H1 e1 r1 => by
    cases (show a = V.ref d from r1)
    have S1 := S.mono e1
    refine ⟨d, rfl, isd_of S1 h, hk B σ H1 _ S1 fun b H2 e2 r2 => ?_⟩
    obtain ⟨_, o, g, hr⟩ := dget_of (S1.mono e2) h r2
    exact ⟨o, g, q _ H2 (e1.trans e2) (hr .non wn rn)⟩
end
/-- an operation whose left side changes cells -/
theorem evg_opL {K : PySem.W.Frag} {s : S} {E : L2.St → XK} {ta tb : TE} {r : R2} {k : W → Del → Prop} {ex : Value → Del → Prop} (ha : EvG K E ta s (fun x Δ1 => ∃ y z, EvW K tb ⟨s.g, Δ1⟩ y ∧ RVs K ⟨s.g, Δ1⟩ r x y z ∧ k z Δ1) ex) : EvG K E (tOp r ta tb) s k ex := fun B σ H Q S q qx =>
  ha B σ H _ S (fun x Δ1 v H1 kk S1 f1 r1 => by
    obtain ⟨y, z, hb, hr, hk⟩ := kk
    exact hb B σ H1 _ S1 fun u H2 S2 f2 r2 => hr B σ H2 v u Q S2 (r1.mono f2.msk) r2 fun t H3 e3 r3 => q z Δ1 t H3 hk (S2.mono e3) ((f1.trans f2).trans (Fr.of e3)) r3) fun c Δ1 H1 xx S1 f1 => qx c Δ1 H1 xx S1 f1
/-- isinstance of a dict -/
theorem rc_isiDi {K : PySem.W.Frag} {s : S} {d : Addr} {kvs : List (Key × W)} {T : String} {b : Bool} (h : DicAt s d kvs) (hk : kitB "dict" T = some b) : RCs K s (rIsi K) [.o d, .x (.ty T)] (wb b) := fun B σ H vs Q S a q => by
  cases a with
  | cons a1 a2 =>
    cases a2 with
    | cons a2 a3 =>
      cases a3
      cases (show _ = V.ty T from a2)
      cases (show _ = V.ref d from a1)
      obtain ⟨us, rd, _⟩ := h.get S
      refine ⟨_, _, .type "dict", .type T, b, rfl, .ty T, ?_, kit_ty hk, q _ H same_refl rb⟩
      rcases rd with e | ⟨o, e⟩
      · exact .base (.dK e)
      · exact .fDict e
/-- an own list of data, from now on taken as data -/
theorem hs_frz {K : PySem.W.Frag} {E : L2.St → XK} {t1 : L2.TS} {O : Out} (j : Nat) {g : Gam} {a : Addr} {ds : List PyData} {Δ : Del} (hj : g[j]? = some (some (.o a))) (h : HS K E t1 ⟨g.set j (some (wl ds)), Δ⟩ O) : HS K E t1 ⟨g, (a, .lst (ds.map .d)) :: Δ⟩ O := fun B σ H D S q => by
  have sub : Same (msk H (ads ((a, Cell.lst (ds.map .d)) :: Δ) ++ B)) (msk H (ads Δ ++ B)) := msk_less fun b hb => List.mem_cons_of_mem _ hb
  have sj := S.hh
  have S0 : Sat K B ⟨g, [(a, Cell.lst (ds.map .d))] ++ Δ⟩ σ H := S
  refine h B σ H D ⟨⟨fun p hp => (sj.cell p (List.mem_cons_of_mem _ hp)).mono sub, (List.nodup_cons.mp sj.nd).2, sj.bt, (fun b hb z => sj.db b hb (List.mem_cons_of_mem _ z)), sj.nt⟩, ?_⟩ (q.step fun b o n e => ⟨fun z => n (List.mem_cons_of_mem _ z), e⟩)
  refine ⟨by rw [List.length_set]; exact S.gg.1, fun i w hw => ?_⟩
  by_cases e : j = i
  · subst e
    obtain ⟨v, h1, h2⟩ := S.gg.2 j _ hj
    rw [List.getElem?_set_self ((List.getElem?_eq_some_iff.mp hj).1)] at hw
    cases hw
    exact ⟨v, h1, share1 (s := ⟨g, Δ⟩) S0 h2⟩
  · rw [List.getElem?_set_ne e] at hw
    obtain ⟨v, h1, h2⟩ := S.gg.2 i w hw
    exact ⟨v, h1, h2.mono sub⟩
end DL

namespace DL
open PySem PySem.Spec PyProof.Rows L2 TL
/-! ### methods with no argument within an except suite -/
section
variable {P : Program} {w : World} {K : PySem.W.Frag} {mg : Str → Option Value} {base : Heap} {X : Cx} {j k : Nat} {A : Around} {C f : Addr} {m : Str} {fd : FuncData} {ps : List Str} {t : Tr} {sp : Sp} {o : Expr} {ta : TE} {apos pos : Pos} {CX : CXT} {E : L2.St → XK}
theorem pe_methH0 {pl : Sem Bool} (he : PE X o ta) (c : Cls X.K C) (hm : Meth X.K C m f) (F : L2H.FnH X.prog X.w X.K X.mg X.base CX k f fd ps sp) (hr : L2H.RoomH k X.A) (hc : L2H.HotC X) (hb : Binds X.K fd ps []) (hx : ∀ σ, PassesAt CX X σ (E σ))
    (ht : eval (.Call (.Attribute o m apos) [] [] pos) X.env = (do
      let ov ← eval o X.env
      standAt apos.atName
      let (f, first) ← holding [ov] (getMethod ov m pl)
      callWith pos f first (backTo pos (starEach [] X.env)) (backToKw pos (keywordEach [] X.env))) := by rfl) :
    PE X (.Call (.Attribute o m apos) [] [] pos) (tMethS C m sp E ta tNil) := by
  refine ⟨fun pins s σ H Q I h => ?_⟩
  refine PySem.W.methodCall_KW (pl := pl) (thn (he.run pins s σ H _ I h) fun u s1 ⟨x, H1, I1, rx, a, dx, fs, ex, ea, l, q⟩ => ?_) ht
  subst ex
  obtain rfl : u = Value.ref a := rx
  refine getmeth_ok I1 ea c hm l ?_
  exact PySem.W.callWith_K0 (first := [.ref a]) I1.kIn hm.kp (L2H.run_fnH (us := [.ref a]) (vs := [.ref a]) F hr hc hb (hx σ) I1 (.cons rfl .nil) q)
theorem pe_kmU0 {pl : Sem Bool} {L : List Str} (c : ClsF K C L) (h : KnMU P w K mg base k C m ps t) (hr : L2H.RoomH j A) (hj : k ≤ j) (hc : L2H.HotC X) (he : PE X o ta) (hA : X.A = A := by rfl) (hX : At X P w K mg base := by exact ⟨rfl, rfl, rfl, rfl, rfl⟩)
    (ht : eval (.Call (.Attribute o m apos) [] [] pos) X.env = (do
      let ov ← eval o X.env
      standAt apos.atName
      let (f, first) ← holding [ov] (getMethod ov m pl)
      callWith pos f first (backTo pos (starEach [] X.env)) (backToKw pos (keywordEach [] X.env))) := by rfl) :
    PE X (.Call (.Attribute o m apos) [] [] pos) (tMethS C m (spOf K t) (fun _ => L2.E0) ta tNil) := by
  obtain ⟨f, fd, F, hm, hb⟩ := h
  obtain ⟨rfl, rfl, rfl, rfl, rfl⟩ := hX
  subst hA
  exact pe_methH0 he c.1 hm F (hr.mono hj) hc hb (fun σ => fun _ _ _ _ _ _ c => c.elim) ht
end
theorem new_same {H : Hp} {o : HO} {A : List Addr} {p : Addr} (np : H p = none) : Same (msk H A) (msk (upd H p o) (p :: A)) := fun b u e => by
  obtain ⟨h1, h2⟩ := msk_some e
  have hb : b ≠ p := ne_of_none h2 np
  rw [msk_out (fun z => (List.mem_cons.mp z).elim hb h1), upd_ne hb]
  exact h2
/-! ### dict(d): a copy -/
def rDictD : List V → Hp → VK → Prop := fun xs H Q => ∃ (a : Addr) (kvs : List (Key × V)), xs = [.ref a] ∧ Rd H a (.dK kvs) ∧ ∀ p, H p = none → Q (.ref p) (upd H p (.dK kvs))
theorem dictDK {X : Cx} : CallR X (.type "dict") rDictD := call_dictD
section
variable {K : PySem.W.Frag} {s : S} {E : L2.St → XK} {O : Out} {ta tv : TE} {tz : L2.TS} {d : Addr} {kvs : List (Key × W)} {w : W}
theorem evg_dictD {k : W → Del → Prop} {ex : Value → Del → Prop} (h : Ev K ta s (.o d)) (hd : DicAt s d kvs) (hk : ∀ p, p ∉ ads s.h → k (.o p) ((p, .dic kvs) :: s.h)) : EvG K E (tCB rDictD (tCons ta tNil)) s k ex := fun B σ H Q S q _ =>
  h B σ H _ S fun v H1 e1 r1 => by
    cases (show v = V.ref d from r1)
    have S1 := S.mono e1
    obtain ⟨vs, rd, dr⟩ := hd.get S1
    refine ⟨d, vs, rfl, rd, fun p np => ?_⟩
    have up : Same H1 (upd H1 p (.dK vs)) := same_new np
    obtain ⟨c1, c2, c3⟩ := cell_newG (c := .dic kvs) (o := .dK vs) S1 np ⟨vs, rfl, dr.1, dr.2.mono (new_same np)⟩
    exact q _ _ _ _ (hk p fun z => S1.hh.out np (List.mem_append_left _ z)) ⟨c1, S1.gg.mono c3⟩ ((Fr.of e1).trans c2) rfl
/-! ### what a call made is stored in a field -/
def FldG (K : PySem.W.Frag) (s1 : S) (ta : TE) (f : Str) (w : W) (P : S → Prop) : Prop := ∃ (C a : Addr) (fs : List (Str × W)) (L : List Str) (n : Nat), ClsF K C L ∧ Ev K ta s1 (.o a) ∧ s1.h[n]? = some (a, .obj C fs) ∧ f ∈ L ∧ fs.length < 1000 ∧ P ⟨s1.g, s1.h.set n (a, .obj C (putW f w fs))⟩
theorem fg_at {f : Str} {P : S → Prop} {C a : Addr} {L : List Str} {xs : List W} {w0 : W} (n i : Nat) (c : ClsF K C L) (ho : Ev K ta s (.o a)) (hn : s.h[n]? = some (a, obL C L xs)) (hi : fix f L = some i) (hx : xs[i]? = some w0) (h : P ⟨s.g, s.h.set n (a, obL C L (xs.set i w))⟩) : FldG K s ta f w P :=
  ⟨C, a, _, L, n, c, ho, hn, fix_mem hi, zip_lt c.2.1, by rw [putW_zip hi (List.getElem?_eq_some_iff.mp hx).1]; exact h⟩
theorem fg_new {f : Str} {P : S → Prop} {C a : Addr} {L : List Str} {xs : List W} (n i : Nat) (c : ClsF K C L) (ho : Ev K ta s (.o a)) (hn : s.h[n]? = some (a, obL C L xs)) (hi : fix f L = some i) (hl : xs.length = i) (h : P ⟨s.g, s.h.set n (a, obL C L (xs ++ [w]))⟩) : FldG K s ta f w P :=
  ⟨C, a, _, L, n, c, ho, hn, fix_mem hi, zip_lt c.2.1, by subst hl; rw [putW_new hi]; exact h⟩
theorem hs_fldG {f : Str} (h : EvG K E tv s (fun w Δ1 => FldG K ⟨s.g, Δ1⟩ ta f w O.n) (fun c Δ' => O.x c ⟨s.g, Δ'⟩)) : HS K E (sFld K ta tv f) s O := fun B σ H D S q =>
  h B σ H _ S (fun w Δ1 v H1 ⟨C, a, fs, L, n, c, ho, hn, hf, hl, hP⟩ S1 f1 r1 => by
    refine ho B σ H1 _ S1 fun u H2 e2 r2 => ?_
    cases (show u = V.ref a from r2)
    have S2 := S1.mono e2
    obtain ⟨dx, vs, h1, h2, h3⟩ := obj_get hn S2
    have p := putF_W (f := f) (r1.mono (msk_same e2)) h2 h3
    have k := cell_set (c' := .obj C (putW f w fs)) (o := .ins C dx (putF f v vs)) S2 hn ⟨dx, _, rfl, p.1, p.2⟩
    refine ⟨a, C, dx, vs, rfl, h1, c.1, c.2.2 f hf, ?_, q.n _ σ _ hP k.1 ((f1.trans (Fr.of e2)).trans k.2)⟩
    have e := congrArg List.length h2
    rw [List.length_map, List.length_map] at e
    omega) fun c Δ' H' hx S' f' => q.x c ⟨s.g, Δ'⟩ σ H' hx S' f'
theorem hq_fldG {f : Str} (h : EvG K E tv s (fun w Δ1 => FldG K ⟨s.g, Δ1⟩ ta f w fun s2 => HS K E tz s2 O) (fun c Δ' => O.x c ⟨s.g, Δ'⟩)) : HS K E (tSeq (sFld K ta tv f) tz) s O := fun B σ H D S q =>
  hs_fldG (E := E) (O := { n := fun s2 => HS K E tz s2 O, x := O.x }) h B σ H _ S ⟨fun s' σ' H' e S' f' => e B σ' H' D S' (q.step f'), fun _ _ _ _ z => z.elim, fun _ _ _ z => z.elim, fun _ _ _ z => z.elim, fun c s' σ' H' hx S' f' => q.x c s' σ' H' hx S' f'⟩
/-! ### a method, with arguments, of what an expression gives -/
section
variable {sp : Tr} {C : Addr} {m : Str} {tr : TA}
theorem evg_mtGA {k : W → Del → Prop} {ex : Value → Del → Prop} (ho : EvG K E ta s (fun (w : W) (Δ1 : Del) => ∃ a, w = .o a ∧ ∃ (L : List Str) (ys : List W) (n : Nat) (bs : List Bool) (xs : List W), Δ1[n]? = some (a, obL C L ys) ∧ m ∉ L ∧ EvAW K tr ⟨s.g, Δ1⟩ xs ∧ sp (.o a :: xs) (pick bs Δ1) (fun w Δ' => k w (put bs Δ' Δ1)) (fun c Δ' => ex c (put bs Δ' Δ1))) ex) : EvG K E (tMethS C m (spOf K sp) E ta tr) s k ex := fun B σ H Q S q qx =>
  ho B σ H _ S (fun w Δ1 v H1 kk S1 f1 r1 => by
    obtain ⟨a, rfl, L, ys, n, bs, xs, hn, hm, h, ht⟩ := kk
    cases (show v = V.ref a from r1)
    obtain ⟨dx, vs, h1, h2⟩ := obj_no (s := ⟨s.g, Δ1⟩) hn (look_zip_none hm) S1
    refine ⟨a, dx, vs, rfl, h1, h2, h B σ H1 _ S1 fun us H2 S2 f2 r2 => ?_⟩
    exact callG (s := ⟨s.g, Δ1⟩) bs S2 (.cons (w := .o a) rfl r2) ht (fun w Δ' v H3 kk S3 f3 r3 => q w _ v H3 kk S3 ((f1.trans f2).trans f3) r3) fun c Δ' H3 xx S3 f3 => qx c _ H3 xx S3 ((f1.trans f2).trans f3)) qx
theorem evg_mtGA0 {E' : L2.St → XK} {k : W → Del → Prop} {ex : Value → Del → Prop} (ho : EvG K E ta s (fun (w : W) (Δ1 : Del) => ∃ a, w = .o a ∧ ∃ (L : List Str) (ys : List W) (n : Nat) (bs : List Bool) (xs : List W), Δ1[n]? = some (a, obL C L ys) ∧ m ∉ L ∧ EvAW K tr ⟨s.g, Δ1⟩ xs ∧ sp (.o a :: xs) (pick bs Δ1) (fun w Δ' => k w (put bs Δ' Δ1)) (fun _ _ => False)) ex) : EvG K E (tMethS C m (spOf K sp) E' ta tr) s k ex := fun B σ H Q S q qx =>
  ho B σ H _ S (fun w Δ1 v H1 kk S1 f1 r1 => by
    obtain ⟨a, rfl, L, ys, n, bs, xs, hn, hm, h, ht⟩ := kk
    cases (show v = V.ref a from r1)
    obtain ⟨dx, vs, h1, h2⟩ := obj_no (s := ⟨s.g, Δ1⟩) hn (look_zip_none hm) S1
    refine ⟨a, dx, vs, rfl, h1, h2, h B σ H1 _ S1 fun us H2 S2 f2 r2 => ?_⟩
    exact callG (s := ⟨s.g, Δ1⟩) bs S2 (.cons (w := .o a) rfl r2) ht (fun w Δ' v H3 kk S3 f3 r3 => q w _ v H3 kk S3 ((f1.trans f2).trans f3) r3) fun c Δ' H3 xx S3 f3 => xx.elim) qx
end
end
end DL

namespace DL
open PySem PySem.Spec PyProof.Rows L2 TL
/-! ### a suite that ends in a bare raise -/
section
variable {X : Cx} {pins : List (Addr × Obj)} {σ : L2.St} {H : Hp} {s : Shared}
theorem inv_hide {l : List Addr} (I : Inv X pins σ H s) (h0 : ∀ b ∈ l, X.s_0.heap.get? b = none) (hH : ∀ b ∈ l, H b = none) (hL : X.env.locals ∉ l) (hC : ∀ x c, X.env.cells.lookup x = some c → c ∉ l) (hP : ∀ p ∈ X.pn ++ pins, p.1 ∉ l) : Inv X pins σ H { s with heap := PySem.W.hideAll s.heap l } := by
  have k : ∀ b o, s.heap.get? b = some o → b ∉ l → (PySem.W.hideAll s.heap l).get? b = some o := fun b o e n => PySem.W.hideAll_get l e n
  have n0 : ∀ b o, X.s_0.heap.get? b = some o → b ∉ l := fun b o e m => by rw [h0 b m] at e; cases e
  obtain ⟨m, hn, hl⟩ := I.loc
  refine ⟨I.ok, I.os, I.bare, ⟨fun b o e n hb hx => k b o (I.base.keep b o e n hb hx) (n0 b o e), fun b o e n hb hx => ?_, I.base.free, fun b o e hx => ?_, I.base.tups, I.base.frzs, I.base.tbls⟩, ⟨m, hn.at fun o e => k _ o e hL, fun i x v a b c => ?_⟩, fun x c e => ?_, I.free, I.freeC, fun p hp => ?_, fun b o e => ?_, I.len⟩
  · obtain ⟨sl, q⟩ := I.base.slot b o e n hb hx
    exact ⟨sl, k _ _ q (n0 b o e)⟩
  · obtain ⟨o', q⟩ := I.base.there b o e hx
    exact ⟨o', k _ _ q (n0 b o e)⟩
  · obtain ⟨u, r, lk⟩ := hl i x v a b c
    refine ⟨u, r, ?_⟩
    rcases lk with lk | ⟨kd, c', e, ⟨oc, ec, dc⟩⟩
    · exact .inl lk
    · exact .inr ⟨kd, c', e, oc, k _ _ ec (hC x c' e), dc⟩
  · obtain ⟨v, oc, ec, dc⟩ := I.cell x c e
    exact ⟨v, oc, k _ _ ec (hC x c e), dc⟩
  · obtain ⟨a1, a2⟩ := I.pin p hp
    exact ⟨k _ _ a1 (hP p hp), a2⟩
  · exact (I.hok b o e).stay (fun c u hc r => k c u r fun hm => by
      have z := hH c hm
      rcases hc with hc | hc
      · rw [hc, e] at z; cases z
      · rw [hc] at z; cases z) (fun _ r => r) fun _ _ r => r
def tReraise (W : WX) (cls : Value) (d : Option Addr) : L2.TS := fun _ σ H => W cls d σ H
theorem ps_reraise {Wout : WX} {a T : Addr} {oe oT : Obj} {vs ts : Array Value} {cls : Value} {d : Option Addr} {pos : Pos} (hs : X.stack = X.env :: X.outer) (hf : X.env.frame = some X.env.locals) (tk : L2.Takes X Wout) (ok : X.Ok)
    (hz : L2.Zc cls d oe) (hd : oe.data = .fields vs) (h1 : vs[1]? = some (.ref T)) (hTa : T ≠ a) (hdT : oT.data = .fields ts) (h3 : ts[3]? = some .none) (h0a : X.s_0.heap.get? a = none) (h0T : X.s_0.heap.get? T = none) (hP : ∀ p ∈ X.pn ++ pins, p.1 ≠ a ∧ p.1 ≠ T) :
    PS (L2H.suiteX X a ((a, oe) :: (T, oT) :: (X.pn ++ pins))) (.Raise none none pos) (tReraise Wout cls d) := by
  refine ⟨fun pins' s σ H D I h => ?_⟩
  have Pa := I.pin (a, oe) (List.mem_append_left _ List.mem_cons_self)
  have PT := I.pin (T, oT) (List.mem_append_left _ (List.mem_cons_of_mem _ List.mem_cons_self))
  have I0 : Inv X pins σ H s := ⟨ok, I.os, I.bare, I.base, I.loc, I.cell, I.free, I.freeC, fun p hp => I.pin p (List.mem_append_left _ (List.mem_cons_of_mem _ (List.mem_cons_of_mem _ hp))), I.hok, I.len⟩
  have cells : ∀ x c, X.env.cells.lookup x = some c → c ∉ [a, T] := fun x c e m => by
    obtain ⟨v, oc, ec, dc⟩ := I0.cell x c e
    rcases List.mem_cons.mp m with z | m
    · rw [z, Pa.1] at ec
      cases ec
      exact Pa.2.2.2.2 v dc
    · rw [List.mem_singleton.mp m, PT.1] at ec
      cases ec
      exact PT.2.2.2.2 v dc
  have I2 : Inv X pins σ H { s with heap := PySem.W.hideAll s.heap [a, T] } := inv_hide I0 (fun b m => by
      rcases List.mem_cons.mp m with z | m
      · rw [z]; exact h0a
      · rw [List.mem_singleton.mp m]; exact h0T) (fun b m => by
      rcases List.mem_cons.mp m with z | m
      · rw [z]; exact Pa.2.1
      · rw [List.mem_singleton.mp m]; exact PT.2.1) (fun m => by
      rcases List.mem_cons.mp m with z | m
      · exact Pa.2.2.1 z.symm
      · exact PT.2.2.1 (List.mem_singleton.mp m).symm) cells (fun p hp m => by
      rcases List.mem_cons.mp m with z | m
      · exact (hP p hp).1 z
      · exact (hP p hp).2 (List.mem_singleton.mp m))
  have hB : ∀ b, b ∈ [a, T] ++ frs X.stack → (PySem.W.hideAll s.heap ([a, T] ++ frs X.stack)).get? b = none := fun b m => PySem.W.hideAll_none _ m
  have f1 : (PySem.W.hideAll s.heap ([a, T] ++ frs X.stack)).StaysIn s.heap := fun b o e => PySem.W.of_hideAll _ e
  have f3 : s.heap.FunFrames (PySem.W.hideAll s.heap ([a, T] ++ frs X.stack)) X.stack := funFrames_none I0.stack fun b m => hB b (List.mem_append_right _ m)
  have f4 : HandSPX.TracedZ s.heap (PySem.W.hideAll s.heap ([a, T] ++ frs X.stack)) a (L2.Zc cls d) .none := ⟨oe, vs, T, oT, ts, Pa.1, hz, hd, h1, hB T (List.mem_append_left _ (List.mem_cons_of_mem _ List.mem_cons_self)), hTa, PT.1, hdT, h3⟩
  have fin : wpAny (model X.prog X.w) (X.A.mark (some (.ref a))) (setFlight (.ref a) X.env.frame) (fun _ s4 => wpAny (model X.prog X.w) (X.A.mark (some (.ref a))) (throw (.ref a) : Sem Flow) (SP (L2H.suiteX X a ((a, oe) :: (T, oT) :: (X.pn ++ pins))) pins' D) X.xe s4) X.xe s := by
    rw [hf]
    refine HandSPX.setFlight_anyZ f1 f3 f4 fun h' k1 k2 k3 k4 => wpAny_throw (tk _ _ ?_)
    refine ⟨a, PySem.W.hideAll s.heap ([a, T] ++ frs X.stack), { s with heap := PySem.W.hideAll s.heap [a, T] }, pins, σ, H, cls, d, rfl, I2, fun b o e hb => ?_, fun b o e q => k4 b o (PySem.W.of_hideAll _ e) q, .inr (.inr ⟨k1, hB a (List.mem_append_left _ List.mem_cons_self), k2, k3⟩), Pa.2.1, rfl, I0.bare, h⟩
    have hm : b ∉ [a, T] := fun m => by
      have e : (PySem.W.hideAll s.heap [a, T]).get? b = some o := e
      rw [PySem.W.hideAll_none _ m] at e
      cases e
    exact PySem.W.hideAll_get _ (PySem.W.of_hideAll _ e) fun m => (List.mem_append.mp m).elim hm hb
  refine PySem.wpAny_Raise_bare ?_
  unfold PySem.raiseBare raiseStmt
  dsimp only
  refine wpAny_bind (wpAny_handled ?_)
  show wpAny _ _ _ _ _ _
  refine wpAny_bind (wpAny_rule ?_)
  refine wpAny_bind (wpAny_field Pa.1 hd h1 ?_)
  rw [if_neg (show ¬ ((Value.ref T == Value.none) = true) from by simp)]
  first
    | exact wpAny_bind fin
    | exact wpAny_bind (wpAny_pure (wpAny_bind fin))
end
section
variable {X : Cx} {x : Str} {c : Value} {body suite : List Stmt} {b₀ : Stmt} {np pos pos' : Pos} {tb : WX → L2.TS} {ts : Addr → Value → Option Addr → L2.TS} {Wout : WX}
theorem ps_try_reD (hs : X.stack = X.env :: X.outer) (hf : X.env.frame = some X.env.locals) (hc : Names X x c) (hex : X.ex = []) (hpa : ∀ hd : Option Value, PassesOwnAt (model X.prog X.w) (X.A.mark hd) X.A X.env X.xe) (tk : L2.Takes X Wout)
    (hb : ∀ (W : WX) (pn : List (Addr × Obj)) (xe : Value → Shared → Prop), L2.Takes (X.tr pn xe) W → PassesOwn (model X.prog X.w) X.A X.env xe → PSs (X.tr pn xe) body (tb W))
    (hsu : ∀ (a : Addr) (cls : Value) (d : Option Addr) (pn : List (Addr × Obj)), (∀ p : Pos, PS (L2H.suiteX X a pn) (.Raise none none p) (tReraise Wout cls d)) → PSs (L2H.suiteX X a pn) (b₀ :: suite) (ts a cls d)) :
    PS X (.Try body [.ExceptHandler (some (.Name x np)) none (b₀ :: suite) pos'] [] [] pos) (tTryOnly X.K c tb ts Wout) := by
  refine ⟨fun pins s σ H D I h => ?_⟩
  have ok := I.ok
  have hfr : X.A.frames = some (X.env :: X.outer) := by rw [ok.frames, hs]
  have hex' : ∀ b, b ∉ X.ex := fun b hb => by rw [hex] at hb; cases hb
  refine wpAny_Try_except ?_
  refine wpAny_mono ((hb (wOnly X.K c ts Wout D) (X.pn ++ pins) (fun e s₁ => wpAny (model X.prog X.w) X.A (noteFrame e X.env) (fun _ s₂ => wpAny (model X.prog X.w) X.A (setFlight e none) (fun _ s₃ =>
    wpAny (model X.prog X.w) X.A (handleBy e X.env [.ExceptHandler (some (.Name x np)) none (b₀ :: suite) pos']) (SP X pins D) X.xe s₃) X.xe s₂) X.xe s₁) (fun u s' xx => ?_) PassesOwn.looking).run [] s σ H D (I.toTry _) h) (fun f s1 hsp => ?_) (fun e s1 he => he)
  · -- the catch
    obtain ⟨a, B, sI, pins', σ', H', cls, d, rfl, J', nb, up, sky, na, os, ag, b, hb1, hyes, hno⟩ := xx
    have J : Inv X pins σ' H' sI := J'.ofTry ok
    have sky' : L2.Sky B (X.env :: X.outer) a (L2.Zc cls d) X.env.locals s'.heap := by rw [← hs]; exact sky
    show wpAny (model X.prog X.w) X.A (noteFrame (.ref a) X.env) _ _ _
    refine L2.Sky.land L2.Zc.steady hfr hf sky' fun h3 fl3 up3 => ?_
    have J3 : Inv X pins σ' H' { s' with heap := h3 } := J.landed nb fl3.1 (up.trans up3) os ag
    obtain ⟨oe3, vs3, he3, hz3, hd3⟩ := fl3.there
    have notFr : ∀ {b : Addr} {h : Heap} {o : Obj} {vs : Array Value}, h.FunFrames B (X.env :: X.outer) → h.get? b = some o → o.data = .fields vs → b ∉ frs (X.env :: X.outer) := fun {b h o vs} ff e dd hm => by
      obtain ⟨_, o', e', hnf⟩ := ff.mem hm
      rw [e] at e'; cases e'
      exact hnf _ dd
    have noL : ∀ {b : Addr}, b ∉ frs (X.env :: X.outer) → b ≠ X.env.locals := fun nfr z => nfr (List.mem_filterMap.mpr ⟨X.env, List.mem_cons_self, by rw [hf, z]⟩)
    have noF : ∀ {b : Addr}, b ∉ frs (X.env :: X.outer) → b ∉ X.fs := fun nfr hm => by
      obtain ⟨e, he, q⟩ := List.mem_filterMap.mp hm
      exact nfr (List.mem_filterMap.mpr ⟨e, List.mem_cons_of_mem _ he, q⟩)
    have nfr := notFr fl3.2.2.1 he3 hd3
    have S3 := J3.suite he3 hd3 na (noL nfr) (noF nfr)
    refine wpAny_handleBy_cons (codeAny_handlers_test ?_) (by intro q; cases q)
    have LT : PySem.W.Looks (model X.prog X.w) h3 (typeOf (.ref a)) cls := fun A Q E s k q => wpAny_typeOf_ref (k _ _ he3) (by rw [hz3.1]; exact q)
    have LM := PySem.W.exm_one (M := model X.prog X.w) (J3.kIn) LT hb1
    have test : ∀ {Q : Value → Shared → Prop} {E : Value → Shared → Prop}, Q c { s' with heap := h3 } → wpAny (model X.prog X.w) (X.A.mark (some (.ref a))) (eval (.Name x np) X.env) Q E { s' with heap := h3 } := fun {Q E} q => by
      obtain ⟨hg, hdbg, hm | ⟨hm, hv, hnn⟩⟩ := hc
      · exact ld_glob (X := X.suite a ((a, oe3) :: (X.pn ++ pins))) S3 hg hm q hdbg
      · exact ld_blt (X := X.suite a ((a, oe3) :: (X.pn ++ pins))) S3 hg hm hv q hnn hdbg
    refine test (LM.here ?_)
    cases b with
    | true =>
      refine codeAny_handlers_suite ?_
      refine HandSPX.lands_againZ fl3 fun h4 fl4 up4 => ?_
      have J4 : Inv X pins σ' H' { s' with heap := h4 } := J.landed nb fl4.1 ((up.trans up3).trans up4) os ag
      obtain ⟨g1, g2, g3, oe, vs, T, oT, ts4, he, hz, hd, h1, hnT, hTe, hT, hdT, h3T⟩ := id fl4
      have nfa := notFr g3 he hd
      have nfT := notFr g3 hT hdT
      have hHT : H' T = none := (J.inGround nb).gone hnT
      -- what stood before stands in the ground
      have inB : ∀ b o, sI.heap.get? b = some o → b ∉ frs (X.env :: X.outer) → ∃ o', B.get? b = some o' := fun b o e n => ⟨o, nb b o e (by rw [hs]; exact n)⟩
      have no0 : ∀ b, b ∉ frs (X.env :: X.outer) → B.get? b = none → X.s_0.heap.get? b = none := fun b n e => by
        cases q : X.s_0.heap.get? b with
        | none => rfl
        | some o =>
          obtain ⟨o', q'⟩ := J.base.there b o q (hex' b)
          obtain ⟨o2, q2⟩ := inB b o' q' n
          rw [e] at q2; cases q2
      have hP : ∀ p ∈ X.pn ++ pins, p.1 ≠ a ∧ p.1 ≠ T := fun p hp => by
        obtain ⟨p1, p2, p3, p4, p5⟩ := J.pin p hp
        have np : p.1 ∉ frs (X.env :: X.outer) := fun hm => by
          rcases List.mem_cons.mp (J.stkSub p.1 (by rw [hs]; exact hm)) with z | z
          · exact p3 z
          · exact p4 z
        obtain ⟨o2, q2⟩ := inB _ _ p1 np
        exact ⟨fun z => (by rw [z, g2] at q2; cases q2), fun z => (by rw [z, hnT] at q2; cases q2)⟩
      have nc : ∀ {o : Obj} {vs : Array Value}, o.data = .fields vs → ∀ v, o.data ≠ .cell v := fun dd v z => by rw [dd] at z; cases z
      have kX := (L2H.suiteX_of (J4.suite he hd na (noL nfa) (noF nfa))).ok
      have S4 : Inv (L2H.suiteX X a ((a, oe) :: (T, oT) :: (X.pn ++ pins))) [] σ' H' { s' with heap := h4 } :=
        ⟨⟨kX.mod, kX.kind, kX.glob, kX.blt, kX.above, kX.inj, kX.has, kX.cab, kX.hd, kX.frames, kX.stk, kX.exf, kX.bs, kX.bsz, kX.noex, kX.exfs, kX.funs, kX.frf⟩, J4.os, J4.bare, J4.base, J4.loc, J4.cell, J4.free, J4.freeC, fun p hp => by
          have hp' : p ∈ (a, oe) :: (T, oT) :: (X.pn ++ pins) := by rw [List.append_nil] at hp; exact hp
          rcases List.mem_cons.mp hp' with e | hp2
          · rw [e]; exact ⟨he, na, noL nfa, noF nfa, nc hd⟩
          rcases List.mem_cons.mp hp2 with e | h
          · rw [e]; exact ⟨hT, hHT, noL nfT, noF nfT, nc hdT⟩
          · exact J4.pin p h, J4.hok, J4.len⟩
      have rr : ∀ p : Pos, PS (L2H.suiteX X a ((a, oe) :: (T, oT) :: (X.pn ++ pins))) (.Raise none none p) (tReraise Wout cls d) := fun p => ps_reraise hs hf tk ok hz hd h1 hTe hdT h3T (no0 a nfa g2) (no0 T nfT hnT) hP
      have un : ∀ {τ : L2.St} {G : Hp} {t : Shared}, Inv (L2H.suiteX X a ((a, oe) :: (T, oT) :: (X.pn ++ pins))) [] τ G t → Inv X pins τ G t := fun I => ⟨ok, I.os, I.bare, I.base, I.loc, I.cell, I.free, I.freeC, fun p hp => I.pin p (List.mem_append_left _ (List.mem_cons_of_mem _ (List.mem_cons_of_mem _ hp))), I.hok, I.len⟩
      refine wpAny_mono ((hsu a cls d _ rr).run [] _ _ H' _ S4 (hyes rfl a na)) (fun f s6 hsp => ?_) (fun e6 s6 z => hpa (some (.ref a)) e6 s6 z)
      cases f with
      | next =>
        obtain ⟨σ6, H6, S6, q6⟩ := hsp
        exact ⟨_, _, un S6, q6⟩
      | brk =>
        obtain ⟨σ6, H6, S6, q6⟩ := hsp
        exact ⟨_, _, un S6, q6⟩
      | cont =>
        obtain ⟨σ6, H6, S6, q6⟩ := hsp
        exact ⟨_, _, un S6, q6⟩
      | ret u =>
        obtain ⟨v6, σ6, H6, S6, r6, q6⟩ := hsp
        exact ⟨_, _, _, un S6, r6, q6⟩
    | false =>
      show wpAny _ X.A (handleBy (.ref a) X.env []) _ _ _
      refine wpAny_handleBy_nil ?_
      obtain ⟨k1, k2, k3, oe, vs, T, oT, ts', he, hz, hd, h1, hr⟩ := id fl3
      unfold PySem.passOn
      refine wpAny_bind (wpAny_field he hd h1 ?_)
      rw [if_neg (show ¬ ((Value.ref T == Value.none) = true) from by simp)]
      have fin : wpAny (model X.prog X.w) X.A (setFlight (.ref a) X.env.frame) (fun _ s4 => wpAny (model X.prog X.w) X.A (throw (.ref a) : Sem Flow) (SP X pins D) X.xe s4) X.xe { s' with heap := h3 } := by
        rw [hf]
        refine HandSPX.setFlight_upZ fl3 fun h4 hh4 up4 => wpAny_throw (tk _ _ ?_)
        exact ⟨a, B, sI, pins, σ', H', cls, d, rfl, J, nb, (up.trans up3).trans up4, .inr (.inr (by rw [hs]; exact hh4)), na, os, ag, hno rfl⟩
      first
        | exact wpAny_bind (wpAny_pure (wpAny_bind fin))
        | exact wpAny_bind fin
  · cases f with
    | next =>
      obtain ⟨σ', H', J', q⟩ := hsp
      exact wpAny_execs_nil ⟨σ', H', J'.ofTry ok, q⟩
    | brk =>
      obtain ⟨σ', H', J', q⟩ := hsp
      exact ⟨σ', H', J'.ofTry ok, q⟩
    | cont =>
      obtain ⟨σ', H', J', q⟩ := hsp
      exact ⟨σ', H', J'.ofTry ok, q⟩
    | ret u =>
      obtain ⟨v, σ', H', J', r, q⟩ := hsp
      exact ⟨v, σ', H', J'.ofTry ok, r, q⟩
end
theorem hs_reraise {K : PySem.W.Frag} {s : S} {O : Out} {Wout : WX} {c : Value} (h : O.x c s) : HS K (WE Wout) (tReraise Wout c none) s O := fun B σ H D S q => q.x c s σ H h S Fr.refl
theorem hq_reraise {K : PySem.W.Frag} {s : S} {O : Out} {Wout : WX} {c : Value} {tz : L2.TS} (h : O.x c s) : HS K (WE Wout) (tSeq (tReraise Wout c none) tz) s O := fun B σ H D S q => q.x c s σ H h S Fr.refl
end DL

namespace DL
open PySem PySem.Spec PyProof.Rows L2 TL
section
variable {K : PySem.W.Frag} {s : S} {E : L2.St → XK} {O : Out} {ta tv tk : TE} {tz : L2.TS} {d : Addr} {kvs : List (Key × W)} {w : W} {key : Key}
/-! ### {k: v} -/
theorem evg_disp1 {k : W → Del → Prop} {ex : Value → Del → Prop} (hk : ∀ p, Ev K tk ⟨s.g, (p, .dic []) :: s.h⟩ (kW key)) (hv : ∀ p, Ev K tv ⟨s.g, (p, .dic []) :: s.h⟩ w) (h : ∀ p, p ∉ ads s.h → k (.o p) ((p, .dic [(key, w)]) :: s.h)) : EvG K E (tDisp [(tk, tv)]) s k ex := fun B σ H Q S q qx p np => by
  obtain ⟨c1, c2, c3⟩ := cell_newG (c := .dic []) (o := .dK []) S np ⟨[], rfl, rfl, .nil⟩
  have S1 : Sat K B ⟨s.g, (p, .dic []) :: s.h⟩ σ (upd H p (.dK [])) := ⟨c1, S.gg.mono c3⟩
  show tk σ (upd H p (.dK [])) _
  refine hk p B σ _ _ S1 fun x H1 e1 r1 => ?_
  refine hv p B σ H1 _ (S1.mono e1) fun y H2 e2 r2 => ?_
  have S2 := (S1.mono e1).mono e2
  obtain ⟨vs, a1, a2, a3⟩ := S2.hh.cell (p, .dic []) List.mem_cons_self
  have : vs = [] := by cases vs with | nil => rfl | cons _ _ => cases a2
  subst this
  have rx : x = kV key := rw_k r1
  refine ⟨a1, [(key, y)], by rw [rx]; rfl, by show 1 ≤ 15; decide, ?_⟩
  have em : mergeK [] [(key, y)] = [(key, y)] := rfl
  rw [em]
  obtain ⟨g1, g2⟩ := cell_set (n := 0) (c' := .dic [(key, w)]) (o := .dK [(key, y)]) S2 rfl ⟨[(key, y)], rfl, rfl, .cons r2 .nil⟩
  exact q (.o p) _ _ _ (h p fun z => S.hh.out np (List.mem_append_left _ z)) g1 (((c2.trans (Fr.of e1)).trans (Fr.of e2)).trans g2) rfl
/-! ### sum of ints -/
theorem rc_sum {ns : List Int} : RCs K s (rSum K) [wl (ns.map .int)] (wi ns.sum) := fun B σ H vs Q S a q => by
  cases a with
  | cons a1 a2 =>
    cases a2
    obtain ⟨p, us, rfl, g, rr⟩ := (lv_d (s := s)).get S a1
    have hv : us = ns.map V.int := by
      clear g q a1
      revert us
      induction ns with
      | nil => intro us rr; cases rr; rfl
      | cons n ns ih =>
        intro us rr
        cases rr with
        | cons r1 r2 =>
          cases rw_i r1
          rw [ih _ r2]
          rfl
    subst hv
    exact ⟨p, ns, rfl, g, q _ H same_refl ri⟩
theorem sumK (K : PySem.W.Frag) {X : Cx} (hc : X.calm = true) (hK : X.K = K := by rfl) : CallR X (.builtin "sum") (rSum K) := by subst hK; exact cr_sum hc
/-! ### a dict and its copy -/
theorem op_neDK {X : Cx} {j : Nat} {A : Around} (hr : Room j A) (hA : X.A = A := by rfl) : OpR X (compareOp .NotEq) rNeDA := op_ne_dictA (by subst hA; have := hu_of hr; omega)
def flatV : W → Prop
  | .d (.int _) => True
  | .d (.str _) => True
  | .d (.bool _) => True
  | .d .none => True
  | _ => False
theorem rv_neDA {n m : Nat} {a b : Addr} {kvs : List (Key × W)} (hn : s.h[n]? = some (a, .dic kvs)) (hm : s.h[m]? = some (b, .dic kvs)) (nd : (kvs.map (·.1)).Nodup) (fl : ∀ p ∈ kvs, flatV p.2) : RVs K s rNeDA (.o a) (.o b) (wb false) := fun B σ H v u Q S r1 r2 q => by
  cases (show v = V.ref a from r1)
  cases (show u = V.ref b from r2)
  obtain ⟨va, ea, ka, wa⟩ := S.hh.cell _ (List.mem_of_getElem? hn)
  obtain ⟨vb, eb, kb, wb'⟩ := S.hh.cell _ (List.mem_of_getElem? hm)
  have key : ∀ {M : Hp} (va vb : List (Key × V)) (kvs : List (Key × W)), va.map (·.1) = kvs.map (·.1) → vb.map (·.1) = kvs.map (·.1) → RWs K M (va.map (·.2)) (kvs.map (·.2)) → RWs K M (vb.map (·.2)) (kvs.map (·.2)) → (∀ p ∈ kvs, flatV p.2) → va = vb ∧ ∀ p ∈ va, flatB p.2 = true := by
    intro M va
    induction va with
    | nil =>
      intro vb kvs k1 k2 _ _ _
      cases kvs with
      | cons _ _ => cases k1
      | nil =>
        cases vb with
        | cons _ _ => cases k2
        | nil => exact ⟨rfl, fun _ h => by cases h⟩
    | cons p va ih =>
      intro vb kvs k1 k2 w1 w2 f
      cases kvs with
      | nil => cases k1
      | cons kv kvs =>
        cases vb with
        | nil => cases k2
        | cons p2 vb =>
          rw [List.map_cons, List.map_cons] at k1 k2 w1 w2
          injection k1 with a1 a2
          injection k2 with b1 b2
          cases w1 with
          | cons x1 x2 =>
            cases w2 with
            | cons y1 y2 =>
              obtain ⟨e, fa⟩ := ih vb kvs a2 b2 x2 y2 fun q hq => f q (List.mem_cons_of_mem _ hq)
              have f0 := f kv List.mem_cons_self
              have hv : p.2 = p2.2 ∧ flatB p.2 = true := by
                obtain ⟨kk, ww⟩ := kv
                cases ww with
                | d pd =>
                  cases pd with
                  | int i => have z1 := rw_i x1; have z2 := rw_i y1; rw [z1, z2]; exact ⟨rfl, rfl⟩
                  | str i => have z1 := rw_s x1; have z2 := rw_s y1; rw [z1, z2]; exact ⟨rfl, rfl⟩
                  | bool i => have z1 := rw_b x1; have z2 := rw_b y1; rw [z1, z2]; exact ⟨rfl, rfl⟩
                  | none => have z1 := rw_n x1; have z2 := rw_n y1; rw [z1, z2]; exact ⟨rfl, rfl⟩
                  | _ => exact f0.elim
                | _ => exact f0.elim
              have hp : p = p2 := Prod.ext (a1.trans b1.symm) hv.1
              subst hp
              rw [e]
              refine ⟨rfl, fun q hq => ?_⟩
              rcases List.mem_cons.mp hq with z | z
              · rw [z]; exact hv.2
              · exact fa q (by rw [e]; exact z)
  obtain ⟨e, fa⟩ := key va vb kvs ka kb wa wb' fl
  subst e
  have ndv : (va.map (·.1)).Nodup := by rw [ka]; exact nd
  refine ⟨a, b, va, va, rfl, rfl, ea, eb, rfl, fun p hp => ⟨?_, fa p hp⟩, q _ H same_refl rb⟩
  unfold valV
  have : va.find? (fun kv => decide (kv.1 = p.1)) = some p := by
    clear fa ea eb wa wb' ka kb
    induction va with
    | nil => cases hp
    | cons x va ih =>
      rw [List.map_cons, List.nodup_cons] at ndv
      rcases List.mem_cons.mp hp with z | z
      · rw [z, List.find?_cons_of_pos (by simp)]
      · rw [List.find?_cons_of_neg (by simp only [decide_eq_true_eq]; intro e; exact ndv.1 (by rw [e]; exact List.mem_map_of_mem z)), ih ndv.2 z]
  rw [this]; rfl
end
/-- comprehensions over pairs -/
theorem evf_lc2G {K : PySem.W.Frag} {s : S} {x : W} {tl te : TE} {tt : TT} {α : Type} (d0 : α) (e1 e2 : α → PyData) {i j : Nat} {vs : List Nat} {l : List α} (p : α → Bool) (g : α → PyData) (h : Ev K tl s x) (lv : LV s x ((l.map fun a => PyData.tuple [e1 a, e2 a]).map .d)) (hl : l.length ≤ 16000000) (hi : i ∈ vs) (hj : j ∈ vs)
    (ht : ∀ q ∈ l, EvT K tt (inB2 s vs i j (e1 q) (e2 q)) (p q)) (he : ∀ q ∈ l, p q = true → Ev K te (inB2 s vs i j (e1 q) (e2 q)) (.d (g q))) :
    EvF K (tLc (iList K tl) (gTup K 2 (gCons (gName i) (gCons (gName j) gNil))) tt te vs) s (((l.filter p).map g).map .d) := by
  have hx : LV s x ((l.map fun a => ((e1 a, e2 a) : PyData × PyData)).map fun q => wt [q.1, q.2]) := by
    rw [List.map_map] at lv ⊢
    exact lv
  have key : ∀ (k : Nat) (q : PyData × PyData), (l.map fun a => ((e1 a, e2 a) : PyData × PyData))[k]? = some q → ∃ y ∈ l, q = (e1 y, e2 y) ∧ l.getD k d0 = y := fun k q e => by
    rw [List.getElem?_map] at e
    cases hk : l[k]? with
    | none => rw [hk] at e; cases e
    | some y =>
      rw [hk] at e
      exact ⟨y, List.mem_of_getElem? hk, (Option.some.inj e).symm, by rw [List.getD_eq_getElem?_getD, hk]; rfl⟩
  have r := evf_lcL2 (i := i) (j := j) (vs := vs) (tt := tt) (te := te) (fun k => p (l.getD k d0)) (fun k => .d (g (l.getD k d0))) h hx (by rw [List.length_map]; exact hl) hi hj (fun k q e => by
    obtain ⟨y, hy, rfl, e2⟩ := key k q e
    rw [e2]
    exact ht y hy) (fun k q e hp => by
    obtain ⟨y, hy, rfl, e2⟩ := key k q e
    rw [e2] at hp ⊢
    exact he y hy hp)
  rw [List.length_map, outs_filter l d0 p fun q => W.d (g q)] at r
  rw [List.map_map]
  exact r
theorem evf_lc2A {K : PySem.W.Frag} {s : S} {x : W} {tl te : TE} {α : Type} (d0 : α) (e1 e2 : α → PyData) {i j : Nat} {vs : List Nat} {l : List α} (g : α → PyData) (h : Ev K tl s x) (lv : LV s x ((l.map fun a => PyData.tuple [e1 a, e2 a]).map .d)) (hl : l.length ≤ 16000000) (hi : i ∈ vs) (hj : j ∈ vs)
    (he : ∀ q ∈ l, Ev K te (inB2 s vs i j (e1 q) (e2 q)) (.d (g q))) :
    EvF K (tLc (iList K tl) (gTup K 2 (gCons (gName i) (gCons (gName j) gNil))) tYes te vs) s ((l.map g).map .d) := by
  have r := evf_lc2G d0 e1 e2 (i := i) (j := j) (vs := vs) (tt := tYes) (te := te) (fun _ => true) g h lv hl hi hj (fun _ _ => et_yes) fun q hq _ => he q hq
  rwa [List.filter_eq_self.mpr fun _ _ => rfl] at r
theorem ev_cat {K : PySem.W.Frag} {s : S} {ta tb : TE} {xs ys : List PyData} (ha : Ev K ta s (wl xs)) (hb : Ev K tb s (wl ys)) (hz : xs.length + ys.length ≤ sizeLine) : Ev K (tOp rAddU ta tb) s (wl (xs ++ ys)) :=
  EvF.ev (evf_is (evf_op ha hb (rvf_cat lv_d lv_d (by rw [List.length_map, List.length_map]; exact hz) (fun _ h => by cases h) (fun _ h => by cases h))) (by rw [List.map_append]))
theorem pg_tupK (K : PySem.W.Frag) {X : Cx} {es : List Expr} {k : Nat} {t : TGs} {n : Nat} {pos : Pos} (hc : X.calm = true) (h : PGs X es t) (hn : (assignEach es X.env).length = n := by rfl) (hst : (assignEach es X.env).findIdx? (·.1) = none := by rfl) (hK : X.K = K := by rfl) : PG X (.Tuple es k pos) (gTup K n t) := by
  subst hK
  exact pg_tup hc h hn hst
theorem evf_lcR2 {K : PySem.W.Frag} {s : S} {te : TE} {tt : TT} {tr : TA} {j : Nat} {vs : List Nat} {lo n : Int} (f : Nat → Bool) (v : Nat → W) (h : EvA K tr s [wi lo, wi n]) (h1 : -(2 ^ 62) ≤ lo ∧ lo < 2 ^ 62 ∧ -(2 ^ 62) ≤ n ∧ n < 2 ^ 62) (hn : n - lo ≤ 16000000) (hj : j ∈ vs)
    (ht : ∀ i : Nat, lo + (i : Int) < n → EvT K tt (inB s vs j (wi (lo + (i : Int)))) (f i)) (he : ∀ i : Nat, lo + (i : Int) < n → f i = true → Ev K te (inB s vs j (wi (lo + (i : Int)))) (v i)) :
    EvF K (tLc (iRng2 tr) (gName j) tt te vs) s (outs (n - lo).toNat f v) := fun B σ H Q S q =>
  h B σ H _ S fun us H1 e1 r1 => by
    cases r1 with
    | cons r1 r2 =>
      cases r2 with
      | cons r2 r3 =>
        cases r3; cases rw_i r1; cases rw_i r2
        refine ⟨lo, n, rfl, h1, fun D nD => ?_⟩
        have S1 := S.mono e1
        refine lc_range (lo := lo) (n := (n - lo).toNat) (fun i H' => CW K B s σ H1 D (outs i f v) H') (cw_start nD) (fun i H' hi c => ?_) (fun H' c => cw_end c fun a us H2 e2 ha ea rr => q a us H2 (e1.trans e2) (by rw [ea]; exact e1.free nD) ha rr)
        refine ⟨wipe_set hj, ?_⟩
        have hlt : lo + (i : Int) < n := by omega
        have hz : (outs i f v).length < sizeLine := Nat.lt_of_le_of_lt (outs_len i f v) (by rw [sizeLine_eq]; omega)
        obtain ⟨e, acc, hD, r⟩ := c
        have S2 := cw_sat S1 nD e ⟨_, hD⟩
        have S3 : Sat K (D :: B) (inB s vs j (wi (lo + (i : Int)))) ((wipe σ vs).set j (some (.int (lo + (i : Int))))) H' := ⟨S2.hh, (wipe_sat S2.gg vs).set ri j⟩
        exact cw_turn ⟨e, acc, hD, r⟩ S3 nD rfl hz (ht i hlt) (he i hlt) (fun hb H2 c2 => by rw [outs_yes hb]; exact c2) (fun hb H2 c2 => by rw [outs_no hb]; exact c2)
end DL

namespace DL
open PySem PySem.Spec PyProof.Rows L2
/-! ### arguments that may raise, tuples added -/
def EvAR (K : PySem.W.Frag) (E : L2.St → XK) (ta : TA) (s : S) (k : List W → Prop) (x : Value → Prop) : Prop := ∀ (B : List Addr) (σ : L2.St) (H : Hp) (Q : List V → Hp → Prop), Sat K B s σ H →
  (∀ ws vs H', k ws → Same H H' → RWs K (msk H' (ads s.h ++ B)) vs ws → Q vs H') → (∀ c H', x c → Same H H' → E σ c none H') → ta σ H Q
section
variable {K : PySem.W.Frag} {s : S} {ta tb te : TE} {tr : TA} {x y z w : W} {r : R2} {E : L2.St → XK} {ex : Value → Prop} {t : TT}
theorem ear_nil {k : List W → Prop} (h : k []) : EvAR K E tNil s k ex := fun B σ H Q S q _ => q [] [] H h same_refl .nil
theorem ear_cons {k : List W → Prop} (h : EvR K E te s (fun w => EvAR K E tr s (fun ws => k (w :: ws)) ex) ex) : EvAR K E (tCons te tr) s k ex := fun B σ H Q S q qx =>
  h B σ H _ S (fun w v H1 k1 e1 r1 => k1 B σ H1 _ (S.mono e1) (fun ws vs H2 k2 e2 r2 => q (w :: ws) (v :: vs) H2 k2 (e1.trans e2) (.cons (r1.mono (msk_same e2)) r2)) fun c H2 hx e2 => qx c H2 hx (e1.trans e2)) qx
theorem ear_of {k : List W → Prop} {xs : List W} (h : EvA K tr s xs) (hk : k xs) : EvAR K E tr s k ex := fun B σ H Q S q _ => h B σ H Q S fun vs H' e r => q xs vs H' hk e r
theorem evr_tup {k : W → Prop} (h : EvAR K E tr s (fun ws => ∃ ds : List PyData, ws = ds.map .d ∧ ds.length ≤ sizeLine ∧ k (wt ds)) ex) : EvR K E (tTup tr) s k ex := fun B σ H Q S q qx =>
  h B σ H _ S (fun ws vs H1 ⟨ds, e, hl, hk⟩ e1 r1 => by
    subst e
    refine ⟨by rw [r1.len]; simpa using hl, fun p np => ?_⟩
    have e2 : Same H1 (upd H1 p (.tup vs)) := fun b o e => by rw [upd_ne (ne_of_none e np)]; exact e
    have no := (S.mono e1).hh.out np
    refine q _ _ _ hk (e1.trans e2) (Dq.tup (xs := vs) (.inl ?_) (rws_dpa (r1.mono (msk_same e2))))
    rw [msk_out no]
    exact upd_same) qx
theorem evr_if {b : Bool} {k : W → Prop} (h : EvT K t s b) (h1 : b = true → EvR K E ta s k ex) (h2 : b = false → EvR K E tb s k ex) : EvR K E (tIf t ta tb) s k ex := fun B σ H Q S q qx => h B σ H _ S fun H1 e1 => by
  cases b with
  | true => exact iteT (h1 rfl B σ H1 Q (S.mono e1) (fun w v H2 hk e2 r2 => q w v H2 hk (e1.trans e2) r2) fun c H2 hx e2 => qx c H2 hx (e1.trans e2))
  | false => exact iteF (h2 rfl B σ H1 Q (S.mono e1) (fun w v H2 hk e2 r2 => q w v H2 hk (e1.trans e2) r2) fun c H2 hx e2 => qx c H2 hx (e1.trans e2))
/-- a list and what may raise, added: as data -/
theorem rv_catD {xs ys : List PyData} (hz : xs.length + ys.length ≤ sizeLine) : RVs K s rAddU (wl xs) (wl ys) (wl (xs ++ ys)) := fun B σ H v u Q S a b q =>
  rvf_cat (K := K) (s := s) (xs := xs.map .d) (ys := ys.map .d) lv_d lv_d (by rw [List.length_map, List.length_map]; exact hz) (fun _ h => by cases h) (fun _ h => by cases h) B σ H v u Q S a b fun p vs H' e n ha rr => by
    rw [← List.map_append] at rr
    have no := S.hh.out n
    refine q _ _ e (Dq.lst ?_ (rws_dpa (rr.mono (msk_less fun b hb => List.mem_cons_of_mem _ hb))))
    rw [msk_out no]
    exact ha
theorem op_catAK (K : PySem.W.Frag) {X : Cx} (hK : X.K = K := by rfl) : OpR X (binaryOp .Add) (rCatA K) := by subst hK; exact op_catA
theorem rv_catT {xs ys : List PyData} (hz : xs.length + ys.length ≤ sizeLine) : RVs K s (rCatA K) (wt xs) (wt ys) (wt (xs ++ ys)) := fun B σ H v u Q S a b q => by
  obtain ⟨p, vs, rfl, g1, r1⟩ := tv_get S a
  obtain ⟨p2, us, rfl, g2, r2⟩ := tv_get S b
  have l1 : vs.length = xs.length := by rw [r1.len, List.length_map]
  have l2 : us.length = ys.length := by rw [r2.len, List.length_map]
  refine ⟨p, p2, vs, us, rfl, rfl, g1, g2, by rw [l1, l2]; exact hz, fun e => ?_, fun _ e => ?_, fun _ _ c nc => ?_⟩
  · have : xs = [] := List.eq_nil_of_length_eq_zero (by rw [← l1, e]; rfl)
    subst this
    exact q _ H same_refl b
  · have : ys = [] := List.eq_nil_of_length_eq_zero (by rw [← l2, e]; rfl)
    subst this
    rw [List.append_nil] at q
    exact q _ H same_refl a
  · have no := S.hh.out nc
    have e4 : Same H (upd H c (.tup (vs ++ us))) := same_new nc
    refine q (.ref c) _ e4 (Dq.tup (xs := vs ++ us) (.inl (by rw [msk_out no]; exact upd_same)) (rws_dpa ?_))
    rw [List.map_append]
    exact (r1.append r2).mono (msk_same e4)
end
end DL

namespace DL
open PySem PySem.Spec PyProof.Rows L2
/-! ### comprehensions over rows of four -/
section
variable {K : PySem.W.Frag} {s : S} {tl te : TE} {tt : TT} {x : W}
abbrev inB4 (s : S) (vs : List Nat) (i j k n : Nat) (u1 u2 u3 u4 : PyData) : S := ⟨((((wipeG s.g vs).set i (some (.d u1))).set j (some (.d u2))).set k (some (.d u3))).set n (some (.d u4)), s.h⟩
theorem evfw_lc4W {α : Type} (d0 : α) (e1 e2 e3 e4 : α → PyData) {i j m n : Nat} {vs : List Nat} {l : List α} (g : α → PyData) (h : EvW K tl s x) (lv : LV s x ((l.map fun a => PyData.tuple [e1 a, e2 a, e3 a, e4 a]).map .d)) (hl : l.length ≤ 16000000) (hi : i ∈ vs) (hj : j ∈ vs) (hm : m ∈ vs) (hn : n ∈ vs)
    (he : ∀ q ∈ l, Ev K te (inB4 s vs i j m n (e1 q) (e2 q) (e3 q) (e4 q)) (.d (g q))) :
    EvFW K (tLc (iList K tl) (gTup K 4 (gCons (gName i) (gCons (gName j) (gCons (gName m) (gCons (gName n) gNil))))) tYes te vs) s ((l.map g).map .d) := by
  have er : outs l.length (fun _ => true) (fun k => W.d (g (l.getD k d0))) = (l.map g).map .d := by
    rw [outs_all, List.map_map]
    exact range_map l d0 fun q => W.d (g q)
  rw [← er]
  exact fun B σ H Q S q =>
  h B σ H _ S fun u H1 S1 f1 r1 => by
    obtain ⟨a, us, rfl, gg, rr⟩ := lv.get S1 r1
    have hlen : us.length = l.length := by rw [rr.len, List.length_map, List.length_map]
    refine ⟨a, rfl, ⟨us, gg⟩, fun D nD => ?_⟩
    refine lc_list (xs := us) (fun k H' => CW K B s σ H1 D (outs k (fun _ => true) (fun k => W.d (g (l.getD k d0)))) H') (cw_start nD) (fun k H' _ c => c.1.seq gg) (fun k y H' hk c => ?_) (fun H' c => cw_end (by rw [hlen] at c; exact c) fun a us H2 e2 ha ea rr => ?_)
    · obtain ⟨u, hu, ru⟩ := rr.getv hk
      rw [List.getElem?_map, List.getElem?_map] at hu
      cases hp : l[k]? with
      | none => rw [hp] at hu; cases hu
      | some p =>
        rw [hp] at hu
        have hu' : wt [e1 p, e2 p, e3 p, e4 p] = u := Option.some.inj hu
        subst hu'
        have hlt : k < l.length := (List.getElem?_eq_some_iff.mp hp).1
        have hz : (outs k (fun _ => true) (fun k => W.d (g (l.getD k d0)))).length < sizeLine := Nat.lt_of_le_of_lt (outs_len k _ _) (by rw [sizeLine_eq]; omega)
        have ru' : Dq K (msk H1 (ads s.h ++ B)) y (.tuple [e1 p, e2 p, e3 p, e4 p]) := ru
        cases ru' with
        | tup hs ha =>
          cases ha with
          | cons a1 a2 =>
            cases a2 with
            | cons a2 a3 =>
              cases a3 with
              | cons a3 a4 =>
                cases a4 with
                | cons a4 a5 =>
                  cases a5
                  rename_i v1 v2 v3 v4
                  obtain ⟨e, acc, hD, r⟩ := c
                  refine ⟨_, _, rfl, ((hs.mono msk_sub).mono e).sq, rfl, _, _, rfl, _, _, rfl, _, _, rfl, _, _, rfl, rfl, ?_⟩
                  refine ⟨by rw [wipe_set1 hn, wipe_set1 hm, wipe_set2 hi hj], ?_⟩
                  have S2 : Sat K B (inB4 s vs i j m n (e1 p) (e2 p) (e3 p) (e4 p)) (((((wipe σ vs).set i (some v1)).set j (some v2)).set m (some v3)).set n (some v4)) H1 := ⟨S1.hh, ((((wipe_sat S1.gg vs).set (w := .d (e1 p)) a1 i).set (w := .d (e2 p)) a2 j).set (w := .d (e3 p)) a3 m).set (w := .d (e4 p)) a4 n⟩
                  have S3 := cw_sat S2 nD e ⟨_, hD⟩
                  have hd : l.getD k d0 = p := by rw [List.getD_eq_getElem?_getD, hp]; rfl
                  exact cw_turn (b := true) (w := .d (g p)) ⟨e, acc, hD, r⟩ S3 nD rfl hz et_yes (fun _ => he p (List.mem_of_getElem? hp)) (fun hb H2 c2 => by rw [outs_yes rfl, hd]; exact c2) (fun hb => by cases hb)
    · obtain ⟨c1, c2, c3⟩ := cell_new S1 e2 (by rw [ea]; exact nD) ha rr
      exact q a H2 ⟨c1, S1.gg.mono c3⟩ (f1.trans c2)
end
section
variable {X : Cx} {a b c d : Expr} {ta tb tc td : TE} {pos : Pos}
/-- a op1 b op2 c op3 d -/
def tChain3 (r r' r2 : R2) (ta tb tc td : TE) : TE := fun σ H Q => ta σ H fun x H1 => tb σ H1 fun y H2 => r x y H2 fun z H3 => ∃ k, z = .bl k ∧
  (if k = true then tc σ H3 fun w' H4 => r' y w' H4 fun z' H5 => ∃ k', z' = .bl k' ∧ (if k' = true then td σ H5 fun u' H6 => r2 w' u' H6 Q else Q (.bl false) H5) else Q (.bl false) H3)
theorem pe_chain3 {op op' op2 : CmpOp} {r r' r2 : R2} (ho : OpR X (compareOp op) r) (ho' : OpR X (compareOp op') r') (ho2 : OpR X (compareOp op2) r2) (ha : PE X a ta) (hb : PE X b tb) (hc : PE X c tc) (hd : PE X d td)
    (hm : lastMarks [op, op', op2] [b, c, d] = false := by with_unfolding_all rfl) : PE X (.Compare a [op, op', op2] [b, c, d] pos) (tChain3 r r' r2 ta tb tc td) := by
  refine ⟨fun pins s σ H Q I h => ?_⟩
  refine Compare_chain (thn (ha.run pins s σ H _ I h) fun v s1 ⟨x, H1, I1, r1, q1⟩ => chain_link (thn (hb.run pins s1 σ H1 _ I1 q1) fun u s2 ⟨y, H2, I2, r2, q2⟩ =>
    thn (ho pins s2 σ H2 x y v u _ I2 r1 r2 q2) fun d s3 ⟨z, H3, I3, r3, k, e, q3⟩ => ?_)) hm
  subst e
  cases r3
  refine wpAny_truthy_bool ?_
  cases k with
  | false => exact ite_ff ⟨.bl false, H3, I3, rfl, q3⟩
  | true =>
    refine ite_tt (chain_link (thn (hc.run pins s3 σ H3 _ I3 q3) fun w' s4 ⟨z', H4, I4, r4, q4⟩ => thn (ho' pins s4 σ H4 y z' u w' _ I4 r2 r4 q4) fun d' s5 ⟨z5, H5, I5, r5, k', e', q5⟩ => ?_))
    subst e'
    cases r5
    refine wpAny_truthy_bool ?_
    cases k' with
    | false => exact ite_ff ⟨.bl false, H5, I5, rfl, q5⟩
    | true => exact ite_tt (chain_last (thn (hd.run pins s5 σ H5 _ I5 q5) fun w6 s6 ⟨z6, H6, I6, r6, q6⟩ => ho2 pins s6 σ H6 z' z6 w' w6 Q I6 r4 r6 q6))
end
section
variable {K : PySem.W.Frag} {s : S} {ta tb tc td : TE} {x y z w : W}
theorem ev_chain3 {r r' r2 : R2} {b c e : Bool} (ha : Ev K ta s x) (hb : Ev K tb s y) (hc : Ev K tc s z) (hd : Ev K td s w) (hr : RVs K s r x y (wb b)) (hr' : b = true → RVs K s r' y z (wb c)) (hr2 : c = true → RVs K s r2 z w (wb e)) : Ev K (tChain3 r r' r2 ta tb tc td) s (wb (b && (c && e))) := fun B σ H Q S q =>
  ha B σ H _ S fun v H1 e1 r1 => hb B σ H1 _ (S.mono e1) fun u H2 e2 r2' => hr B σ H2 v u _ (S.mono (e1.trans e2)) (r1.mono (msk_same e2)) r2' fun t H3 e3 r3 => by
    refine ⟨b, rw_b r3, ?_⟩
    cases b with
    | false => exact iteF (q _ H3 ((e1.trans e2).trans e3) rb)
    | true =>
      refine iteT (hc B σ H3 _ (S.mono ((e1.trans e2).trans e3)) fun u' H4 e4 r4 => ?_)
      refine hr' rfl B σ H4 u u' _ (S.mono (((e1.trans e2).trans e3).trans e4)) (r2'.mono (msk_same (e3.trans e4))) r4 fun t' H5 e5 r5 => ?_
      refine ⟨c, rw_b r5, ?_⟩
      cases c with
      | false => exact iteF (q _ H5 ((((e1.trans e2).trans e3).trans e4).trans e5) rb)
      | true =>
        refine iteT (hd B σ H5 _ (S.mono ((((e1.trans e2).trans e3).trans e4).trans e5)) fun u6 H6 e6 r6 => ?_)
        exact hr2 rfl B σ H6 u' u6 Q (S.mono (((((e1.trans e2).trans e3).trans e4).trans e5).trans e6)) (r4.mono (msk_same (e5.trans e6))) r6 fun t7 H7 e7 r7 => q t7 H7 ((((((e1.trans e2).trans e3).trans e4).trans e5).trans e6).trans e7) r7
/-- a dict's truth -/
theorem et_dic {te : TE} {d : Addr} {kvs : List (Key × W)} (n : Nat) (hn : s.h[n]? = some (d, .dic kvs)) (h : Ev K te s (.o d)) : EvT K (tTruthU K te) s (!kvs.isEmpty) := fun B σ H Q S q => h B σ H _ S fun v H1 e1 r1 => by
  cases (show v = V.ref d from r1)
  obtain ⟨ps, hv, rv, _⟩ := (S.mono e1).hh.cell _ (List.mem_of_getElem? hn)
  refine ⟨_, .inr (.inr ⟨ps, hv, rfl⟩), ?_⟩
  have : ps.isEmpty = kvs.isEmpty := by
    have := congrArg List.length rv
    rw [List.length_map, List.length_map] at this
    cases ps <;> cases kvs <;> simp_all
  rw [this]
  exact q H1 e1
end
end DL

namespace Lw
open PySem PySem.Spec PyProof.Rows L2 TL DL
def topS (i : Nat) : Stmt := PySem.Challenge.pw_lethe_k60_letters_read_back.main.body.getD i (.Pass ⟨0, 0, 0, 0⟩)
local macro_rules | `(tactic| walk_at "Dsz") => `(tactic| first | assumption | (decide +kernel) | omega | (rw [sizeLine_eq]; omega) | (simp only [sizeLine_eq]; omega) | (simp [sizeLine_eq]; done))
local macro_rules | `(tactic| walk_at "Dlv") => `(tactic| first | exact lv_d | exact lv_o 0 rfl | exact lv_o 1 rfl | exact lv_o 2 rfl | exact lv_o 3 rfl | exact lv_o 4 rfl | exact lv_o 5 rfl | exact lv_sc | assumption)
local macro_rules | `(tactic| walk_at "Dqv") => `(tactic| first | exact qv_t | exact qv_l (by walk_at "Dlv") | assumption)
local macro_rules | `(tactic| walk_at "Ddv") => `(tactic| first | exact dv_d | exact dv_o 0 rfl | exact dv_o 1 rfl | exact dv_o 2 rfl | exact dv_o 3 rfl | exact dv_o 4 rfl | assumption)
local macro_rules | `(tactic| walk_at "Drv") => `(tactic| first
  | with_reducible exact rv_addI | with_reducible exact rv_sub | with_reducible exact rv_eqI | with_reducible exact rv_neI | with_reducible exact rv_ltI | with_reducible exact rv_gtI | with_reducible exact rv_leI | with_reducible exact rv_geI
  | (with_reducible refine rv_mulS ?_; assumption) | with_reducible exact rv_inC | with_reducible exact rv_ninC
  | with_reducible exact rv_eqS | with_reducible exact rv_neS | with_reducible exact rv_eqB | with_reducible exact rv_neB | with_reducible exact rv_ltS | with_reducible exact rv_gtS
  | (with_reducible refine rv_mulR ?_ ?_ <;> decide)
  | (with_reducible refine rv_mulL ?_ ?_ <;> decide)
  | (with_reducible refine rv_mod ?_; first | assumption | decide | omega)
  | (with_reducible refine rv_divP ?_ ?_ <;> first | decide | omega)
  | (with_reducible refine rv_powP ?_ ?_ ?_ <;> decide)
  | (with_reducible refine rv_mulL ?_ ?_ <;> omega)
  | (with_reducible refine rv_mulR ?_ ?_ <;> omega)
  | (with_reducible refine rv_addS ?_; walk_at "Dsz")
  | with_reducible exact rv_isn isn_t | with_reducible exact rv_isn isn_n | with_reducible exact rv_notnT | with_reducible exact rv_notN0 | with_reducible exact rv_isn isn_s | with_reducible exact rv_notnS | with_reducible exact rv_isn isn_i | with_reducible exact rv_notnI | with_reducible exact rv_isn isn_l | with_reducible exact rv_notn isn_l
  | (with_reducible refine rv_inKD ?_; assumption) | (with_reducible refine rv_ninKD ?_; assumption) | (with_reducible apply rv_ixKD <;> assumption)
  | (with_reducible apply rv_ixL; (walk_at "Dlv"); assumption)
  | (with_reducible apply rv_ixT; first | assumption | exact rfl)
  | (with_reducible apply rv_ixS; (walk_at "Dsz"); assumption)
  | (with_reducible apply rv_eqD; (walk_at "Ddv"); (walk_at "Ddv"); (first | rfl | assumption | decide +kernel); (first | rfl | assumption | decide +kernel))
  | (with_reducible apply rv_neD; (walk_at "Ddv"); (walk_at "Ddv"); (first | rfl | assumption | decide +kernel); (first | rfl | assumption | decide +kernel)))
local macro_rules | `(tactic| walk_at "Drc") => `(tactic| first
  | with_reducible exact rc_intI | with_reducible exact rc_intB | with_reducible exact rc_abs | with_reducible exact rc_max | with_reducible exact rc_min | with_reducible exact rc_ord
  | (with_reducible refine rc_isiI ?_; decide)
  | (with_reducible refine rc_isiB ?_; decide)
  | (with_reducible refine rc_isiS ?_; decide)
  | (with_reducible refine rc_isiL ?_; decide)
  | (with_reducible refine rc_isiT ?_; decide)
  | ((with_reducible apply rc_isiO (n := 0)) <;> first | decide | rfl)
  | ((with_reducible apply rc_isiO (n := 1)) <;> first | decide | rfl)
  | (with_reducible refine rc_lenS ?_; walk_at "Dsz")
  | (with_reducible refine rc_strI ?_; first | assumption | decide +kernel)
  | ((with_reducible refine rc_intS ?_ ?_) <;> assumption)
  | ((with_reducible refine rc_isE ?_) <;> assumption)
  | ((with_reducible refine rc_isET ?_) <;> assumption)
  | (with_reducible apply rc_lenL; walk_at "Dqv")
  | (with_reducible apply rc_tuple; walk_at "Dlv"))
local macro_rules | `(tactic| walk_at "Drcf") => `(tactic| (with_reducible apply rcf_list; walk_at "Dqv"))
local macro_rules | `(tactic| walk_at "Dlg") => `(tactic| first | assumption | decide +kernel)
local macro_rules | `(tactic| walk_at "Drm") => `(tactic| first
  | with_reducible exact rm_find | with_reducible exact rm_find3 | with_reducible exact rm_find4 | with_reducible exact rm_isascii | with_reducible exact rm_isdigit | with_reducible exact rm_startswith | with_reducible exact rm_startswith3
  | ((with_reducible refine rm_partition ?_ ?_) <;> first | rfl | walk_at "Dsz")
  | (with_reducible refine rm_join ?_; walk_at "Dsz")
  | (with_reducible refine rm_zfill ?_; first | assumption | decide +kernel)
  | (with_reducible refine rm_ljust ?_; first | assumption | decide +kernel))
local macro_rules | `(tactic| walk_at "Dty") => `(tactic| first | exact tyw_s | exact tyw_l (by walk_at "Dlv"))
local macro_rules | `(tactic| walk_at "Dle") => `(tactic| first | exact Le.nil | (refine Le.same ?_; walk_at "Dle") | (refine Le.drop ?_; walk_at "Dle"))
local macro_rules | `(tactic| walk_at "Dvw") => `(tactic| first | exact VWs.nil | (refine VWs.cons (vw_o 0 rfl) ?_; walk_at "Dvw") | (refine VWs.cons (vw_o 1 rfl) ?_; walk_at "Dvw") | (refine VWs.cons (vw_o 2 rfl) ?_; walk_at "Dvw") | (refine VWs.cons (vw_o 3 rfl) ?_; walk_at "Dvw") | (refine VWs.cons vw_i ?_; walk_at "Dvw"))
local macro_rules | `(tactic| walk_at "Dgo") => `(tactic| dsimp only [nox_K, cx_K, List.map, List.length, List.replicate, List.append, List.cons_append, List.nil_append, Nat.reduceSub, Nat.reduceAdd, Nat.sub_self, Nat.zero_add])
local macro_rules | `(tactic| walk_at "Dob") => `(tactic| first | exact get0 | exact get1 | exact get2 | exact get3 | exact get4 | exact get5)
local macro_rules | `(tactic| walk_at "Dda") => `(tactic| first | exact da_d 0 rfl | exact da_d 1 rfl | exact da_d 2 rfl | exact da_d 3 rfl | exact da_f 0 rfl | exact da_f 1 rfl | exact da_f 2 rfl | exact da_f 3 rfl)
local macro_rules | `(tactic| walk_at "Dpm") => `(tactic| first | with_reducible exact List.Perm.refl _ | (with_reducible refine List.Perm.cons _ ?_; walk_at "Dpm") | (with_reducible refine perm1 ?_; walk_at "Dpm") | (with_reducible refine perm2 ?_; walk_at "Dpm") | (with_reducible refine perm3 ?_; walk_at "Dpm") | (with_reducible refine perm4 ?_; walk_at "Dpm") | (with_reducible refine perm5 ?_; walk_at "Dpm") | (with_reducible refine perm6 ?_; walk_at "Dpm") | (with_reducible refine perm7 ?_; walk_at "Dpm") | (with_reducible refine perm8 ?_; walk_at "Dpm") | (with_reducible refine perm9 ?_; walk_at "Dpm"))
theorem wls_len (ns : List Int) : ((ns.map PyData.int).map W.d).length = ns.length := by simp
theorem wls_snoc (ns : List Int) (v : Int) : (ns.map PyData.int).map W.d ++ [wi v] = ((ns ++ [v]).map PyData.int).map W.d := by simp
theorem atI_int {ns : List Int} {i : Int} (h0 : 0 ≤ i) (h1 : i < ns.length) : atI ((ns.map PyData.int).map W.d) i = some (wi (ns.getD i.toNat 0)) := by
  obtain ⟨j, rfl⟩ : ∃ j : Nat, i = (j : Int) := ⟨i.toNat, by omega⟩
  have hj : j < ns.length := by omega
  refine atI_nat ?_
  rw [List.getElem?_map, List.getElem?_map, List.getElem?_eq_getElem hj]
  simp [List.getD, List.getElem?_eq_getElem hj]
theorem atI_sc {ns : List Int} {i : Nat} (h1 : i < ns.length) : atI (ns.map fun n => W.d (.int n)) (i : Int) = some (wi (ns.getD i 0)) := by
  refine atI_nat ?_
  rw [List.getElem?_map, List.getElem?_eq_getElem h1]
  simp [List.getD, List.getElem?_eq_getElem h1]
def t_numbers : Tr := fun xs Δ k _ => Δ = [] ∧ ∃ (sc : List Int) (m : Nat), xs = [.sc sc, wi (m : Int)] ∧ sc.length ≤ 63 ∧ m ≤ 1000 ∧ ∀ ns : List Int, ns.length = m → (∀ n ∈ ns, 0 ≤ n ∧ n < 2147483647) → k (wl (ns.map .int)) []
def Rg (ns : List Int) : Prop := ∀ n ∈ ns, 0 ≤ n ∧ n < 2147483647
theorem Rg.snoc {ns : List Int} (h : Rg ns) {v : Int} (h0 : 0 ≤ v) (h1 : v < 2147483647) : Rg (ns ++ [v]) := fun n hn => by
  rcases List.mem_append.mp hn with hn | hn
  · exact h n hn
  · rw [List.mem_singleton.mp hn]; exact ⟨h0, h1⟩
theorem Rg.nil : Rg [] := fun _ h => by cases h
/-! ### pieces -/
theorem sum_ones (f : Nat → Nat) (n : Nat) : (((List.range n).map fun k => (⟨#[f k]⟩ : Str)).map (·.length)).sum = n := by
  rw [List.map_map, show ((fun x : Str => x.length) ∘ fun k => (⟨#[f k]⟩ : Str)) = fun _ => 1 from rfl, List.map_const', List.sum_replicate_nat, List.length_range, Nat.mul_one]
theorem flat_ones' (f : Nat → Nat) : ∀ l : List Nat, (l.map fun k => [f k]).flatten = l.map f
  | [] => rfl
  | a :: l => by
    show [f a] ++ (l.map fun k => [f k]).flatten = f a :: l.map f
    rw [flat_ones' f l]
    rfl
theorem join_ones' (e : Str) (he : tl e = []) (f : Nat → Nat) (n : Nat) : Txt.join e ((List.range n).map fun k => (⟨#[f k]⟩ : Str)) = mk ((List.range n).map f) := by
  refine str_ext ?_
  rw [join0 _ he, List.map_map, tlmk]
  exact flat_ones' f _
theorem take_snoc {l : List Nat} {i c : Nat} (h : l[i]? = some c) : l.take (i + 1) = l.take i ++ [c] := by
  rw [List.take_add_one, h]
  rfl
theorem cps_tl {z : Str} {i c : Nat} (h : z.cps[i]? = some c) : (tl z)[i]? = some c := by
  show z.cps.toList[i]? = some c
  rw [Array.getElem?_toList]
  exact h
theorem tl_take (z : Str) : (tl z).take z.length = tl z := List.take_of_length_le (by rw [tl_len]; exact Nat.le_refl _)

def coinH (seed tag : Int) (l : List Nat) : Int := l.foldl (fun (h : Int) (c : Nat) => (h * 16807 + (c : Int) + 1) % 2147483647) ((seed * 48271 + tag * 69621 + 1) % 2147483647)
theorem coinH_snoc (seed tag : Int) (l : List Nat) (c : Nat) : coinH seed tag (l ++ [c]) = (coinH seed tag l * 16807 + (c : Int) + 1) % 2147483647 := by
  unfold coinH
  rw [List.foldl_append]
  rfl
def coinF (seed tag : Int) (l : List Nat) : Int := (coinH seed tag l * 48271 + (l.length : Int)) % 2147483647
def t_coin : Tr := fun xs Δ k _ => Δ = [] ∧ ∃ (seed tag : Int) (z : Str), xs = [wi seed, wi tag, ws z] ∧ z.length ≤ 16000000 ∧ k (wi (coinF seed tag (tl z))) []
theorem call_coin {seed tag : Int} {z : Str} {ex : Value → Del → Prop} (h : z.length ≤ 16000000) : t_coin [wi seed, wi tag, ws z] [] (fun w Δ => w = wi (coinF seed tag (tl z)) ∧ Δ = []) ex := ⟨rfl, seed, tag, z, rfl, h, rfl, rfl⟩
/-! layouts -/
abbrev It3 := Int × Int × Str
abbrev itD (q : It3) : PyData := .tuple [.int q.1, .int q.2.1, .str q.2.2]
abbrev itL (its : List It3) : PyData := .list (its.map itD)
def itG (its : List It3) (i : Nat) : It3 := its.getD i (0, 0, ⟨#[]⟩)
def kyI (its : List It3) (i : Nat) : (Int × Str) × Int := ((-(itG its i).2.1, (itG its i).2.2), (i : Int))
def LtI (its : List It3) (i j : Nat) : Prop := tsiLt (kyI its i) (kyI its j)
theorem str_tri (a b : Str) : tl a < tl b ∨ tl a = tl b ∨ tl b < tl a := by
  rcases Classical.em (tl a < tl b) with h | h
  · exact .inl h
  · rcases Classical.em (tl b < tl a) with h2 | h2
    · exact .inr (.inr h2)
    · exact .inr (.inl (List.le_antisymm (List.not_lt.mp h2) (List.not_lt.mp h)))
theorem ltI_tri (its : List It3) {i j : Nat} (h : i ≠ j) : LtI its i j ∨ LtI its j i := by
  unfold LtI tsiLt kyI
  simp only
  have h' : (i : Int) ≠ (j : Int) := by omega
  rcases str_tri (itG its i).2.2 (itG its j).2.2 with h1 | h1 | h1
  · by_cases e : -(itG its i).2.1 = -(itG its j).2.1
    · exact .inl (.inr ⟨e, .inl h1⟩)
    · rcases Int.lt_or_gt_of_ne e with q | q
      · exact .inl (.inl q)
      · exact .inr (.inl q)
  · by_cases e : -(itG its i).2.1 = -(itG its j).2.1
    · rcases Int.lt_or_gt_of_ne h' with q | q
      · exact .inl (.inr ⟨e, .inr ⟨h1, q⟩⟩)
      · exact .inr (.inr ⟨e.symm, .inr ⟨h1.symm, q⟩⟩)
    · rcases Int.lt_or_gt_of_ne e with q | q
      · exact .inl (.inl q)
      · exact .inr (.inl q)
  · by_cases e : -(itG its i).2.1 = -(itG its j).2.1
    · exact .inr (.inr ⟨e.symm, .inl h1⟩)
    · rcases Int.lt_or_gt_of_ne e with q | q
      · exact .inl (.inl q)
      · exact .inr (.inl q)
theorem tsiLt_asymm {p q : (Int × Str) × Int} (h1 : tsiLt p q) (h2 : tsiLt q p) : False := by
  unfold tsiLt at h1 h2
  have as : ∀ a b : List Nat, a < b → b < a → False := fun a b x y => List.lt_irrefl a (List.lt_trans x y)
  rcases h1 with h1 | ⟨e1, h1 | ⟨e2, h1⟩⟩
  · rcases h2 with h2 | ⟨e3, _⟩ <;> omega
  · rcases h2 with h2 | ⟨e3, h2 | ⟨e4, _⟩⟩
    · omega
    · exact as _ _ h1 h2
    · rw [e4] at h1; exact List.lt_irrefl _ h1
  · rcases h2 with h2 | ⟨e3, h2 | ⟨e4, h2⟩⟩
    · omega
    · rw [e2] at h2; exact List.lt_irrefl _ h2
    · omega
theorem tsiLt_trans {p q r : (Int × Str) × Int} (h1 : tsiLt p q) (h2 : tsiLt q r) : tsiLt p r := by
  unfold tsiLt at h1 h2 ⊢
  rcases h1 with h1 | ⟨e1, h1 | ⟨e2, h1⟩⟩
  · rcases h2 with h2 | ⟨e3, _⟩ <;> exact .inl (by omega)
  · rcases h2 with h2 | ⟨e3, h2 | ⟨e4, _⟩⟩
    · exact .inl (by omega)
    · exact .inr ⟨by omega, .inl (List.lt_trans h1 h2)⟩
    · exact .inr ⟨by omega, .inl (e4 ▸ h1)⟩
  · rcases h2 with h2 | ⟨e3, h2 | ⟨e4, h2⟩⟩
    · exact .inl (by omega)
    · exact .inr ⟨by omega, .inl (e2 ▸ h2)⟩
    · exact .inr ⟨by omega, .inr ⟨e2.trans e4, by omega⟩⟩
/-- an order of the indexes in which none comes behind a greater one -/
def IsOrd (its : List It3) (m : List Nat) : Prop := m.Perm (List.range its.length) ∧ m.Pairwise fun i j => ¬ LtI its j i
/-! probing -/
def fr (cs : List Int) : Nat → Nat → Nat
  | 0, a => a
  | f + 1, a => if cs.getD a 0 = -1 then a else fr cs f ((a + 1) % cs.length)
def hmN (cs : List Int) (h : Int) : Nat := (h % (cs.length : Int)).toNat
def plc (its : List It3) (cs : List Int) (i : Nat) : List Int := cs.set (fr cs cs.length (hmN cs (itG its i).1)) (i : Int)
def placeL (n : Nat) (its : List It3) (m : List Nat) : List Int := m.foldl (plc its) (List.replicate n (-1))
theorem fr_lt {cs : List Int} (h0 : 0 < cs.length) : ∀ f a, a < cs.length → fr cs f a < cs.length
  | 0, a, h => h
  | f + 1, a, h => by
    unfold fr
    split
    · exact h
    · exact fr_lt h0 f _ (Nat.mod_lt _ h0)
theorem hm_lt {cs : List Int} (h0 : 0 < cs.length) (h : Int) : hmN cs h < cs.length := by
  unfold hmN
  have h1 : 0 ≤ h % (cs.length : Int) := Int.emod_nonneg _ (by omega)
  have h2 : h % (cs.length : Int) < cs.length := Int.emod_lt_of_pos _ (by omega)
  omega
/-- some place is free within j steps from a -/
def FreeAt (cs : List Int) (a j : Nat) : Prop := cs.getD ((a + j) % cs.length) 0 = -1
theorem plc_len (its : List It3) (cs : List Int) (i : Nat) : (plc its cs i).length = cs.length := List.length_set ..
/-- how many are taken -/
def taken (cs : List Int) : Nat := (cs.filter fun v => decide (v ≠ -1)).length
theorem taken_set (cs : List Int) (a : Nat) (v : Int) : taken (cs.set a v) ≤ taken cs + 1 := by
  unfold taken
  induction cs generalizing a with
  | nil => simp
  | cons c cs ih =>
    cases a with
    | zero =>
      simp only [List.set_cons_zero, List.filter_cons]
      split <;> split <;> (try simp only [List.length_cons]) <;> omega
    | succ a =>
      have := ih a
      simp only [List.set_cons_succ, List.filter_cons]
      split <;> (try simp only [List.length_cons]) <;> omega
theorem taken_rep (n : Nat) : taken (List.replicate n (-1)) = 0 := by
  unfold taken
  rw [List.filter_replicate]
  simp
theorem free_ex {cs : List Int} (h : taken cs < cs.length) : ∃ i, i < cs.length ∧ cs.getD i 0 = -1 := by
  unfold taken at h
  apply Classical.byContradiction
  intro hc
  have : cs.filter (fun v => decide (v ≠ -1)) = cs := by
    refine List.filter_eq_self.mpr fun v hv => decide_eq_true ?_
    intro e
    obtain ⟨i, hi, he⟩ := List.getElem_of_mem hv
    refine hc ⟨i, hi, ?_⟩
    rw [List.getD_eq_getElem?_getD, List.getElem?_eq_getElem hi]
    simp [he, e]
  rw [this] at h
  omega
theorem free_from {cs : List Int} (h : taken cs < cs.length) {a : Nat} (ha : a < cs.length) : ∃ j, j < cs.length ∧ FreeAt cs a j := by
  obtain ⟨i, hi, he⟩ := free_ex h
  unfold FreeAt
  by_cases q : a ≤ i
  · refine ⟨i - a, by omega, ?_⟩
    rw [show a + (i - a) = i by omega, Nat.mod_eq_of_lt hi]
    exact he
  · refine ⟨i + cs.length - a, by omega, ?_⟩
    rw [show a + (i + cs.length - a) = i + cs.length by omega, Nat.add_mod_right, Nat.mod_eq_of_lt hi]
    exact he
/-- beyond the free place more fuel changes nothing -/
theorem fr_more {cs : List Int} (h0 : 0 < cs.length) : ∀ (j f : Nat) (a : Nat), a < cs.length → FreeAt cs a j → j ≤ f → fr cs f a = fr cs j a
  | 0, f, a, ha, hf, _ => by
    unfold FreeAt at hf
    rw [Nat.add_zero, Nat.mod_eq_of_lt ha] at hf
    cases f with
    | zero => rfl
    | succ f => unfold fr; rw [if_pos hf]
  | j + 1, f, a, ha, hf, hj => by
    obtain ⟨f, rfl⟩ : ∃ g, f = g + 1 := ⟨f - 1, by omega⟩
    unfold fr
    split
    · rfl
    · refine fr_more h0 j f _ (Nat.mod_lt _ h0) ?_ (by omega)
      unfold FreeAt at hf ⊢
      rw [Nat.mod_add_mod, show a + 1 + j = a + (j + 1) by omega]
      exact hf
theorem fr_free {cs : List Int} (h0 : 0 < cs.length) : ∀ (j : Nat) (a : Nat), a < cs.length → FreeAt cs a j → cs.getD (fr cs j a) 0 = -1
  | 0, a, ha, hf => by
    unfold FreeAt at hf
    rw [Nat.add_zero, Nat.mod_eq_of_lt ha] at hf
    exact hf
  | j + 1, a, ha, hf => by
    unfold fr
    split
    · assumption
    · refine fr_free h0 j _ (Nat.mod_lt _ h0) ?_
      unfold FreeAt at hf ⊢
      rw [Nat.mod_add_mod, show a + 1 + j = a + (j + 1) by omega]
      exact hf
abbrev iL (cs : List Int) : List W := (cs.map PyData.int).map W.d
theorem iL_len (cs : List Int) : (iL cs).length = cs.length := by simp
theorem atI_iL {cs : List Int} {i : Nat} (h : i < cs.length) : atI (iL cs) (i : Int) = some (wi (cs.getD i 0)) := by
  refine atI_nat ?_
  rw [List.getElem?_map, List.getElem?_map, List.getElem?_eq_getElem h]
  simp [List.getD, List.getElem?_eq_getElem h]
theorem ixN_n {n i : Nat} (h : i < n) : ixN n (i : Int) = some i := by
  unfold ixN
  rw [if_pos (by omega), if_pos (by omega), Int.toNat_natCast]
theorem iL_set (cs : List Int) (i : Nat) (v : Int) : (iL cs).set i (wi v) = iL (cs.set i v) := by
  unfold iL
  rw [List.map_set, List.map_set]
theorem atI_it {its : List It3} {i : Nat} (h : i < its.length) : atI ((its.map itD).map W.d) (i : Int) = some (.d (itD (itG its i))) := by
  refine atI_nat ?_
  rw [List.getElem?_map, List.getElem?_map, List.getElem?_eq_getElem h]
  simp [itG, List.getD, List.getElem?_eq_getElem h]
theorem it_0 (q : It3) : atI [PyData.int q.1, .int q.2.1, .str q.2.2] 0 = some (.int q.1) := rfl
theorem it_1 (q : It3) : atI [PyData.int q.1, .int q.2.1, .str q.2.2] 1 = some (.int q.2.1) := rfl
theorem it_2 (q : It3) : atI [PyData.int q.1, .int q.2.1, .str q.2.2] 2 = some (.str q.2.2) := rfl
def t_turn : Tr := fun xs Δ k _ => Δ = [] ∧ ∃ q : It3, xs = [.d (itD q)] ∧ k (.d (.tuple [.int (-q.2.1), .str q.2.2])) []
def t_free : Tr := fun xs Δ k _ => Δ = [] ∧ ∃ (cs : List Int) (h : Int), xs = [wl (cs.map .int), wi h] ∧ 0 < cs.length ∧ cs.length ≤ 4096 ∧ taken cs < cs.length ∧ k (wi ((fr cs cs.length (hmN cs h) : Nat) : Int)) []
def t_layout (CN CF : Addr) : Tr := fun xs Δ k ex => Δ = [] ∧ ∃ (n : Int) (its : List It3), xs = [wi n, wl (its.map itD)] ∧ its.length ≤ 1000000 ∧ ((n < 1 ∨ 4096 < n) → ex (.ref CN) []) ∧ (1 ≤ n → n ≤ 4096 → n < its.length → ex (.ref CF) []) ∧
  (1 ≤ n → n ≤ 4096 → (its.length : Int) ≤ n → ∀ m, IsOrd its m → k (wl ((placeL n.toNat its m).map .int)) [])
theorem call_turn {q : It3} {ex : Value → Del → Prop} : t_turn [.d (itD q)] [] (fun w Δ => w = .d (.tuple [.int (-q.2.1), .str q.2.2]) ∧ Δ = []) ex := ⟨rfl, q, rfl, rfl, rfl⟩
theorem foldl_plc_len (its : List It3) : ∀ (m : List Nat) (cs : List Int), (m.foldl (plc its) cs).length = cs.length
  | [], _ => rfl
  | i :: m, cs => by rw [List.foldl_cons, foldl_plc_len its m, plc_len]
theorem foldl_plc_taken (its : List It3) : ∀ (m : List Nat) (cs : List Int), taken (m.foldl (plc its) cs) ≤ taken cs + m.length
  | [], _ => Nat.le_refl _
  | i :: m, cs => by
    rw [List.foldl_cons]
    have h1 := foldl_plc_taken its m (plc its cs i)
    have h2 : taken (plc its cs i) ≤ taken cs + 1 := taken_set cs _ _
    simp only [List.length_cons]
    omega
/-- part of the way -/
def part (n : Nat) (its : List It3) (m : List Nat) (t : Nat) : List Int := (m.take t).foldl (plc its) (List.replicate n (-1))
theorem part_len (n : Nat) (its : List It3) (m : List Nat) (t : Nat) : (part n its m t).length = n := by unfold part; rw [foldl_plc_len, List.length_replicate]
theorem part_taken (n : Nat) (its : List It3) (m : List Nat) (t : Nat) (h : t ≤ m.length) : taken (part n its m t) ≤ t := by
  have := foldl_plc_taken its (m.take t) (List.replicate n (-1))
  rw [taken_rep, List.length_take] at this
  unfold part
  omega
theorem part_snoc (n : Nat) (its : List It3) (m : List Nat) (t : Nat) {i : Nat} (h : m[t]? = some i) : part n its m (t + 1) = plc its (part n its m t) i := by
  unfold part
  rw [List.take_add_one, h, List.foldl_append]
  rfl
theorem part_all (n : Nat) (its : List It3) (m : List Nat) : part n its m m.length = placeL n its m := by unfold part placeL; rw [List.take_length]
local macro_rules | `(tactic| walk_at "Dcall") => `(tactic| with_reducible exact call_turn)
/-! names -/
def NS : Str := "abcdefghijklmnopqrstuvwxyz0123456789-"
def okN (z : Str) : Bool := decide (1 ≤ z.length) && decide (z.length ≤ 12) && (tl z).all fun c => decide (c ∈ tl NS)

abbrev nm (n : Nat) : Str := mk (numL n)
def padL (w n : Nat) : List Nat := List.replicate (w - (numL n).length) 48 ++ numL n
abbrev padS (w n : Nat) : Str := mk (padL w n)
theorem pad_ok : ∀ w ∈ List.range 100, PadOk ((w : Nat) : Int) = true := by decide +kernel
theorem zfill_num (w n : Nat) : Txt.zfill (nm n) (w : Int) = padS w n := by
  unfold Txt.zfill
  have hl : (nm n).length = (numL n).length := mk_len _
  by_cases h : (w : Int) ≤ ((nm n).length : Int)
  · rw [if_pos h]
    unfold padS padL
    rw [show w - (numL n).length = 0 by omega]
    rfl
  rw [if_neg h]
  obtain ⟨c, r, e⟩ : ∃ c r, numL n = c :: r := by
    cases q : numL n with
    | nil => exact absurd q (numL_ne n)
    | cons c r => exact ⟨c, r, rfl⟩
  have hc := numL_digits n c (by rw [e]; exact List.mem_cons_self ..)
  have e0 : (nm n).cps[0]? = some c := by
    show (numL n).toArray[0]? = some c
    rw [e]
    rfl
  have e1 : zfilled (nm n) ((w : Int).toNat - (nm n).length) = PySem.Builtin.Str.padded (nm n) ((w : Int).toNat - (nm n).length) 0 48 := by
    unfold zfilled
    rw [e0]
    split
    · rename_i h1; cases h1; omega
    · rename_i h1; cases h1; omega
    · rfl
  rw [e1]
  refine str_ext ?_
  rw [tlmk]
  unfold PySem.Builtin.Str.padded padL
  rw [hl, Int.toNat_natCast]
  show (Array.replicate _ 48 ++ (numL n).toArray ++ Array.replicate 0 48).toList = _
  simp
theorem pad_len {w n : Nat} (hw : 0 < w) (h : n < 10 ^ w) : (padL w n).length = w := by
  unfold padL
  have := numL_len hw h
  rw [List.length_append, List.length_replicate]
  omega
def t_digits : Tr := fun xs Δ k _ => Δ = [] ∧ ∃ n w : Nat, xs = [wi (n : Int), wi (w : Int)] ∧ 1 ≤ w ∧ w ≤ 9 ∧ n < 10 ^ w ∧ k (ws (padS w n)) []
theorem call_digits {n w : Nat} {ex : Value → Del → Prop} (h1 : 1 ≤ w) (h2 : w ≤ 9) (h3 : n < 10 ^ w) : t_digits [wi (n : Int), wi (w : Int)] [] (fun x Δ => x = ws (padS w n) ∧ Δ = []) ex := ⟨rfl, n, w, rfl, h1, h2, h3, rfl, rfl⟩
def t_lpad : Tr := fun xs Δ k _ => Δ = [] ∧ ∃ n w : Nat, xs = [wi (n : Int), wi (w : Int)] ∧ w ≤ 9 ∧ n < 10 ^ 9 ∧ k (ws (padS w n)) []
theorem call_lpad {n w : Nat} {ex : Value → Del → Prop} (h2 : w ≤ 9) (h3 : n < 10 ^ 9) : t_lpad [wi (n : Int), wi (w : Int)] [] (fun x Δ => x = ws (padS w n) ∧ Δ = []) ex := ⟨rfl, n, w, rfl, h2, h3, rfl, rfl⟩
theorem log9 {n : Nat} (h : n < 10 ^ 9) : ((n : Nat) : Int).natAbs.log2 < 1920 := by
  rw [Int.natAbs_natCast]
  have h1 : n < 2 ^ 30 := by omega
  by_cases h0 : n = 0
  · subst h0; decide
  · have := (Nat.log2_lt h0).mpr h1
    omega
theorem pow9 {n w : Nat} (h2 : w ≤ 9) (h : n < 10 ^ w) : n < 10 ^ 9 := Nat.lt_of_lt_of_le h (Nat.pow_le_pow_right (by decide) h2)
def okF (z d : Str) : Bool := okN z && decide (d.length ≤ 4000)
def t_check (C : Addr) : Tr := fun xs Δ k ex => Δ = [] ∧ ∃ z d : Str, xs = [ws z, ws d] ∧ z.length ≤ 1000000 ∧ d.length ≤ 1000000 ∧ (okF z d = true → k wn []) ∧ (okF z d = false → ex (.ref C) [])
theorem zero_str : Str.ofString "0" = (⟨#[48]⟩ : Str) := by decide +kernel
def spaces (n : Nat) : List Nat := List.replicate n 32
def headL (z : Str) (k : Nat) (p : Str) : List Nat := padL 2 z.length ++ tl z ++ padL 3 k ++ padL 2 p.length ++ tl p
def blockL (z : Str) (k : Nat) (p : Str) : List Nat := headL z k p ++ spaces (64 - (headL z k p).length)
def keyL (z : Str) (k : Nat) : List Nat := tl z ++ 47 :: padL 3 k
def rowD (z : Str) (k : Nat) (p : Str) : PyData := .tuple [.str (mk (keyL z k)), .str (mk (blockL z k p))]
def pieceAt (d : Str) (k : Nat) : Str := mk (((tl d).drop (40 * k)).take 40)
def cnt (d : Str) : Nat := if d.length = 0 then 1 else (d.length + 39) / 40
def rowsD (z d : Str) : List PyData := (List.range (cnt d)).map fun k => rowD z k (pieceAt d k)
theorem piece_le (d : Str) (k : Nat) : (pieceAt d k).length ≤ 40 := by
  unfold pieceAt
  rw [mk_len, List.length_take]
  omega
theorem pad_le (w n : Nat) (h : n < 10 ^ 9) (hw : w ≤ 9) : (padL w n).length ≤ 9 := by
  unfold padL
  have := numL_len (n := n) (k := 9) (by decide) h
  rw [List.length_append, List.length_replicate]
  omega
theorem cnt_le {d : Str} (h : d.length ≤ 4000) : cnt d ≤ 100 := by
  unfold cnt
  split <;> omega
theorem head_len {z p : Str} {k : Nat} (hz : z.length ≤ 12) (hk : k < 1000) (hp : p.length ≤ 40) : (headL z k p).length = 7 + z.length + p.length := by
  unfold headL
  rw [List.length_append, List.length_append, List.length_append, List.length_append, pad_len (w := 2) (by decide) (by omega), pad_len (w := 3) (by decide) (by omega), pad_len (w := 2) (by decide) (by omega), tl_len, tl_len]
  omega
def t_pblock : Tr := fun xs Δ k _ => Δ = [] ∧ ∃ (z p : Str) (n : Nat), xs = [ws z, wi (n : Int), ws p] ∧ z.length ≤ 12 ∧ n < 1000 ∧ p.length ≤ 40 ∧ k (.d (rowD z n p)) []
theorem call_pblock {z p : Str} {n : Nat} {ex : Value → Del → Prop} (h1 : z.length ≤ 12) (h2 : n < 1000) (h3 : p.length ≤ 40) : t_pblock [ws z, wi (n : Int), ws p] [] (fun x Δ => x = .d (rowD z n p) ∧ Δ = []) ex := ⟨rfl, z, p, n, rfl, h1, h2, h3, rfl, rfl⟩
def t_pieces (C : Addr) : Tr := fun xs Δ k ex => Δ = [] ∧ ∃ z d : Str, xs = [ws z, ws d] ∧ z.length ≤ 1000000 ∧ d.length ≤ 1000000 ∧ (okF z d = true → k (wl (rowsD z d)) []) ∧ (okF z d = false → ex (.ref C) [])
theorem okF_parts {z d : Str} (h : okF z d = true) : 1 ≤ z.length ∧ z.length ≤ 12 ∧ d.length ≤ 4000 := by
  unfold okF okN at h
  rw [Bool.and_eq_true, Bool.and_eq_true, Bool.and_eq_true] at h
  exact ⟨of_decide_eq_true h.1.1.1, of_decide_eq_true h.1.1.2, of_decide_eq_true h.2⟩
theorem ljust_block {z p : Str} {k : Nat} (h : (headL z k p).length ≤ 64) : Txt.ljust (mk (headL z k p)) 64 = mk (blockL z k p) := by
  have e : (mk (headL z k p)).length = (headL z k p).length := mk_len _
  refine str_ext ?_
  rw [tlmk]
  unfold Txt.ljust blockL spaces
  rw [e]
  by_cases h1 : (64 : Int) ≤ ((headL z k p).length : Int)
  · rw [if_pos h1, tlmk, show 64 - (headL z k p).length = 0 by omega]
    simp
  · rw [if_neg h1]
    unfold PySem.Builtin.Str.padded
    show (Array.replicate 0 32 ++ (headL z k p).toArray ++ Array.replicate _ 32).toList = _
    simp
/-! files, and the blocks at rest -/
abbrev Fl := Str × Str
def kvF (p : Fl) : Key × W := (.inr p.1, ws p.2)
def lookF (cs : List Fl) (k : Str) : Str := ((cs.find? fun q => decide (q.1 = k)).map (·.2)).getD Str.empty
theorem findF {cs : List Fl} (h : (cs.map (·.1)).Nodup) {p : Fl} (hp : p ∈ cs) : cs.find? (fun q => decide (q.1 = p.1)) = some p := by
  induction cs with
  | nil => cases hp
  | cons q cs ih =>
    rw [List.map_cons, List.nodup_cons] at h
    rcases List.mem_cons.mp hp with rfl | m
    · rw [List.find?_cons_of_pos (by simp)]
    · have : ¬ q.1 = p.1 := fun e => h.1 (by rw [e]; exact List.mem_map_of_mem m)
      rw [List.find?_cons_of_neg (by simpa using this), ih h.2 m]
theorem valF {cs : List Fl} (h : (cs.map (·.1)).Nodup) {p : Fl} (hp : p ∈ cs) : valW (cs.map kvF) (.inr p.1) = some (ws p.2) := by
  unfold valW
  rw [List.find?_map]
  have e : ((fun kv : Key × W => decide (kv.1 = Sum.inr p.1)) ∘ kvF) = fun q : Fl => decide (q.1 = p.1) := by
    funext q
    show decide ((Sum.inr q.1 : Key) = Sum.inr p.1) = _
    simp
  rw [e, findF h hp]; rfl
theorem look_F {cs : List Fl} (h : (cs.map (·.1)).Nodup) {p : Fl} (hp : p ∈ cs) : lookF cs p.1 = p.2 := by unfold lookF; rw [findF h hp]; rfl
abbrev namesF (cs : List Fl) : List Str := sortK (cs.map (·.1))
theorem namesF_mem {cs : List Fl} {k : Str} : k ∈ namesF cs ↔ k ∈ cs.map (·.1) := (sortK_perm _).mem_iff
theorem namesF_len (cs : List Fl) : (namesF cs).length = cs.length := by rw [(sortK_perm _).length_eq, List.length_map]
theorem namesF_look {cs : List Fl} (h : (cs.map (·.1)).Nodup) {k : Str} (hk : k ∈ namesF cs) : (k, lookF cs k) ∈ cs ∧ valW (cs.map kvF) (.inr k) = some (ws (lookF cs k)) := by
  obtain ⟨p, hp, rfl⟩ := List.mem_map.mp (namesF_mem.mp hk)
  rw [look_F h hp]
  exact ⟨hp, valF h hp⟩
def rowP (z : Str) (k : Nat) (p : Str) : Str × Str := (mk (keyL z k), mk (blockL z k p))
def rowsP (z d : Str) : List (Str × Str) := (List.range (cnt d)).map fun k => rowP z k (pieceAt d k)
theorem rowsP_D (z d : Str) : rowsD z d = (rowsP z d).map ptD := by
  unfold rowsD rowsP
  rw [List.map_map]; rfl
def pcs (cs : List Fl) (ks : List Str) : List (Str × Str) := ks.flatMap fun k => rowsP k (lookF cs k)
theorem pcs_snoc (cs : List Fl) (ks : List Str) (k : Str) : pcs cs (ks ++ [k]) = pcs cs ks ++ rowsP k (lookF cs k) := by unfold pcs; rw [List.flatMap_append]; simp
abbrev piecesF (cs : List Fl) : List (Str × Str) := pcs cs (namesF cs)
def itF (seed : Int) (q : Str × Str) : It3 := (coinF seed 1 (tl q.1), coinF seed 2 (tl q.1), q.1)
abbrev itsF (seed : Int) (cs : List Fl) : List It3 := (piecesF cs).map (itF seed)
def BLK : Str := "                                                                "
theorem BLK_len : BLK.length = 64 := by decide +kernel
def cellB (ps : List (Str × Str)) (v : Int) : Str := if v < 0 then BLK else (ps.getD v.toNat (Str.empty, Str.empty)).2
def restOf (seed : Int) (n : Nat) (cs : List Fl) (m : List Nat) : List Str := [BLK] ++ (placeL n (itsF seed cs) m).map (cellB (piecesF cs)) ++ List.replicate n BLK
theorem place_mem {its : List It3} : ∀ {m : List Nat} {cs : List Int} {v : Int}, v ∈ m.foldl (plc its) cs → v ∈ cs ∨ ∃ i ∈ m, v = (i : Int)
  | [], _, _, h => .inl h
  | i :: m, cs, v, h => by
    rw [List.foldl_cons] at h
    rcases place_mem h with h | ⟨j, hj, e⟩
    · rcases List.mem_or_eq_of_mem_set h with h | h
      · exact .inl h
      · exact .inr ⟨i, List.mem_cons_self, h⟩
    · exact .inr ⟨j, List.mem_cons_of_mem _ hj, e⟩
theorem placeL_rng {n : Nat} {its : List It3} {m : List Nat} (h : IsOrd its m) {v : Int} (hv : v ∈ placeL n its m) : v = -1 ∨ (0 ≤ v ∧ v < its.length) := by
  rcases place_mem hv with h1 | ⟨i, hi, rfl⟩
  · exact .inl (List.mem_replicate.mp h1).2
  · have := List.mem_range.mp (h.1.mem_iff.mp hi)
    exact .inr ⟨by omega, by omega⟩
theorem placeL_len (n : Nat) (its : List It3) (m : List Nat) : (placeL n its m).length = n := by unfold placeL; rw [foldl_plc_len, List.length_replicate]
theorem block_len {z : Str} {k : Nat} {p : Str} (hz : z.length ≤ 12) (hk : k < 1000) (hp : p.length ≤ 40) : (mk (blockL z k p)).length = 64 := by
  rw [mk_len]
  unfold blockL spaces
  have := head_len hz hk hp
  rw [List.length_append, List.length_replicate]
  omega
structure FOk (cs : List Fl) : Prop where
  nd : (cs.map (·.1)).Nodup
  ok : ∀ p ∈ cs, okF p.1 p.2 = true
theorem rowsP_len (z d : Str) : (rowsP z d).length = cnt d := by simp [rowsP]
theorem pcs_64 {cs : List Fl} (h : FOk cs) : ∀ q ∈ piecesF cs, q.2.length = 64 ∧ q.1.length ≤ 30 := fun q hq => by
  obtain ⟨k, hk, hq⟩ := List.mem_flatMap.mp hq
  obtain ⟨j, hj, rfl⟩ := List.mem_map.mp hq
  have hp := okF_parts (h.ok _ (namesF_look h.nd hk).1)
  have hc : cnt (lookF cs k) ≤ 100 := cnt_le hp.2.2
  have hj := List.mem_range.mp hj
  refine ⟨block_len hp.2.1 (by omega) (piece_le _ _), ?_⟩
  show (mk (keyL k j)).length ≤ 30
  rw [mk_len]
  unfold keyL
  rw [List.length_append, List.length_cons, tl_len, pad_len (w := 3) (by decide) (by omega)]
  have : k.length ≤ 12 := hp.2.1
  omega
theorem cellB_64 {cs : List Fl} (h : FOk cs) {v : Int} (hv : v = -1 ∨ (0 ≤ v ∧ v < (piecesF cs).length)) : (cellB (piecesF cs) v).length = 64 := by
  unfold cellB
  rcases hv with rfl | ⟨h0, h1⟩
  · exact BLK_len
  · rw [if_neg (by omega), List.getD_eq_getElem?_getD, List.getElem?_eq_getElem (show v.toNat < (piecesF cs).length by omega)]
    exact (pcs_64 h _ (List.getElem_mem _)).1
theorem rest_len (seed : Int) (n : Nat) (cs : List Fl) (m : List Nat) : (restOf seed n cs m).length = 1 + 2 * n := by
  unfold restOf
  rw [List.length_append, List.length_append, List.length_map, placeL_len, List.length_replicate, List.length_singleton]
  omega
theorem rest_64 {seed : Int} {n : Nat} {cs : List Fl} {m : List Nat} (h : FOk cs) (hm : IsOrd (itsF seed cs) m) : ∀ z ∈ restOf seed n cs m, z.length = 64 := fun z hz => by
  unfold restOf at hz
  rcases List.mem_append.mp hz with hz | hz
  · rcases List.mem_append.mp hz with hz | hz
    · rw [List.mem_singleton.mp hz]; exact BLK_len
    · obtain ⟨v, hv, rfl⟩ := List.mem_map.mp hz
      refine cellB_64 h ?_
      have := placeL_rng hm hv
      rwa [List.length_map] at this
  · rw [(List.mem_replicate.mp hz).2]; exact BLK_len
abbrev txs (l : List Str) : List W := (l.map PyData.str).map W.d
theorem txs_len (l : List Str) : (txs l).length = l.length := by simp [txs]
def t_ccells (C : Addr) : Tr := fun xs Δ k ex => Δ = [] ∧ ∃ n : Int, xs = [wi n] ∧ ((n < 1 ∨ 400 < n) → ex (.ref C) []) ∧ (1 ≤ n → n ≤ 400 → k wn [])
def t_citem : Tr := fun xs Δ k _ => Δ = [] ∧ ∃ (seed : Int) (z : Str), xs = [wi seed, ws z] ∧ z.length ≤ 16000000 ∧ k (.d (itD (coinF seed 1 (tl z), coinF seed 2 (tl z), z))) []
def t_rest (CN CF : Addr) : Tr := fun xs Δ k ex => ∃ (d : Addr) (cs : List Fl) (seed n : Int), xs = [wi seed, wi n, .o d] ∧ Δ = [(d, .dic (cs.map kvF))] ∧ (cs.map (·.1)).Nodup ∧ cs.length ≤ 10000 ∧ (∀ p ∈ cs, p.1.length ≤ 1000000 ∧ p.2.length ≤ 1000000) ∧
  ((n < 1 ∨ 400 < n) → ex (.ref CN) Δ) ∧ (1 ≤ n → n ≤ 400 → (∃ p ∈ cs, okF p.1 p.2 = false) → ex (.ref CN) Δ) ∧
  (1 ≤ n → n ≤ 400 → FOk cs → (piecesF cs).length ≤ 1000000 ∧ (n < (piecesF cs).length → ex (.ref CF) Δ) ∧ ((piecesF cs).length ≤ n → ∀ m, IsOrd (itsF seed cs) m → ∀ c, k (.o c) ((c, .lst (txs (restOf seed n.toNat cs m))) :: Δ)))
/-! what the laws of disks draw -/
def SA : Str := " !\"#$&'()*+,-./0123456789:;<=>?@ABCDEFGHIJKLMNOPQRSTUVWXYZ[\\]^_`"
def SB : Str := "abcdefghijklmnopqrstuvwxyz{|}~"
def t_signs : Tr := fun xs Δ k _ => Δ = [] ∧ xs = [] ∧ k (ws (SA ++ SB)) []
theorem call_signs {ex : Value → Del → Prop} : t_signs [] [] (fun w Δ => w = ws (SA ++ SB) ∧ Δ = []) ex := ⟨rfl, rfl, rfl, rfl⟩
local macro_rules | `(tactic| walk_at "Dcall") => `(tactic| with_reducible exact call_signs)
theorem SAB_len : (SA ++ SB).length = 94 := by decide +kernel
def signs94 (i : Int) : Nat := (tl (SA ++ SB)).getD i.toNat 0
theorem atI_signs (S : Str) {i : Int} (h0 : 0 ≤ i) (h1 : i < (S.length : Int)) : atI S.cps.toList i = some ((tl S).getD i.toNat 0) := by
  obtain ⟨j, rfl⟩ : ∃ j : Nat, i = (j : Int) := ⟨i.toNat, by omega⟩
  have hj : j < (tl S).length := by rw [tl_len]; omega
  refine atI_nat ?_
  rw [Int.toNat_natCast, List.getD_eq_getElem?_getD, List.getElem?_eq_getElem hj]
  rfl
def textN (n : Int) (size : Nat) : Str := mk ((List.range size).map fun (k : Nat) => signs94 ((n + (k : Int) * (1 + n % 89) + (k : Int) * (k : Int)) % 94))
theorem textN_len (n : Int) (size : Nat) : (textN n size).length = size := by unfold textN; rw [mk_len]; simp
def t_text : Tr := fun xs Δ k _ => Δ = [] ∧ ∃ (n size : Int), xs = [wi n, wi size] ∧ 0 ≤ size ∧ size ≤ 5000 ∧ k (ws (textN n size.toNat)) []
theorem call_text {n size : Int} {ex : Value → Del → Prop} (h0 : 0 ≤ size) (h1 : size ≤ 5000) : t_text [wi n, wi size] [] (fun w Δ => w = ws (textN n size.toNat) ∧ Δ = []) ex := ⟨rfl, n, size, rfl, h0, h1, rfl, rfl⟩
def t_texts : Tr := fun xs Δ k _ => Δ = [] ∧ ∃ l : List Str, xs = [wl (l.map .str), wl (l.map .str)] ∧ l.length ≤ 1000 ∧ k (wb true) []
def t_isint : Tr := fun xs Δ k _ => Δ = [] ∧ ∃ n : Int, xs = [wi n] ∧ k (wb true) []
theorem atI_txs {l : List Str} {i : Int} (h0 : 0 ≤ i) (h1 : i < l.length) : atI (txs l) i = some (ws (l.getD i.toNat ⟨#[]⟩)) := by
  obtain ⟨j, rfl⟩ : ∃ j : Nat, i = (j : Int) := ⟨i.toNat, by omega⟩
  have hj : j < l.length := by omega
  refine atI_nat ?_
  unfold txs
  rw [List.getElem?_map, List.getElem?_map, List.getElem?_eq_getElem hj]
  simp [List.getD, List.getElem?_eq_getElem hj]
def NML : List Str := ["map", "a", "map-2", "b", "words", "w0", "a-long-name1", "-", "map0", "snaps"]
theorem NML_ok : ∀ z ∈ NML, okN z = true := by decide +kernel
def nmS (n : Int) : Str := NML.getD (n % 10).toNat ⟨#[]⟩
theorem nmS_at (n : Int) : atI (txs NML) (n % 10) = some (ws (nmS n)) := atI_txs (Int.emod_nonneg _ (by decide)) (by have := Int.emod_lt_of_pos n (b := 10) (by decide); exact this)
theorem nmS_ok (n : Int) : okN (nmS n) = true := by
  have h0 := Int.emod_nonneg n (b := 10) (by decide)
  have h1 := Int.emod_lt_of_pos n (b := 10) (by decide)
  have hj : (n % 10).toNat < NML.length := by show _ < 10; omega
  unfold nmS
  rw [List.getD_eq_getElem?_getD, List.getElem?_eq_getElem hj]
  exact NML_ok _ (List.getElem_mem hj)
def t_lname : Tr := fun xs Δ k _ => Δ = [] ∧ ∃ n : Int, xs = [wi n] ∧ k (ws (nmS n)) []
def putF (cs : List Fl) (k v : Str) : List Fl := if (cs.any fun p => decide (p.1 = k)) = true then cs.map (fun p => if p.1 = k then (k, v) else p) else cs ++ [(k, v)]
theorem putF_K (cs : List Fl) (k v : Str) : putKW (cs.map kvF) (.inr k) (ws v) = (putF cs k v).map kvF := by
  unfold putKW putF
  rw [List.any_map]
  have e : ((fun kv : Key × W => decide (kv.1 = Sum.inr k)) ∘ kvF) = fun p : Fl => decide (p.1 = k) := by
    funext p
    show decide ((Sum.inr p.1 : Key) = Sum.inr k) = _
    simp
  rw [e]
  split
  · rw [List.map_map, List.map_map]
    refine List.map_congr_left fun p _ => ?_
    show (if (Sum.inr p.1 : Key) = Sum.inr k then ((Sum.inr p.1 : Key), ws v) else kvF p) = kvF (if p.1 = k then (k, v) else p)
    by_cases h : p.1 = k
    · rw [if_pos (by rw [h]), if_pos h, h]; rfl
    · rw [if_neg (by simpa using h), if_neg h]
  · rw [List.map_append]; rfl
theorem putF_mem {cs : List Fl} {k v : Str} {p : Fl} : p ∈ putF cs k v ↔ p = (k, v) ∨ (p ∈ cs ∧ p.1 ≠ k) := by
  unfold putF
  split
  · rename_i h
    obtain ⟨q, hq, e⟩ := List.any_eq_true.mp h
    have e := of_decide_eq_true e
    rw [List.mem_map]
    constructor
    · rintro ⟨x, hx, rfl⟩
      by_cases hh : x.1 = k
      · rw [if_pos hh]; exact .inl rfl
      · rw [if_neg hh]; exact .inr ⟨hx, hh⟩
    · rintro (rfl | ⟨m, hh⟩)
      · exact ⟨q, hq, if_pos e⟩
      · exact ⟨p, m, if_neg hh⟩
  · rename_i h
    rw [List.mem_append, List.mem_singleton]
    constructor
    · rintro (m | rfl)
      · exact .inr ⟨m, fun e => h (List.any_eq_true.mpr ⟨p, m, decide_eq_true e⟩)⟩
      · exact .inl rfl
    · rintro (rfl | ⟨m, _⟩)
      · exact .inr rfl
      · exact .inl m
theorem putF_nd {cs : List Fl} {k v : Str} (h : (cs.map (·.1)).Nodup) : ((putF cs k v).map (·.1)).Nodup ∧ (putF cs k v).length ≤ cs.length + 1 := by
  unfold putF
  split
  · have e : (cs.map (fun p => if p.1 = k then (k, v) else p)).map (·.1) = cs.map (·.1) := by
      rw [List.map_map]
      refine List.map_congr_left fun p _ => ?_
      show (if p.1 = k then (k, v) else p).1 = p.1
      by_cases hh : p.1 = k
      · rw [if_pos hh, hh]
      · rw [if_neg hh]
    exact ⟨by rw [e]; exact h, by simp⟩
  · rename_i hn
    have hn' : k ∉ cs.map (·.1) := fun m => by
      obtain ⟨q, hq, e⟩ := List.mem_map.mp m
      exact hn (List.any_eq_true.mpr ⟨q, hq, decide_eq_true e⟩)
    refine ⟨?_, by simp⟩
    rw [List.map_append]
    refine List.nodup_append.mpr ⟨h, by simp, fun x hx y hy => ?_⟩
    rw [List.mem_singleton.mp hy]
    exact fun e => hn' (by rw [show x = k from e] at hx; exact hx)
theorem okF_of {z d : Str} (h : okN z = true) (hd : d.length ≤ 4000) : okF z d = true := by unfold okF; rw [h, decide_eq_true hd]; rfl
/-- few small files -/
structure Sml (cs : List Fl) (m : Nat) : Prop where
  nd : (cs.map (·.1)).Nodup
  ok : ∀ p ∈ cs, okN p.1 = true ∧ p.2.length ≤ 89
  ln : cs.length ≤ m
theorem Sml.put {cs : List Fl} {m : Nat} (h : Sml cs m) {k v : Str} (h1 : okN k = true) (h2 : v.length ≤ 89) : Sml (putF cs k v) (m + 1) := by
  obtain ⟨a, b⟩ := putF_nd (k := k) (v := v) h.nd
  refine ⟨a, fun p hp => ?_, Nat.le_trans b (Nat.add_le_add_right h.ln 1)⟩
  rcases putF_mem.mp hp with rfl | ⟨m, _⟩
  · exact ⟨h1, h2⟩
  · exact h.ok p m
theorem Sml.fok {cs : List Fl} {m : Nat} (h : Sml cs m) : FOk cs := ⟨h.nd, fun p hp => okF_of (h.ok p hp).1 (by have := (h.ok p hp).2; omega)⟩
theorem pcs_le {cs : List Fl} {c : Nat} (h : ∀ k ∈ namesF cs, cnt (lookF cs k) ≤ c) : (piecesF cs).length ≤ c * cs.length := by
  have go : ∀ ks : List Str, (∀ k ∈ ks, cnt (lookF cs k) ≤ c) → (pcs cs ks).length ≤ c * ks.length := by
    intro ks
    induction ks with
    | nil => intro _; simp [pcs]
    | cons k ks ih =>
      intro h
      have h1 := ih fun k hk => h k (List.mem_cons_of_mem _ hk)
      have h2 := h k List.mem_cons_self
      show (rowsP k (lookF cs k) ++ pcs cs ks).length ≤ _
      rw [List.length_append, rowsP_len, List.length_cons, Nat.mul_add]
      omega
  have := go _ h
  rwa [namesF_len] at this
theorem Sml.pcs {cs : List Fl} {m : Nat} (h : Sml cs m) : (piecesF cs).length ≤ 3 * m := by
  refine Nat.le_trans (pcs_le (c := 3) fun k hk => ?_) (Nat.mul_le_mul_left 3 h.ln)
  have := (h.ok _ (namesF_look h.nd hk).1).2
  unfold cnt
  have h2 : (lookF cs k).length ≤ 89 := this
  split <;> omega
def t_small : Tr := fun xs Δ k _ => Δ = [] ∧ ∃ ns : List Int, xs = [wl (ns.map .int)] ∧ 8 ≤ ns.length ∧ ∀ d cs, Sml cs 3 → k (.o d) [(d, .dic (cs.map kvF))]
/-! ### packed lists -/
def pieceL (y : Str) : List Nat := numL y.length ++ 58 :: tl y
def packL (ys : List Str) : List Nat := (ys.map pieceL).flatten
abbrev strD (ys : List Str) : List PyData := ys.map PyData.str
def t_num : Tr := fun xs Δ k _ => Δ = [] ∧ ∃ n : Nat, xs = [ws (nm n)] ∧ n < 10 ^ 9 ∧ k (wi (n : Int)) []
theorem call_num' {n : Nat} {ex : Value → Del → Prop} (h : n < 10 ^ 9) : t_num [ws (nm n)] [] (fun w Δ => w = wi (n : Int) ∧ Δ = []) ex := ⟨rfl, n, rfl, h, rfl, rfl⟩
local macro_rules | `(tactic| walk_at "Dcall") => `(tactic| (with_reducible refine call_num' ?_) <;> assumption)
def t_part : Tr := fun xs Δ k _ => Δ = [] ∧ ∃ (a b : List Nat) (y : Str), xs = [ws (mk (a ++ pieceL y ++ b)), wi (a.length : Int)] ∧ y.length < 10 ^ 9 ∧ (a ++ pieceL y ++ b).length ≤ sizeLine ∧ k (wt [.str y, .int ((a.length + (pieceL y).length : Nat) : Int)]) []
theorem pieceL_len (y : Str) : (pieceL y).length = (numL y.length).length + 1 + y.length := by
  unfold pieceL
  rw [List.length_append, List.length_cons, tl_len]
  omega
theorem num9 {n : Nat} (h : n < 10 ^ 9) : (numL n).length ≤ 9 := numL_len (by decide) h
theorem packL_snoc (ys : List Str) (y : Str) : packL (ys ++ [y]) = packL ys ++ pieceL y := by
  unfold packL
  rw [List.map_append, List.flatten_append]
  simp
theorem packL_app (ys zs : List Str) : packL (ys ++ zs) = packL ys ++ packL zs := by
  unfold packL
  rw [List.map_append, List.flatten_append]
theorem packL_cons (y : Str) (ys : List Str) : packL (y :: ys) = pieceL y ++ packL ys := rfl
def Short (m n : Nat) (ys : List Str) : Prop := ys.length ≤ m ∧ ∀ y ∈ ys, y.length ≤ n
theorem packL_le {n : Nat} (hn : n < 10 ^ 9) : ∀ (ys : List Str), (∀ y ∈ ys, y.length ≤ n) → (packL ys).length ≤ ys.length * (n + 10)
  | [], _ => Nat.zero_le _
  | y :: ys, h => by
    rw [packL_cons, List.length_append, pieceL_len, List.length_cons, Nat.succ_mul]
    have h1 := packL_le hn ys fun z hz => h z (List.mem_cons_of_mem _ hz)
    have h2 := h y (List.mem_cons_self ..)
    have h3 := num9 (n := y.length) (by omega)
    omega
def t_pack : Tr := fun xs Δ k _ => Δ = [] ∧ ∃ ys : List Str, xs = [wl (strD ys)] ∧ Short 10000 1000 ys ∧ k (ws (mk (packL ys))) []
theorem call_pack {ys : List Str} {ex : Value → Del → Prop} (h : Short 10000 1000 ys) : t_pack [wl (strD ys)] [] (fun w Δ => w = ws (mk (packL ys)) ∧ Δ = []) ex := ⟨rfl, ys, rfl, h, rfl, rfl⟩
local macro_rules | `(tactic| walk_at "Dcall") => `(tactic| (with_reducible refine call_pack ?_) <;> assumption)
def t_unpack : Tr := fun xs Δ k _ => Δ = [] ∧ ∃ ys : List Str, xs = [ws (mk (packL ys))] ∧ Short 10000 1000 ys ∧ ∀ a, k (.o a) [(a, .lst ((strD ys).map .d))]
theorem call_unpack {ys : List Str} {ex : Value → Del → Prop} (h : Short 10000 1000 ys) : t_unpack [ws (mk (packL ys))] [] (fun w Δ => ∃ a, w = .o a ∧ Δ = [(a, Cell.lst ((strD ys).map .d))]) ex := ⟨rfl, ys, rfl, h, fun a => ⟨a, rfl, rfl⟩⟩
local macro_rules | `(tactic| walk_at "Dcall") => `(tactic| (with_reducible refine call_unpack ?_) <;> assumption)
theorem colon_str : (Str.ofString ":") = (⟨#[58]⟩ : Str) := by decide +kernel
theorem log_len {n : Nat} (h : n < 10 ^ 9) : ((n : Nat) : Int).natAbs.log2 < 1920 := by
  rw [Int.natAbs_natCast]
  have h1 : n < 2 ^ 30 := by omega
  by_cases h0 : n = 0
  · subst h0; decide
  · have := (Nat.log2_lt h0).mpr h1
    omega
theorem piece_str (y : Str) : (Str.ofString (toString ((y.length : Nat) : Int)) ++ Str.ofString ":") ++ y = mk (pieceL y) := by
  refine str_ext ?_
  rw [tl_append, tl_append, tl_num, tlmk, colon_str]
  unfold pieceL
  rw [List.append_assoc]
  rfl
theorem empty_app (y : Str) : Str.empty ++ y = y := by
  refine str_ext ?_
  rw [tl_append]
  rfl
theorem join_pieces (e : Str) (he : tl e = []) (ys : List Str) : Txt.join e (ys.map fun y => mk (pieceL y)) = mk (packL ys) := by
  refine str_ext ?_
  rw [join0 e he, tlmk, List.map_map]
  unfold packL
  exact congrArg _ (List.map_congr_left fun y _ => tlmk _)
theorem join_room {ys : List Str} (h : Short 10000 1000 ys) : ((ys.map fun y => mk (pieceL y)).map (·.length)).sum + (ys.map fun y => mk (pieceL y)).length * 0 ≤ 16777216 := by
  have h1 := packL_le (n := 1000) (by omega) ys h.2
  have h2 : ((ys.map fun y => mk (pieceL y)).map (·.length)).sum = (packL ys).length := by
    unfold packL
    rw [List.length_flatten, List.map_map, List.map_map]
    exact congrArg _ (List.map_congr_left fun y _ => mk_len _)
  rw [h2]
  have := h.1
  have h3 : ys.length * (1000 + 10) ≤ 10000 * (1000 + 10) := Nat.mul_le_mul_right _ h.1
  omega
/-! ### reading any text -/
def isDig (l : List Nat) : Bool := decide (l ≠ []) && (decide (l.length ≤ 9) && l.all (fun c => decide (48 ≤ c) && decide (c ≤ 57)))
def isNum (l : List Nat) : Bool := isDig l && (decide (l.head? ≠ some 48) || decide (l = [48]))
abbrev valN (l : List Nat) : Nat := NumText.digitsVal l
def Asc (l : List Nat) : Prop := ∀ c ∈ l, c < 128
theorem Asc.sub {l l' : List Nat} (h : Asc l) (s : ∀ c ∈ l', c ∈ l) : Asc l' := fun c hc => h c (s c hc)
theorem Asc.cut {l : List Nat} (h : Asc l) (a b : Nat) : Asc ((l.drop a).take b) := h.sub fun c hc => List.mem_of_mem_drop (List.mem_of_mem_take hc)
theorem asc_is {z : Str} (h : Asc (tl z)) : Txt.isascii z = true := by
  unfold Txt.isascii
  rw [← Array.all_toList]
  exact List.all_eq_true.mpr fun c hc => decide_eq_true (h c hc)
theorem dig128 : ∀ c ∈ List.range 128, Unicode.isDigit c = (decide (48 ≤ c) && decide (c ≤ 57)) := by decide +kernel
theorem dig_is {z : Str} (h : Asc (tl z)) : Txt.isdigit z = (decide (tl z ≠ []) && (tl z).all (fun c => decide (48 ≤ c) && decide (c ≤ 57))) := by
  unfold Txt.isdigit
  rw [← Array.all_toList]
  refine congr (congrArg _ ?_) ?_
  · rw [← tl_len]
    cases tl z with
    | nil => rfl
    | cons c l => rw [List.length_cons]; simp
  · show (tl z).all _ = (tl z).all _
    have : ∀ l : List Nat, Asc l → l.all Unicode.isDigit = l.all (fun c => decide (48 ≤ c) && decide (c ≤ 57)) := by
      intro l
      induction l with
      | nil => intro _; rfl
      | cons c l ih =>
        intro hl
        rw [List.all_cons, List.all_cons, dig128 c (List.mem_range.mpr (hl c (List.mem_cons_self ..))), ih (hl.sub fun c hc => List.mem_cons_of_mem _ hc)]
    exact this _ h
theorem isDig_parts {l : List Nat} (h : isDig l = true) : l ≠ [] ∧ l.length ≤ 9 ∧ NumText.AllDigits l := by
  unfold isDig at h
  rw [Bool.and_eq_true, Bool.and_eq_true] at h
  refine ⟨of_decide_eq_true h.1, of_decide_eq_true h.2.1, fun c hc => ?_⟩
  have := List.all_eq_true.mp h.2.2 c hc
  rw [Bool.and_eq_true] at this
  exact ⟨of_decide_eq_true this.1, of_decide_eq_true this.2⟩
theorem dig_read {z : Str} (h : isDig (tl z) = true) : PySem.intText? z = some ((valN (tl z) : Nat) : Int) := by
  obtain ⟨h1, h2, h3⟩ := isDig_parts h
  exact PySem.intText_digits h3 h1 (by rw [tl_len] at h2; omega)
theorem digitsVal_lt : ∀ (l : List Nat) (a : Nat), NumText.AllDigits l → l.foldl (fun acc c => acc * 10 + (c - 48)) a < (a + 1) * 10 ^ l.length
  | [], a, _ => by simp
  | c :: l, a, h => by
    rw [List.foldl_cons]
    have h1 := digitsVal_lt l (a * 10 + (c - 48)) h.tail
    have h2 := h.head
    refine Nat.lt_of_lt_of_le h1 ?_
    rw [List.length_cons, Nat.pow_succ]
    have : a * 10 + (c - 48) + 1 ≤ (a + 1) * 10 := by omega
    calc (a * 10 + (c - 48) + 1) * 10 ^ l.length ≤ ((a + 1) * 10) * 10 ^ l.length := Nat.mul_le_mul_right _ this
      _ = (a + 1) * (10 ^ l.length * 10) := by rw [Nat.mul_assoc, Nat.mul_comm 10]
theorem valN_lt {l : List Nat} (h : isDig l = true) : valN l < 10 ^ 9 := by
  obtain ⟨_, h2, h3⟩ := isDig_parts h
  have h1 := digitsVal_lt l 0 h3
  rw [Nat.zero_add, Nat.one_mul] at h1
  exact Nat.lt_of_lt_of_le h1 (Nat.pow_le_pow_right (by decide) h2)
/-- the first piece, and what is behind it -/
def partR (r : List Nat) : Option (List Nat × List Nat) := match r.findIdx? (· == 58) with
  | none => none
  | some i => if isNum (r.take i) = true ∧ i + 1 + valN (r.take i) ≤ r.length then some ((r.drop (i + 1)).take (valN (r.take i)), r.drop (i + 1 + valN (r.take i))) else none
theorem partR_lt {r y q : List Nat} (h : partR r = some (y, q)) : q.length + 2 ≤ r.length ∧ y.length ≤ r.length := by
  unfold partR at h
  split at h
  · cases h
  · rename_i i hi
    split at h
    · rename_i hc
      have hn : r.take i ≠ [] := (isDig_parts ((Bool.and_eq_true _ _).mp hc.1).1).1
      have : i ≠ 0 := fun e => hn (by rw [e]; rfl)
      have e := Option.some.inj h
      have e1 := congrArg Prod.fst e
      have e2 := congrArg Prod.snd e
      simp only at e1 e2
      rw [← e1, ← e2, List.length_drop, List.length_take, List.length_drop]
      omega
    · cases h
theorem partR_sub {r y q : List Nat} (h : partR r = some (y, q)) : ∃ n m, y = (r.drop n).take m ∧ q = r.drop (n + m) ∧ n + m ≤ r.length ∧ m = y.length := by
  unfold partR at h
  split at h
  · cases h
  · rename_i i hi
    split at h
    · rename_i hc
      have e := Option.some.inj h
      have e1 := congrArg Prod.fst e
      have e2 := congrArg Prod.snd e
      simp only at e1 e2
      refine ⟨i + 1, valN (r.take i), e1.symm, e2.symm, hc.2, ?_⟩
      rw [← e1, List.length_take, List.length_drop]
      omega
    · cases h
def unp (r : List Nat) : Option (List (List Nat)) :=
  if r = [] then some [] else match _h : partR r with
    | none => none
    | some (y, q) => (unp q).map (y :: ·)
termination_by r.length
decreasing_by have := partR_lt _h; omega
theorem unp_nil : unp [] = some [] := by rw [unp]; rfl
theorem unp_bad {r : List Nat} (h0 : r ≠ []) (h : partR r = none) : unp r = none := by
  rw [unp, if_neg h0]
  split
  · rfl
  · rename_i e
    rw [h] at e; cases e
theorem unp_go {r y q : List Nat} (h : partR r = some (y, q)) : unp r = (unp q).map (y :: ·) := by
  have h0 : r ≠ [] := fun e => by
    have := (partR_lt h).1
    rw [e] at this
    simp at this
  rw [unp, if_neg h0]
  split
  · rename_i e
    rw [h] at e; cases e
  · rename_i y' q' e
    rw [h] at e
    cases e
    rfl
theorem unp_all {r : List Nat} : ∀ {ys : List (List Nat)}, unp r = some ys → ys.length ≤ r.length ∧ ∀ y ∈ ys, y.length ≤ r.length ∧ ∀ c ∈ y, c ∈ r := by
  induction hn : r.length using Nat.strongRecOn generalizing r with
  | _ n ih =>
    intro ys h
    by_cases h0 : r = []
    · subst h0
      rw [unp_nil] at h
      cases h
      exact ⟨Nat.zero_le _, fun y hy => by cases hy⟩
    · cases hp : partR r with
      | none => rw [unp_bad h0 hp] at h; cases h
      | some p =>
        obtain ⟨y, q⟩ := p
        rw [unp_go hp] at h
        cases hu : unp q with
        | none => rw [hu] at h; cases h
        | some zs =>
          rw [hu] at h
          have e : y :: zs = ys := Option.some.inj h
          subst e
          have hl := partR_lt hp
          obtain ⟨a, b, e1, e2, e3, _⟩ := partR_sub hp
          have hq := ih q.length (by omega) rfl hu
          refine ⟨by rw [List.length_cons]; omega, fun z hz => ?_⟩
          rcases List.mem_cons.mp hz with rfl | hz
          · exact ⟨by omega, fun c hc => by rw [e1] at hc; exact List.mem_of_mem_drop (List.mem_of_mem_take hc)⟩
          · have := hq.2 z hz
            exact ⟨by omega, fun c hc => by have := this.2 c hc; rw [e2] at this; exact List.mem_of_mem_drop this⟩
/-! finding -/
theorem occ_no (x : Str) (c lo hi : Nat) (h3 : ∀ i, lo ≤ i → i + 1 ≤ hi → (tl x)[i]? ≠ some c) : Builtin.Str.occurrences x ⟨#[c]⟩ lo hi 1 = [] := by
  rw [StrLaws.occ_eq]
  rcases StrLaws.occ_first x ⟨#[c]⟩ hi 1 (Nat.le_refl _) (List.range' lo (hi + 1 - lo)) lo (fun i hi' => (List.mem_range'_1.mp hi').1) with ⟨h, _⟩ | ⟨pre, a, post, e, h0, ha, hp⟩
  · rw [h]
  · have hla : a ∈ List.range' lo (hi + 1 - lo) := by rw [e]; simp
    have hl := (List.mem_range'_1.mp hla).1
    obtain ⟨q1, q2⟩ := ha
    have q1' : a + 1 ≤ hi := q1
    rw [StrLaws.subAt_eq] at q2
    exact absurd (StrLaws.take1_drop.mp q2) (h3 a hl q1')
theorem find4_no {x : Str} {c lo hi : Nat} (hlo : lo ≤ x.length) (h3 : ∀ i, lo ≤ i → i + 1 ≤ hi → (tl x)[i]? ≠ some c) : Txt.findIn x ⟨#[c]⟩ (lo : Int) (hi : Int) = -1 := by
  have e1 : PySem.fromIndex x.length (lo : Int) = lo := by
    unfold PySem.fromIndex
    rw [if_neg (by omega)]
    omega
  have e2 : PySem.toIndexW x.length (hi : Int) = min hi x.length := by
    unfold PySem.toIndexW
    rw [if_neg (by omega)]
    omega
  unfold Txt.findIn
  rw [e1, e2, occ_no x c lo _ fun i h1 h2 => h3 i h1 (by omega)]
theorem find3_at {x : Str} {c lo n : Nat} (hn : lo ≤ n) (h1 : (tl x)[n]? = some c) (h3 : ∀ i, lo ≤ i → i < n → (tl x)[i]? ≠ some c) : Txt.find3 x ⟨#[c]⟩ (lo : Int) = (n : Int) := by
  have hL : n < x.length := by rw [← tl_len]; exact (List.getElem?_eq_some_iff.mp h1).1
  have e1 : PySem.fromIndex x.length (lo : Int) = lo := by
    unfold PySem.fromIndex
    rw [if_neg (by omega)]
    omega
  unfold Txt.find3
  rw [e1]
  have h := occ_at x c lo x.length n hn h1 (by omega) h3
  cases q : Builtin.Str.occurrences x ⟨#[c]⟩ lo x.length 1 with
  | nil => exact absurd q h.1
  | cons a r => rw [h.2 a r q]
theorem find3_no {x : Str} {c lo : Nat} (hlo : lo ≤ x.length) (h3 : ∀ i, lo ≤ i → (tl x)[i]? ≠ some c) : Txt.find3 x ⟨#[c]⟩ (lo : Int) = -1 := by
  have e1 : PySem.fromIndex x.length (lo : Int) = lo := by
    unfold PySem.fromIndex
    rw [if_neg (by omega)]
    omega
  unfold Txt.find3
  rw [e1, occ_no x c lo _ fun i h1 h2 => h3 i h1]
theorem idx_at {r : List Nat} {i : Nat} (h : r.findIdx? (· == 58) = some i) : r[i]? = some 58 ∧ i < r.length ∧ ∀ j, j < i → r[j]? ≠ some 58 := by
  obtain ⟨hl, h1, h2⟩ := List.findIdx?_eq_some_iff_getElem.mp h
  refine ⟨by rw [List.getElem?_eq_getElem hl]; exact congrArg some (beq_iff_eq.mp h1), hl, fun j hj e => ?_⟩
  have := h2 j hj
  rw [List.getElem?_eq_getElem (by omega)] at e
  rw [Option.some.inj e] at this
  exact absurd this (by decide)
theorem idx_no {r : List Nat} (h : r.findIdx? (· == 58) = none) : ∀ j : Nat, r[j]? ≠ some 58 := fun j e => by
  have := List.findIdx?_eq_none_iff.mp h 58 (List.mem_of_getElem? e)
  exact absurd this (by decide)
/-! promises -/
def t_digU (CB : Addr) : Tr := fun xs Δ k ex => Δ = [] ∧ ∃ z : Str, xs = [ws z] ∧ Asc (tl z) ∧ z.length ≤ 10000 ∧ (isDig (tl z) = true → k (wi ((valN (tl z) : Nat) : Int)) []) ∧ (isDig (tl z) = false → ex (.ref CB) [])
def t_numU (CB : Addr) : Tr := fun xs Δ k ex => Δ = [] ∧ ∃ z : Str, xs = [ws z] ∧ Asc (tl z) ∧ z.length ≤ 10000 ∧ (isNum (tl z) = true → k (wi ((valN (tl z) : Nat) : Int)) []) ∧ (isNum (tl z) = false → ex (.ref CB) [])
def t_partU (CB : Addr) : Tr := fun xs Δ k ex => Δ = [] ∧ ∃ (z : Str) (at' : Nat), xs = [ws z, wi (at' : Int)] ∧ Asc (tl z) ∧ z.length ≤ 10000 ∧ at' ≤ z.length ∧ (∀ y q, partR ((tl z).drop at') = some (y, q) → k (wt [.str (mk y), .int ((z.length - q.length : Nat) : Int)]) []) ∧ (partR ((tl z).drop at') = none → ex (.ref CB) [])
abbrev strL (ys : List (List Nat)) : List PyData := ys.map fun y => PyData.str (mk y)
def t_unpU (CB : Addr) : Tr := fun xs Δ k ex => Δ = [] ∧ ∃ z : Str, xs = [ws z] ∧ Asc (tl z) ∧ z.length ≤ 10000 ∧ (∀ ys, unp (tl z) = some ys → k (wl (strL ys)) []) ∧ (unp (tl z) = none → ex (.ref CB) [])
theorem num_val {n : Nat} (h : n < 10 ^ 9) : isNum (numL n) = true ∧ valN (numL n) = n := by
  have hd : isDig (numL n) = true := by
    unfold isDig
    rw [Bool.and_eq_true, Bool.and_eq_true]
    refine ⟨decide_eq_true ?_, decide_eq_true (num9 h), List.all_eq_true.mpr fun c hc => ?_⟩
    · by_cases h0 : 0 < n
      · obtain ⟨c, r, e, _⟩ := numL_head h0
        rw [e]; exact List.cons_ne_nil _ _
      · obtain rfl : n = 0 := by omega
        rw [numL_lt (by decide)]; exact List.cons_ne_nil _ _
    · have := numL_digits n c hc
      simp; omega
  refine ⟨?_, ?_⟩
  · unfold isNum
    rw [hd, Bool.true_and, Bool.or_eq_true]
    by_cases h0 : 0 < n
    · obtain ⟨c, r, e, hc⟩ := numL_head h0
      refine .inl (decide_eq_true ?_)
      rw [e]
      exact fun z => hc (Option.some.inj z)
    · obtain rfl : n = 0 := by omega
      exact .inr (decide_eq_true (numL_lt (by decide)))
  · have h1 := num_text h
    have h2 := dig_read (z := nm n) (by rw [tlmk]; exact hd)
    rw [h1, tlmk] at h2
    have := Option.some.inj h2
    omega

/-! ### what is packed is read again -/
theorem partR_piece {y : Str} (h : y.length < 10 ^ 9) (q : List Nat) : partR (pieceL y ++ q) = some (tl y, q) := by
  obtain ⟨h1, h2⟩ := num_val h
  have e : pieceL y ++ q = numL y.length ++ (58 :: (tl y ++ q)) := by unfold pieceL; simp
  have hi : (pieceL y ++ q).findIdx? (· == 58) = some (numL y.length).length := by
    rw [List.findIdx?_eq_some_iff_getElem]
    refine ⟨by rw [e]; simp, ?_, fun j hj => ?_⟩
    · simp only [e, List.getElem_append_right (Nat.le_refl _), Nat.sub_self]
      rfl
    · simp only [e, List.getElem_append_left hj]
      exact fun z => numL_free (n := y.length) (s := 58) (.inr (by decide)) (by rw [← beq_iff_eq.mp z]; exact List.getElem_mem hj)
  have et : (pieceL y ++ q).take (numL y.length).length = numL y.length := by rw [e, List.take_left]
  have ed : (pieceL y ++ q).drop ((numL y.length).length + 1) = tl y ++ q := by
    rw [e, ← List.drop_drop, List.drop_left]
    rfl
  unfold partR
  rw [hi]
  simp only [et, h1, h2, ed, ← List.drop_drop]
  rw [if_pos ⟨trivial, by rw [List.length_append, pieceL_len]; omega⟩, ← tl_len y, List.take_left, List.drop_left]
theorem unp_pack : ∀ (ys : List Str), (∀ y ∈ ys, y.length < 10 ^ 9) → ∀ r, unp (packL ys ++ r) = (unp r).map (ys.map tl ++ ·)
  | [], _, r => by simp [packL]
  | y :: ys, h, r => by
    rw [packL_cons, List.append_assoc, unp_go (partR_piece (h y List.mem_cons_self) _), unp_pack ys (fun z hz => h z (List.mem_cons_of_mem _ hz)) r, Option.map_map]
    rfl
theorem unp_packL {ys : List Str} (h : ∀ y ∈ ys, y.length < 10 ^ 9) : unp (packL ys) = some (ys.map tl) := by
  have := unp_pack ys h []
  rw [List.append_nil, unp_nil] at this
  rw [this]
  simp

/-! ### letters -/
def twN : List Str := ["t1", "t2", "t3"]
def isEv (l : List Nat) : Bool := isNum l && decide (1 ≤ valN l)
def rowOk (a b c d : Str) : Bool := isNum (tl a) && isNum (tl b) && (decide (valN (tl a) = 0 ∧ valN (tl b) = 0 ∧ c = "" ∧ d = "") || (decide (valN (tl a) < valN (tl b) ∧ valN (tl b) ≤ 30) && okF c d))
abbrev rowD4 (a b c d : Str) : List PyData := [.int (valN (tl a) : Nat), .int (valN (tl b) : Nat), .str c, .str d]
def rowsOk : List Str → Bool
  | [] => true
  | [a, b, c, d] => rowOk a b c d
  | _ => false
def rowsQ : List Str → List PyData
  | [a, b, c, d] => rowD4 a b c d
  | _ => []
abbrev evsD (es : List Str) : List PyData := es.map fun e => PyData.int (valN (tl e) : Nat)
def shpL : List Str → Option (Str × Str × List Str × List Str)
  | [w, t, q] => if w = "ask" then some (w, t, [q], []) else none
  | [w, t, q, m] => if w = "done" then some (w, t, [q, m], []) else none
  | [w, t, q, m, a, b, c, d] => if w = "part" then some (w, t, [q, m], [a, b, c, d]) else none
  | _ => none
def ltrR (ps : List Str) : Option (List PyData) := match shpL ps with
  | some (w, t, es, row) => if decide (t ∈ twN) && es.all (fun e => isEv (tl e)) && rowsOk row then some ([.str w, .str t] ++ evsD es ++ rowsQ row) else none
  | none => none
def rdLet (z : Str) : Option (List PyData) := (unp (tl z)).bind fun ys => ltrR (ys.map mk)
theorem strL_map (ys : List (List Nat)) : strL ys = (ys.map mk).map PyData.str := by simp [strL]
def Txs (ps : List Str) : Prop := ps.length ≤ 10000 ∧ ∀ p ∈ ps, Asc (tl p) ∧ p.length ≤ 10000
theorem unp_txs {z : Str} {ys : List (List Nat)} (hA : Asc (tl z)) (hl : z.length ≤ 10000) (h : unp (tl z) = some ys) : Txs (ys.map mk) := by
  obtain ⟨h1, h2⟩ := unp_all h
  rw [tl_len] at h1
  refine ⟨by rw [List.length_map]; omega, fun p hp => ?_⟩
  obtain ⟨y, hy, rfl⟩ := List.mem_map.mp hp
  obtain ⟨h3, h4⟩ := h2 y hy
  rw [tl_len] at h3
  exact ⟨by rw [tlmk]; exact fun c hc => hA c (h4 c hc), by rw [← tl_len, tlmk]; omega⟩
/-- what a letter's parts are like, once their number is right -/
structure Shp (ps : List Str) (w t : Str) (es row : List Str) : Prop where
  e : ps = w :: t :: (es ++ row)
  c1 : cutW ((ps.map PyData.str).map W.d) none (some 2) = (([w, t] : List Str).map PyData.str).map W.d
  c2 : cutW ((ps.map PyData.str).map W.d) (some 2) (some 4) = (es.map PyData.str).map W.d
  c3 : cutW ((ps.map PyData.str).map W.d) (some 4) none = (row.map PyData.str).map W.d
  r : (w ≠ "part" ∧ row = []) ∨ (w = "part" ∧ ∃ a b c d, row = [a, b, c, d])
  l : es.length ≤ 2
theorem shp_of {ps : List Str} {w t : Str} {es row : List Str} (h : shpL ps = some (w, t, es, row)) : Shp ps w t es row := by
  unfold shpL at h
  split at h
  · split at h
    · rename_i hw; cases h; subst hw
      exact ⟨rfl, rfl, rfl, rfl, .inl ⟨by decide +kernel, rfl⟩, by simp⟩
    · cases h
  · split at h
    · rename_i hw; cases h; subst hw
      exact ⟨rfl, rfl, rfl, rfl, .inl ⟨by decide +kernel, rfl⟩, by simp⟩
    · cases h
  · split at h
    · rename_i hw; cases h; subst hw
      exact ⟨rfl, rfl, rfl, rfl, .inr ⟨rfl, _, _, _, _, rfl⟩, by simp⟩
    · cases h
  · cases h
def kvP : List (Str × PyData) := [("ask", .int 3), ("part", .int 8), ("done", .int 4)]
theorem shp_no {w : Str} {r : List Str} {n : Int} (h : kvP.lookup w = some (.int n)) : (((w :: r).length : Int) = n) ↔ (shpL (w :: r)).isSome = true := by
  have hw : (w = "ask" ∧ n = 3) ∨ (w = "part" ∧ n = 8) ∨ (w = "done" ∧ n = 4) := by
    unfold kvP at h
    rw [List.lookup_cons] at h
    split at h
    · rename_i e; cases h; exact .inl ⟨beq_iff_eq.mp e, rfl⟩
    · rw [List.lookup_cons] at h
      split at h
      · rename_i e; cases h; exact .inr (.inl ⟨beq_iff_eq.mp e, rfl⟩)
      · rw [List.lookup_cons] at h
        split at h
        · rename_i e; cases h; exact .inr (.inr ⟨beq_iff_eq.mp e, rfl⟩)
        · cases h
  have n1 : ¬ (("part" : Str) = "ask") := by decide +kernel
  have n2 : ¬ (("done" : Str) = "ask") := by decide +kernel
  have n3 : ¬ (("ask" : Str) = "done") := by decide +kernel
  have n4 : ¬ (("part" : Str) = "done") := by decide +kernel
  have n5 : ¬ (("ask" : Str) = "part") := by decide +kernel
  have n6 : ¬ (("done" : Str) = "part") := by decide +kernel
  rcases hw with ⟨rfl, rfl⟩ | ⟨rfl, rfl⟩ | ⟨rfl, rfl⟩
  all_goals
    rcases r with _ | ⟨a, _ | ⟨b, _ | ⟨c, _ | ⟨d, _ | ⟨e, _ | ⟨f, _ | ⟨g, _ | ⟨h', r⟩⟩⟩⟩⟩⟩⟩⟩
    all_goals simp [shpL, n1, n2, n3, n4, n5, n6]
    all_goals try omega
theorem shp_none {w : Str} {r : List Str} (h : kvP.lookup w = none) : shpL (w :: r) = none := by
  have h1 : w ≠ "ask" ∧ w ≠ "part" ∧ w ≠ "done" := by
    unfold kvP at h
    refine ⟨fun e => ?_, fun e => ?_, fun e => ?_⟩
    all_goals subst e; revert h; decide +kernel
  unfold shpL
  split
  · rename_i e; cases e; rw [if_neg h1.1]
  · rename_i e; cases e; rw [if_neg h1.2.2]
  · rename_i e; cases e; rw [if_neg h1.2.1]
  · rfl
def t_evnum (CB : Addr) : Tr := fun xs Δ k ex => Δ = [] ∧ ∃ z : Str, xs = [ws z] ∧ Asc (tl z) ∧ z.length ≤ 10000 ∧ (isEv (tl z) = true → k (wi ((valN (tl z) : Nat) : Int)) []) ∧ (isEv (tl z) = false → ex (.ref CB) [])
def t_rrow (CB : Addr) : Tr := fun xs Δ k ex => Δ = [] ∧ ∃ a b c d : Str, xs = [wl (strD [a, b, c, d])] ∧ Txs [a, b, c, d] ∧ (rowOk a b c d = true → k (wt (rowD4 a b c d)) []) ∧ (rowOk a b c d = false → ex (.ref CB) [])
def t_rlet (CB : Addr) : Tr := fun xs Δ k ex => Δ = [] ∧ ∃ z : Str, xs = [ws z] ∧ Asc (tl z) ∧ z.length ≤ 10000 ∧ (∀ ds, rdLet z = some ds → k (wt ds) []) ∧ (rdLet z = none → ex (.ref CB) [])
theorem asc_okS {z : Str} (h : Asc (tl z)) : PyData.strOk z = true := by
  unfold PyData.strOk
  rw [← Array.all_toList]
  exact List.all_eq_true.mpr fun c hc => decide_eq_true (by have := h c hc; omega)
theorem shaped_row {a b : Int} {c d : Str} (h1 : Asc (tl c)) (h2 : Asc (tl d)) : SeqAt.shaped (.tuple [.int a, .int b, .str c, .str d]) = true := by
  have o1 := asc_okS h1
  have o2 := asc_okS h2
  unfold SeqAt.shaped
  simp [PyData.canLay0, PyData.canLayAll0, PyData.depth, PyData.depthAll, o1, o2]
theorem eqv_row (a b : Int) (c d : Str) : PyData.eqv (.tuple [.int a, .int b, .str c, .str d]) (.tuple [.int 0, .int 0, .str "", .str ""]) = decide (a = 0 ∧ b = 0 ∧ c = "" ∧ d = "") := by
  simp only [PyData.eqv, PyData.eqvAll, Bool.and_true, Bool.decide_and]
  rfl
/-! ### letters written -/
def Lng (ps : List Str) : Prop := ps.length ≤ 20 ∧ ∀ p ∈ ps, p.length ≤ 5000 ∧ Asc (tl p)
theorem len_apL (a b : Str) : (a ++ b).length = a.length + b.length := by rw [← tl_len, tl_append, List.length_append, tl_len, tl_len]
theorem join_roomL {ys : List Str} (h : Lng ys) : ((ys.map fun y => mk (pieceL y)).map (·.length)).sum + (ys.map fun y => mk (pieceL y)).length * 0 ≤ 16777216 := by
  have h1 := packL_le (n := 5000) (by omega) ys fun y hy => (h.2 y hy).1
  have h2 : ((ys.map fun y => mk (pieceL y)).map (·.length)).sum = (packL ys).length := by
    unfold packL
    rw [List.length_flatten, List.map_map, List.map_map]
    exact congrArg _ (List.map_congr_left fun y _ => mk_len _)
  rw [h2]
  have := h.1
  omega
def t_packB : Tr := fun xs Δ k _ => Δ = [] ∧ ∃ ps : List Str, xs = [wl (strD ps)] ∧ Lng ps ∧ k (ws (mk (packL ps))) []
theorem rc_strN {K : PySem.W.Frag} {s : S} {n : Nat} (h : n < 10 ^ 9) : RCs K s (fun xs H Q => ∃ i, xs = [V.int i] ∧ i.natAbs.log2 < 1920 ∧ Q (V.str (Str.ofString (toString i))) H) [wi (n : Int)] (ws (nm n)) := by
  have := rc_strI (K := K) (s := s) (i := (n : Int)) (log_len h)
  rwa [show ws (toString ((n : Nat) : Int) : String) = ws (nm n) from congrArg ws (num_mk n)] at this
theorem nm_asc (n : Nat) : Asc (tl (nm n)) := by
  rw [tlmk]
  intro c hc
  have := numL_digits n c hc
  omega
theorem nm_len (n : Nat) (h : n < 10 ^ 9) : (nm n).length ≤ 9 := by
  rw [← tl_len, tlmk]
  exact num9 h
def evI (q : Int) : Bool := decide (1 ≤ q) && decide (q ≤ 999999999)
theorem evI_nat {q : Int} (h : evI q = true) : ∃ n : Nat, q = (n : Int) ∧ 1 ≤ n ∧ n < 10 ^ 9 := by
  unfold evI at h
  rw [Bool.and_eq_true] at h
  have h1 := of_decide_eq_true h.1
  have h2 := of_decide_eq_true h.2
  exact ⟨q.toNat, by omega, by omega, by omega⟩
def t_ctwin (CN : Addr) : Tr := fun xs Δ k ex => Δ = [] ∧ ∃ z : Str, xs = [ws z] ∧ (z ∈ twN → k wn []) ∧ (z ∉ twN → ex (.ref CN) [])
def t_cevent (CN : Addr) : Tr := fun xs Δ k ex => Δ = [] ∧ ∃ q : Int, xs = [wi q] ∧ (evI q = true → k wn []) ∧ (evI q = false → ex (.ref CN) [])
def askS (z : Str) (q : Int) : Str := mk (packL ["ask", z, nm q.toNat])
def doneS (z : Str) (q m : Int) : Str := mk (packL ["done", z, nm q.toNat, nm m.toNat])
def t_askl (CN : Addr) : Tr := fun xs Δ k ex => Δ = [] ∧ ∃ (z : Str) (q : Int), xs = [ws z, wi q] ∧ (z ∈ twN → evI q = true → k (ws (askS z q)) []) ∧ ((z ∉ twN ∨ evI q = false) → ex (.ref CN) [])
def t_donel (CN : Addr) : Tr := fun xs Δ k ex => Δ = [] ∧ ∃ (z : Str) (q m : Int), xs = [ws z, wi q, wi m] ∧ (z ∈ twN → evI q = true → evI m = true → k (ws (doneS z q m)) []) ∧ ((z ∉ twN ∨ evI q = false ∨ evI m = false) → ex (.ref CN) [])
theorem tw_ok {t : Str} (ht : t ∈ twN) : t.length ≤ 12 ∧ Asc (tl t) := by
  have h : ∀ t ∈ twN, t.length ≤ 12 ∧ ∀ c ∈ tl t, c < 128 := by decide +kernel
  exact h t ht
theorem lit_ok : ∀ p ∈ (["ask", "done", "part", "0", "1", "map", ""] : List Str), p.length ≤ 12 ∧ Asc (tl p) := by
  have h : ∀ p ∈ (["ask", "done", "part", "0", "1", "map", ""] : List Str), p.length ≤ 12 ∧ ∀ c ∈ tl p, c < 128 := by decide +kernel
  exact h
theorem all_nil {p : Str → Prop} : ∀ q ∈ ([] : List Str), p q := fun _ h => by cases h
theorem all_cons {p : Str → Prop} {a : Str} {l : List Str} (h : p a) (h2 : ∀ q ∈ l, p q) : ∀ q ∈ a :: l, p q := fun q hq => by
  rcases List.mem_cons.mp hq with rfl | hq
  · exact h
  · exact h2 q hq
theorem nm_ok {n : Nat} (h : n < 10 ^ 9) : (nm n).length ≤ 12 ∧ Asc (tl (nm n)) := ⟨by have := nm_len n h; omega, nm_asc n⟩
theorem lng_sm {ps : List Str} (h : ps.length ≤ 20) (h2 : ∀ p ∈ ps, p.length ≤ 12 ∧ Asc (tl p)) : Lng ps := ⟨h, fun p hp => ⟨by have := (h2 p hp).1; omega, (h2 p hp).2⟩⟩
abbrev Rw4 := Nat × Nat × Str × Str
abbrev rw4 (q : Rw4) : PyData := .tuple [.int (q.1 : Nat), .int (q.2.1 : Nat), .str q.2.2.1, .str q.2.2.2]
def ptsF (cs : List Fl) : List Rw4 := if cs = [] then [(0, 0, "", "")] else (List.range cs.length).map fun k => (k, cs.length, (namesF cs).getD k Str.empty, lookF cs ((namesF cs).getD k Str.empty))
abbrev ltr4 (z : Str) (q m : Int) (r : Rw4) : List Str := ["part", z, nm q.toNat, nm m.toNat, nm r.1, nm r.2.1, r.2.2.1, r.2.2.2]
abbrev pletS (z : Str) (q m : Int) (cs : List Fl) : List Str := (ptsF cs).map fun r => mk (packL (ltr4 z q m r))
structure FlA (cs : List Fl) : Prop where
  nd : (cs.map (·.1)).Nodup
  ln : cs.length ≤ 1000
  sz : ∀ p ∈ cs, p.1.length ≤ 5000 ∧ p.2.length ≤ 5000 ∧ Asc (tl p.1) ∧ Asc (tl p.2)
def okFs (cs : List Fl) : Bool := decide (cs.length ≤ 30) && cs.all fun p => okF p.1 p.2
def partOk (z : Str) (q m : Int) (cs : List Fl) : Bool := decide (z ∈ twN) && (evI q && (evI m && okFs cs))
theorem empty_s : Str.ofString "" = Str.empty := by decide +kernel
theorem FlA.at {cs : List Fl} (h : FlA cs) {k : Nat} (hk : k < cs.length) : ((namesF cs).getD k Str.empty, lookF cs ((namesF cs).getD k Str.empty)) ∈ cs ∧ (namesF cs)[k]? = some ((namesF cs).getD k Str.empty) ∧ valW (cs.map kvF) (.inr ((namesF cs).getD k Str.empty)) = some (ws (lookF cs ((namesF cs).getD k Str.empty))) := by
  have hl : k < (namesF cs).length := by rw [namesF_len]; exact hk
  have e : (namesF cs).getD k Str.empty = (namesF cs)[k] := by rw [List.getD_eq_getElem?_getD, List.getElem?_eq_getElem hl]; rfl
  have hm : (namesF cs).getD k Str.empty ∈ namesF cs := by rw [e]; exact List.getElem_mem hl
  obtain ⟨h1, h2⟩ := namesF_look h.nd hm
  exact ⟨h1, by rw [e]; exact List.getElem?_eq_getElem hl, h2⟩
theorem FlA.pts {cs : List Fl} (h : FlA cs) : ∀ r ∈ ptsF cs, r.1 < 10 ^ 9 ∧ r.2.1 < 10 ^ 9 ∧ (r.2.2.1.length ≤ 5000 ∧ Asc (tl r.2.2.1)) ∧ (r.2.2.2.length ≤ 5000 ∧ Asc (tl r.2.2.2)) := fun r hr => by
  unfold ptsF at hr
  have hln := h.ln
  split at hr
  · rw [List.mem_singleton.mp hr]
    have e := lit_ok "" (by simp)
    exact ⟨by decide, by decide, ⟨by have := e.1; show (Str.ofString "").length ≤ 5000; omega, e.2⟩, ⟨by have := e.1; show (Str.ofString "").length ≤ 5000; omega, e.2⟩⟩
  · obtain ⟨k, hk, rfl⟩ := List.mem_map.mp hr
    have hk := List.mem_range.mp hk
    have hs := h.sz _ (h.at hk).1
    exact ⟨by show k < _; omega, by show cs.length < _; omega, ⟨hs.1, hs.2.2.1⟩, ⟨hs.2.1, hs.2.2.2⟩⟩
theorem ltr4_ok {z : Str} {q m : Int} {r : Rw4} (hz : z ∈ twN) (hq : evI q = true) (hm : evI m = true) (h : r.1 < 10 ^ 9 ∧ r.2.1 < 10 ^ 9 ∧ (r.2.2.1.length ≤ 5000 ∧ Asc (tl r.2.2.1)) ∧ (r.2.2.2.length ≤ 5000 ∧ Asc (tl r.2.2.2))) : Lng (ltr4 z q m r) := by
  obtain ⟨n, rfl, n1, n9⟩ := evI_nat hq
  obtain ⟨o, rfl, o1, o9⟩ := evI_nat hm
  obtain ⟨h1, h2, h3, h4⟩ := h
  have w : ∀ {p : Str}, p.length ≤ 12 ∧ Asc (tl p) → p.length ≤ 5000 ∧ Asc (tl p) := fun h => ⟨by have := h.1; omega, h.2⟩
  exact ⟨by simp, all_cons (w (lit_ok "part" (by simp))) (all_cons (w (tw_ok hz)) (all_cons (w (nm_ok n9)) (all_cons (w (nm_ok o9)) (all_cons (w (nm_ok h1)) (all_cons (w (nm_ok h2)) (all_cons h3 (all_cons h4 all_nil)))))))⟩
theorem pl_map (z : Str) (q m : Int) (cs : List Fl) : ((ptsF cs).map fun r => PyData.str (mk (packL (ltr4 z q m r)))) = strD (pletS z q m cs) := by rw [strD, pletS, List.map_map]; rfl
theorem ea_is {K : PySem.W.Frag} {s : S} {tr : TA} {xs ys : List W} (h : EvA K tr s xs) (e : xs = ys) : EvA K tr s ys := e ▸ h
def t_frows : Tr := fun xs Δ k _ => ∃ (d : Addr) (cs : List Fl), xs = [.o d] ∧ Δ = [(d, .dic (cs.map kvF))] ∧ FlA cs ∧ k (wl ((ptsF cs).map rw4)) Δ
def t_plet (CN : Addr) : Tr := fun xs Δ k ex => ∃ (d : Addr) (cs : List Fl) (z : Str) (q m : Int), xs = [ws z, wi q, wi m, .o d] ∧ Δ = [(d, .dic (cs.map kvF))] ∧ FlA cs ∧ (partOk z q m cs = true → k (wl (strD (pletS z q m cs))) Δ) ∧ (partOk z q m cs = false → ex (.ref CN) Δ)
/-! ### packing longer texts -/
theorem pack_ascL : ∀ (ys : List Str), (∀ y ∈ ys, Asc (tl y)) → Asc (packL ys)
  | [], _ => fun c hc => by cases hc
  | y :: ys, h => by
    intro c hc
    rw [packL_cons] at hc
    rcases List.mem_append.mp hc with hc | hc
    · unfold pieceL at hc
      rcases List.mem_append.mp hc with hc | hc
      · have := numL_digits _ c hc; omega
      · rcases List.mem_cons.mp hc with hc | hc
        · omega
        · exact h y (List.mem_cons_self ..) c hc
    · exact pack_ascL ys (fun z hz => h z (List.mem_cons_of_mem _ hz)) c hc
def t_lpackL : Tr := fun xs Δ k _ => Δ = [] ∧ ∃ ps : List Str, xs = [wl (strD ps)] ∧ Lng ps ∧ k (ws (mk (packL ps))) []
theorem nosignL : tl (Str.ofString "") = [] := by decide +kernel
/-! ### numbers as texts, and what is read is what was written -/
theorem nm_valN {l : List Nat} (h : isNum l = true) : numL (valN l) = l := by
  have go : ∀ (n : Nat) (l : List Nat), l.length = n → l ≠ [] → NumText.AllDigits l → (l.head? ≠ some 48 ∨ l = [48]) → numL (valN l) = l ∧ (l.head? ≠ some 48 → 0 < valN l) := by
    intro n
    induction n with
    | zero => intro l hl h0; exact absurd (List.eq_nil_of_length_eq_zero hl) h0
    | succ n ih =>
      intro l hl h0 hd hh
      obtain ⟨cs, c, rfl⟩ : ∃ cs c, l = cs ++ [c] := ⟨l.dropLast, l.getLast h0, (List.dropLast_concat_getLast h0).symm⟩
      have hc : 48 ≤ c ∧ c ≤ 57 := hd c (by simp)
      have hv : valN (cs ++ [c]) = valN cs * 10 + (c - 48) := by
        show NumText.digitsVal (cs ++ [c]) = _
        unfold NumText.digitsVal
        rw [List.foldl_append]
        rfl
      by_cases hcs : cs = []
      · subst hcs
        have hv0 : valN ([] ++ [c]) = c - 48 := by rw [hv]; show 0 * 10 + (c - 48) = _; omega
        rw [hv0]
        refine ⟨?_, fun hne => ?_⟩
        · rw [numL_lt (by omega)]
          show [48 + (c - 48)] = [c]
          rw [show 48 + (c - 48) = c by omega]
        · have : c ≠ 48 := fun e => hne (by rw [e]; rfl)
          omega
      · have hcl : cs.length = n := by rw [List.length_append] at hl; simp at hl; exact hl
        have hdc : NumText.AllDigits cs := fun x hx => hd x (by simp [hx])
        have hhd : cs.head? ≠ some 48 := by
          have e : (cs ++ [c]).head? = cs.head? := by
            obtain ⟨x, xs, rfl⟩ := List.exists_cons_of_ne_nil hcs
            rfl
          rcases hh with hh | hh
          · rw [e] at hh; exact hh
          · have := congrArg List.length hh
            rw [List.length_append] at this
            have : cs.length = 0 := by simpa using this
            exact absurd (List.eq_nil_of_length_eq_zero this) hcs
        obtain ⟨i1, i2⟩ := ih cs hcl hcs hdc (.inl hhd)
        have hp := i2 hhd
        rw [hv]
        refine ⟨?_, fun _ => by omega⟩
        rw [numL_step (by omega), show (valN cs * 10 + (c - 48)) / 10 = valN cs by omega, show (valN cs * 10 + (c - 48)) % 10 = c - 48 by omega, i1, show 48 + (c - 48) = c by omega]
  unfold isNum at h
  rw [Bool.and_eq_true, Bool.or_eq_true] at h
  obtain ⟨h1, h2, h3⟩ := isDig_parts h.1
  exact (go _ l rfl h1 h3 (h.2.imp of_decide_eq_true of_decide_eq_true)).1
theorem nm_valS {z : Str} (h : isNum (tl z) = true) : nm (valN (tl z)) = z := str_ext (by rw [tlmk]; exact nm_valN h)
theorem findIdx_take {l : List Nat} {i : Nat} (h : l.findIdx? (· == 58) = some i) : l = l.take i ++ 58 :: l.drop (i + 1) := by
  rw [List.findIdx?_eq_some_iff_getElem] at h
  obtain ⟨hi, h1, _⟩ := h
  have h1 : l[i] = 58 := by simpa using h1
  conv => lhs; rw [← List.take_append_drop i l]
  rw [List.drop_eq_getElem_cons hi, h1]
theorem partR_back {r y q : List Nat} (h : partR r = some (y, q)) : r = pieceL (mk y) ++ q := by
  unfold partR at h
  split at h
  · cases h
  · rename_i i hi
    split at h
    · rename_i hc
      have e := Option.some.inj h
      have e1 := congrArg Prod.fst e
      have e2 := congrArg Prod.snd e
      simp only at e1 e2
      have hy : y.length = valN (r.take i) := by
        rw [← e1, List.length_take, List.length_drop]
        omega
      unfold pieceL
      rw [tlmk, mk_len, hy, nm_valN hc.1]
      conv => lhs; rw [findIdx_take hi]
      rw [← e1, ← e2, List.append_assoc, List.cons_append]
      congr 2
      rw [show r.drop (i + 1 + valN (r.take i)) = (r.drop (i + 1)).drop (valN (r.take i)) from (List.drop_drop).symm, List.take_append_drop]
    · cases h
theorem unp_back : ∀ (n : Nat) {r : List Nat} {ys : List (List Nat)}, r.length ≤ n → unp r = some ys → packL (ys.map mk) = r
  | n, r, ys, hn, h => by
    induction n generalizing r ys with
    | zero =>
      have : r = [] := List.eq_nil_of_length_eq_zero (by omega)
      subst this
      rw [unp_nil] at h
      cases h
      rfl
    | succ n ih =>
      by_cases h0 : r = []
      · subst h0
        rw [unp_nil] at h
        cases h
        rfl
      · cases hp : partR r with
        | none => rw [unp_bad h0 hp] at h; cases h
        | some p =>
          obtain ⟨y, q⟩ := p
          rw [unp_go hp] at h
          cases hu : unp q with
          | none => rw [hu] at h; cases h
          | some zs =>
            rw [hu] at h
            have e : y :: zs = ys := Option.some.inj h
            subst e
            have := (partR_lt hp).1
            have i2 := ih (r := q) (ys := zs) (by omega) hu
            rw [List.map_cons, packL_cons, i2]
            exact (partR_back hp).symm
/-- what is told by a read letter -/
structure Tld (z : Str) (ds : List PyData) (w t : Str) (es row : List Str) : Prop where
  p : mk (packL (w :: t :: (es ++ row))) = z
  e : ds = [.str w, .str t] ++ evsD es ++ rowsQ row
  tw : t ∈ twN
  ev : ∀ e ∈ es, isEv (tl e) = true
  sh : (w = "ask" ∧ es.length = 1 ∧ row = []) ∨ (w = "done" ∧ es.length = 2 ∧ row = []) ∨ (w = "part" ∧ es.length = 2 ∧ ∃ a b c d, row = [a, b, c, d] ∧ rowOk a b c d = true)
theorem tld_of {z : Str} {ds : List PyData} (h : rdLet z = some ds) : ∃ w t es row, Tld z ds w t es row := by
  unfold rdLet at h
  cases hu : unp (tl z) with
  | none => rw [hu] at h; cases h
  | some ys =>
    rw [hu] at h
    have h : ltrR (ys.map mk) = some ds := h
    have hb := unp_back _ (Nat.le_refl _) hu
    generalize ys.map mk = ps at h hb
    unfold ltrR at h
    cases hs : shpL ps with
    | none => rw [hs] at h; cases h
    | some q =>
      obtain ⟨w, t, es, row⟩ := q
      rw [hs] at h
      simp only at h
      split at h
      · rename_i hc
        rw [Bool.and_eq_true, Bool.and_eq_true] at hc
        have hS := shp_of hs
        refine ⟨w, t, es, row, ?_, (Option.some.inj h).symm, of_decide_eq_true hc.1.1, List.all_eq_true.mp hc.1.2, ?_⟩
        · rw [← hS.e]; exact str_ext (by rw [tlmk, hb])
        · unfold shpL at hs
          split at hs
          · split at hs
            · rename_i hw; cases hs; exact .inl ⟨hw, rfl, rfl⟩
            · cases hs
          · split at hs
            · rename_i hw; cases hs; exact .inr (.inl ⟨hw, rfl, rfl⟩)
            · cases hs
          · split at hs
            · rename_i hw; cases hs; exact .inr (.inr ⟨hw, rfl, _, _, _, _, rfl, hc.2⟩)
            · cases hs
          · cases hs
      · cases h
def txtD6 : PyData → Str
  | .str z => z
  | .int i => Str.ofString (toString i)
  | _ => ⟨#[]⟩
theorem txt_nat (n : Nat) : txtD6 (.int (n : Int)) = nm n := num_mk n
theorem ev_num {e : Str} (h : isEv (tl e) = true) : isNum (tl e) = true ∧ 1 ≤ valN (tl e) ∧ valN (tl e) < 10 ^ 9 := by
  unfold isEv at h
  rw [Bool.and_eq_true] at h
  have hd : isDig (tl e) = true := by
    have := h.1
    unfold isNum at this
    rw [Bool.and_eq_true] at this
    exact this.1
  exact ⟨h.1, of_decide_eq_true h.2, valN_lt hd⟩
/-- the texts of what is told -/
def IdxI (k : Nat) : Bool := decide (k = 2 ∨ k = 3 ∨ k = 4 ∨ k = 5)
def TupAt (d : PyData) (p : Str) (k : Nat) : Prop := if IdxI k = true then ∃ n : Nat, n < 10 ^ 9 ∧ d = .int n ∧ p = nm n else d = .str p
def TupR : List PyData → List Str → Nat → Prop
  | [], [], _ => True
  | d :: ds, p :: ps, k => TupAt d p k ∧ TupR ds ps (k + 1)
  | _, _, _ => False
theorem TupR.len : ∀ {ds : List PyData} {ps : List Str} {k : Nat}, TupR ds ps k → ds.length = ps.length
  | [], [], _, _ => rfl
  | _ :: _, _ :: _, _, h => by rw [List.length_cons, List.length_cons, TupR.len h.2]
  | [], _ :: _, _, h => h.elim
  | _ :: _, [], _, h => h.elim
theorem TupR.at : ∀ {ds : List PyData} {ps : List Str} {k i : Nat}, TupR ds ps k → i < ds.length → ∃ d p, ds[i]? = some d ∧ ps[i]? = some p ∧ TupAt d p (k + i)
  | d :: _, p :: _, k, 0, h, _ => ⟨d, p, rfl, rfl, h.1⟩
  | d :: ds, p :: ps, k, i + 1, h, hi => by
    obtain ⟨d', p', h1, h2, h3⟩ := TupR.at (i := i) h.2 (by simpa using hi)
    exact ⟨d', p', by simpa using h1, by simpa using h2, by rwa [show k + (i + 1) = k + 1 + i by omega]⟩
  | [], [], _, _, _, h => by simp at h
  | [], _ :: _, _, _, h, _ => h.elim
theorem tupS {z : Str} {k : Nat} (h : IdxI k = false) : TupAt (.str z) z k := by unfold TupAt; rw [h]; exact rfl
theorem tupI {n k : Nat} (h : IdxI k = true) (hn : n < 10 ^ 9) : TupAt (.int (n : Int)) (nm n) k := by unfold TupAt; rw [if_pos h]; exact ⟨n, hn, rfl, rfl⟩
theorem tupV {e : Str} {k : Nat} (h : IdxI k = true) (he : isNum (tl e) = true) : TupAt (.int ((valN (tl e) : Nat) : Int)) e k := by
  have hd : isDig (tl e) = true := by
    unfold isNum at he
    rw [Bool.and_eq_true] at he
    exact he.1
  have := tupI (n := valN (tl e)) h (valN_lt hd)
  rwa [nm_valS he] at this
theorem len_two {α : Type} {l : List α} (h : l.length = 2) : ∃ a b, l = [a, b] := by
  rcases l with _ | ⟨a, _ | ⟨b, _ | ⟨c, l⟩⟩⟩
  · cases h
  · cases h
  · exact ⟨a, b, rfl⟩
  · simp at h
theorem Tld.tup {z : Str} {ds : List PyData} {w t : Str} {es row : List Str} (h : Tld z ds w t es row) : TupR ds (w :: t :: (es ++ row)) 0 := by
  rw [h.e]
  rcases h.sh with ⟨_, h1, rfl⟩ | ⟨_, h1, rfl⟩ | ⟨_, h1, a, b, c, d, rfl, h2⟩
  · obtain ⟨e, rfl⟩ := List.length_eq_one_iff.mp h1
    exact ⟨tupS rfl, tupS rfl, tupV rfl (ev_num (h.ev e (by simp))).1, trivial⟩
  · obtain ⟨e, f, rfl⟩ := len_two h1
    exact ⟨tupS rfl, tupS rfl, tupV rfl (ev_num (h.ev e (by simp))).1, tupV rfl (ev_num (h.ev f (by simp))).1, trivial⟩
  · obtain ⟨e, f, rfl⟩ := len_two h1
    unfold rowOk at h2
    rw [Bool.and_eq_true, Bool.and_eq_true] at h2
    exact ⟨tupS rfl, tupS rfl, tupV rfl (ev_num (h.ev e (by simp))).1, tupV rfl (ev_num (h.ev f (by simp))).1, tupV rfl h2.1.1, tupV rfl h2.1.2, tupS rfl, tupS rfl, trivial⟩
theorem TupR.txt : ∀ {ds : List PyData} {ps : List Str} {k : Nat}, TupR ds ps k → ds.map txtD6 = ps
  | [], [], _, _ => rfl
  | d :: ds, p :: ps, k, h => by
    rw [List.map_cons, TupR.txt h.2]
    have h1 := h.1
    unfold TupAt at h1
    split at h1
    · obtain ⟨n, _, rfl, rfl⟩ := h1
      rw [txt_nat]
    · rw [h1]; rfl
  | [], _ :: _, _, h => h.elim
  | _ :: _, [], _, h => h.elim
def t_istup : Tr := fun xs Δ k _ => Δ = [] ∧ ∃ (ds : List PyData) (ps : List Str), xs = [wt ds, wl (strD ps)] ∧ TupR ds ps 0 ∧ ds.length ≤ 100 ∧ k (wb true) []
theorem shaped_int (i : Int) : SeqAt.shaped (.int i) = true := rfl
theorem in_2345 (k : Nat) : (([PyData.int 2, .int 3, .int 4, .int 5]).any fun z => PyData.eqv z (.int (k : Int))) = IdxI k := by
  unfold IdxI
  simp only [List.any_cons, List.any_nil, PyData.eqv, Bool.or_false]
  by_cases h2 : k = 2
  · subst h2; rfl
  by_cases h3 : k = 3
  · subst h3; rfl
  by_cases h4 : k = 4
  · subst h4; rfl
  by_cases h5 : k = 5
  · subst h5; rfl
  rw [decide_eq_false (by omega)]
  have e2 : ((2 : Int) == (k : Int)) = false := beq_eq_false_iff_ne.mpr (by omega)
  have e3 : ((3 : Int) == (k : Int)) = false := beq_eq_false_iff_ne.mpr (by omega)
  have e4 : ((4 : Int) == (k : Int)) = false := beq_eq_false_iff_ne.mpr (by omega)
  have e5 : ((5 : Int) == (k : Int)) = false := beq_eq_false_iff_ne.mpr (by omega)
  rw [e2, e3, e4, e5]
  rfl
theorem szn (n : Nat) (h : n ≤ 1000) : n ≤ sizeLine := by rw [sizeLine_eq]; omega
def SZL : List Int := [0, 1, 3, 39, 40, 41, 79, 80, 81, 7, 12, 20, 33, 60]
def sizeN (n : Int) : Int := if n % 29 = 28 then n / 29 % 401 else SZL.getD (n % 14).toNat 0
theorem SZL_ok : ∀ z ∈ SZL, 0 ≤ z ∧ z ≤ 400 := by decide +kernel
theorem sizeN_ok (n : Int) : 0 ≤ sizeN n ∧ sizeN n ≤ 400 := by
  unfold sizeN
  split
  · omega
  · have h0 := Int.emod_nonneg n (b := 14) (by decide)
    have h1 := Int.emod_lt_of_pos n (b := 14) (by decide)
    have hj : (n % 14).toNat < SZL.length := by show _ < 14; omega
    rw [List.getD_eq_getElem?_getD, List.getElem?_eq_getElem hj]
    exact SZL_ok _ (List.getElem_mem hj)
def t_lsize : Tr := fun xs Δ k _ => Δ = [] ∧ ∃ n : Int, xs = [wi n] ∧ k (wi (sizeN n)) []
/-- some files -/
structure Few (cs : List Fl) (m : Nat) : Prop where
  nd : (cs.map (·.1)).Nodup
  ok : ∀ p ∈ cs, okN p.1 = true ∧ p.2.length ≤ 400
  ln : cs.length ≤ m
  so : ∀ p ∈ cs, ∀ c ∈ tl p.2, c < 128
theorem Few.put {cs : List Fl} {m : Nat} (h : Few cs m) {k v : Str} (h1 : okN k = true) (h2 : v.length ≤ 400) (h3 : ∀ c ∈ tl v, c < 128) : Few (putF cs k v) (m + 1) := by
  obtain ⟨a, b⟩ := putF_nd (k := k) (v := v) h.nd
  refine ⟨a, fun p hp => ?_, Nat.le_trans b (Nat.add_le_add_right h.ln 1), fun p hp => ?_⟩
  · rcases putF_mem.mp hp with rfl | ⟨m, _⟩
    · exact ⟨h1, h2⟩
    · exact h.ok p m
  · rcases putF_mem.mp hp with rfl | ⟨m, _⟩
    · exact h3
    · exact h.so p m
theorem Few.mono {cs : List Fl} {m n : Nat} (h : Few cs m) (l : m ≤ n) : Few cs n := ⟨h.nd, h.ok, Nat.le_trans h.ln l, h.so⟩
theorem SAB_lt : ((tl (SA ++ SB)).all fun c => decide (c < 128)) = true := by decide +kernel
theorem signs_lt (i : Int) : signs94 i < 128 := by
  unfold signs94
  rw [List.getD_eq_getElem?_getD]
  cases h : (tl (SA ++ SB))[i.toNat]? with
  | none => exact (by decide : 0 < 128)
  | some c => exact of_decide_eq_true (List.all_eq_true.mp SAB_lt c (List.mem_of_getElem? h))
theorem textN_lt (n : Int) (size : Nat) : ∀ c ∈ tl (textN n size), c < 128 := fun c hc => by
  unfold textN at hc
  rw [tlmk] at hc
  obtain ⟨k, _, rfl⟩ := List.mem_map.mp hc
  exact signs_lt _
theorem Few.fok {cs : List Fl} {m : Nat} (h : Few cs m) : FOk cs := ⟨h.nd, fun p hp => okF_of (h.ok p hp).1 (by have := (h.ok p hp).2; omega)⟩
theorem Few.pcs {cs : List Fl} {m : Nat} (h : Few cs m) : (piecesF cs).length ≤ 10 * m := by
  refine Nat.le_trans (pcs_le (c := 10) fun k hk => ?_) (Nat.mul_le_mul_left 10 h.ln)
  have := (h.ok _ (namesF_look h.nd hk).1).2
  unfold cnt
  have h2 : (lookF cs k).length ≤ 400 := this
  split <;> omega
def t_lfiles : Tr := fun xs Δ k _ => Δ = [] ∧ ∃ (ns : List Int) (a m : Nat), xs = [wl (ns.map .int), wi (a : Int), wi (m : Int)] ∧ a + 2 * m ≤ ns.length ∧ m ≤ 7 ∧ ∀ d cs, Few cs m → k (.o d) [(d, .dic (cs.map kvF))]
def t_lpieces : Tr := fun xs Δ k _ => ∃ (d : Addr) (cs : List Fl), xs = [.o d] ∧ Δ = [(d, .dic (cs.map kvF))] ∧ FOk cs ∧ cs.length ≤ 10000 ∧ ∀ a, k (.o a) [(a, .lst (((piecesF cs).map ptD).map .d)), (d, .dic (cs.map kvF))]
theorem space_str : Str.ofString " " = (⟨#[32]⟩ : Str) := by decide +kernel
def levF (n : Int) : Int := if n % 7 = 6 then ([0, -1, 1000000000, 999999999, 1] : List Int).getD (n / 7 % 5).toNat 0 else 1 + n * 911 % 999999999
def t_levent : Tr := fun xs Δ k _ => Δ = [] ∧ ∃ n : Int, xs = [wi n] ∧ k (wi (levF n)) []
theorem nm_zero : nm 0 = Str.ofString "0" := str_ext (by rw [tlmk, numL_lt (by decide)]; decide +kernel)
def t_lexp : Tr := fun xs Δ k _ => ∃ (d : Addr) (cs : List Fl) (z : Str) (q m : Int), xs = [ws z, wi q, wi m, .o d] ∧ Δ = [(d, .dic (cs.map kvF))] ∧ FlA cs ∧ z ∈ twN ∧ evI q = true ∧ evI m = true ∧ k (wl (strD (pletS z q m cs))) Δ
def orS (p : Prop) [Decidable p] (y : Str) : List Str := if p then [] else [y]
theorem orS_y {p : Prop} [Decidable p] {y : Str} (h : p) : orS p y = [] := if_pos h
theorem orS_n {p : Prop} [Decidable p] {y : Str} (h : ¬ p) : orS p y = [y] := if_neg h
theorem orS_l (p : Prop) [Decidable p] (y : Str) : (orS p y).length ≤ 1 := by unfold orS; split <;> simp
def dueS (z : Str) (q m : Int) (cs : List Fl) : List Str := orS (z ∈ twN ∧ evI q = true) "ask" ++ (orS (z ∈ twN ∧ evI q = true ∧ evI m = true) "done" ++ orS (partOk z q m cs = true) "part")
def t_lrefu : Tr := fun xs Δ k _ => ∃ (d : Addr) (cs : List Fl) (z : Str) (q m : Int), xs = [ws z, wi q, wi m, .o d] ∧ Δ = [(d, .dic (cs.map kvF))] ∧ FlA cs ∧ ∀ a, k (.o a) ((a, .lst (txs (dueS z q m cs))) :: Δ)
theorem x_str6 : Str.ofString "x" = (⟨#[120]⟩ : Str) := by decide +kernel
def ODDN : List Str := ["A", "", "a b", "abcdefghijklm", "a/1", "x"]
def ODDS : List Int := [0, 1, 4000, 4001]
theorem okFs_put {cs : List Fl} {k v : Str} (h : okFs cs = true) (hl : cs.length < 30) (hn : (cs.map (·.1)).Nodup) : okFs (putF cs k v) = okF k v := by
  unfold okFs at h ⊢
  rw [Bool.and_eq_true] at h
  have h2 := List.all_eq_true.mp h.2
  have h3 := (putF_nd (k := k) (v := v) hn).2
  rw [decide_eq_true (show (putF cs k v).length ≤ 30 by omega), Bool.true_and]
  cases hk : okF k v with
  | true =>
    rw [List.all_eq_true]
    intro p hp
    rcases putF_mem.mp hp with rfl | ⟨m, _⟩
    · exact hk
    · exact h2 p m
  | false =>
    rw [List.all_eq_false]
    exact ⟨(k, v), putF_mem.mpr (.inl rfl), by show ¬ okF k v = true; rw [hk]; decide⟩
theorem FlA.put {cs : List Fl} (h : FlA cs) {k v : Str} (hl : cs.length < 1000) (h1 : k.length ≤ 5000 ∧ v.length ≤ 5000 ∧ Asc (tl k) ∧ Asc (tl v)) : FlA (putF cs k v) := by
  obtain ⟨a, b⟩ := putF_nd (k := k) (v := v) h.nd
  refine ⟨a, by omega, fun p hp => ?_⟩
  rcases putF_mem.mp hp with rfl | ⟨m, _⟩
  · exact h1
  · exact h.sz p m
theorem odd_at (n : Int) : ∃ (k : Str) (sz : Nat), atI ((ODDN.map PyData.str).map W.d) (n % 6) = some (ws k) ∧ atI ((ODDS.map PyData.int).map W.d) (n / 6 % 4) = some (wi (sz : Int)) ∧ sz ≤ 4001 ∧ k.length ≤ 13 ∧ Asc (tl k) ∧ okF k (mk (List.replicate sz 120)) = !(decide (n % 6 < 5) || decide (n / 6 % 4 = 3)) := by
  have h0 := Int.emod_nonneg n (b := 6) (by decide)
  have h1 := Int.emod_lt_of_pos n (b := 6) (by decide)
  have h2 := Int.emod_nonneg (n / 6) (b := 4) (by decide)
  have h3 := Int.emod_lt_of_pos (n / 6) (b := 4) (by decide)
  have hN : ∀ k ∈ ODDN, k.length ≤ 13 ∧ ∀ c ∈ tl k, c < 128 := by decide +kernel
  have hk : ∀ k ∈ ODDN.take 5, okN k = false := by decide +kernel
  have hx : okN "x" = true := by decide +kernel
  have hb : ∀ (k : Str) (sz : Nat), okN k = false → okF k (mk (List.replicate sz 120)) = false := fun k sz h => by unfold okF; rw [h]; rfl
  have hg : ∀ sz : Nat, okF "x" (mk (List.replicate sz 120)) = decide (sz ≤ 4000) := fun sz => by unfold okF; rw [hx, mk_len, List.length_replicate]; rfl
  obtain ⟨sz, hs, hs4, hs3⟩ : ∃ sz : Nat, atI ((ODDS.map PyData.int).map W.d) (n / 6 % 4) = some (wi (sz : Int)) ∧ sz ≤ 4001 ∧ decide (sz ≤ 4000) = !decide (n / 6 % 4 = 3) := by
    obtain h | h | h | h : n / 6 % 4 = 0 ∨ n / 6 % 4 = 1 ∨ n / 6 % 4 = 2 ∨ n / 6 % 4 = 3 := by omega
    · rw [h]; exact ⟨0, rfl, by decide, by decide⟩
    · rw [h]; exact ⟨1, rfl, by decide, by decide⟩
    · rw [h]; exact ⟨4000, rfl, by decide, by decide⟩
    · rw [h]; exact ⟨4001, rfl, by decide, by decide⟩
  obtain h | h : n % 6 < 5 ∨ n % 6 = 5 := by omega
  · obtain ⟨k, hka, hkm⟩ : ∃ k, atI ((ODDN.map PyData.str).map W.d) (n % 6) = some (ws k) ∧ k ∈ ODDN.take 5 := by
      obtain h | h | h | h | h : n % 6 = 0 ∨ n % 6 = 1 ∨ n % 6 = 2 ∨ n % 6 = 3 ∨ n % 6 = 4 := by omega
      all_goals rw [h]; exact ⟨_, rfl, by simp [ODDN]⟩
    have hm := hN k (List.mem_of_mem_take hkm)
    exact ⟨k, sz, hka, hs, hs4, hm.1, hm.2, by rw [hb k sz (hk k hkm), decide_eq_true h]; rfl⟩
  · have hm := hN "x" (by simp [ODDN])
    refine ⟨"x", sz, by rw [h]; rfl, hs, hs4, hm.1, hm.2, ?_⟩
    rw [hg, hs3, decide_eq_false (show ¬ n % 6 < 5 by omega), Bool.false_or]
def t_lodd : Tr := fun xs Δ k _ => ∃ (d : Addr) (cs : List Fl) (z : Str) (q m n : Int), xs = [ws z, wi q, wi m, .o d, wi n] ∧ Δ = [(d, .dic (cs.map kvF))] ∧ FlA cs ∧ okFs cs = true ∧ cs.length < 30 ∧ z ∈ twN ∧ evI q = true ∧ evI m = true ∧ k (wb true) Δ
def t_lisn : Tr := fun xs Δ k _ => Δ = [] ∧ ∃ z : Str, xs = [ws z] ∧ z.length ≤ 10000 ∧ k (wb (okN z)) []
def t_lfits : Tr := fun xs Δ k _ => Δ = [] ∧ ∃ (z : Str) (ds : List PyData), xs = [wt ds] ∧ z.length ≤ 10000 ∧ rdLet z = some ds ∧ k (wb true) []
def t_lspr : Tr := fun xs Δ k _ => Δ = [] ∧ ∃ z : Str, xs = [ws z] ∧ Asc (tl z) ∧ z.length ≤ 5000 ∧ k (wb true) []
theorem mem_pack : ∀ {ps : List Str} {p : Str}, p ∈ ps → p.length ≤ (packL ps).length
  | q :: ps, p, h => by
    rw [packL_cons, List.length_append, pieceL, List.length_append, List.length_cons, tl_len]
    rcases List.mem_cons.mp h with rfl | h
    · omega
    · have := mem_pack h; omega
theorem pack_cnt : ∀ (ps : List Str), ps.length ≤ (packL ps).length
  | [] => Nat.zero_le _
  | q :: ps => by
    rw [packL_cons, List.length_append, pieceL, List.length_append, List.length_cons, List.length_cons, tl_len]
    have := pack_cnt ps
    omega
theorem pack_mem_asc {ps : List Str} (h : Asc (packL ps)) : ∀ p ∈ ps, Asc (tl p) := by
  induction ps with
  | nil => intro p hp; cases hp
  | cons q ps ih =>
    intro p hp
    rw [packL_cons] at h
    rcases List.mem_cons.mp hp with rfl | hp
    · exact fun c hc => h c (List.mem_append_left _ (by unfold pieceL; exact List.mem_append_right _ (List.mem_cons_of_mem _ hc)))
    · exact ih (fun c hc => h c (List.mem_append_right _ hc)) p hp
theorem Tld.lng {z : Str} {ds : List PyData} {w t : Str} {es row : List Str} (h : Tld z ds w t es row) (hA : Asc (tl z)) (hl : z.length ≤ 5000) : Lng (w :: t :: (es ++ row)) := by
  have e : packL (w :: t :: (es ++ row)) = tl z := by rw [← h.p, tlmk]
  refine ⟨?_, fun p hp => ⟨?_, pack_mem_asc (by rw [e]; exact hA) p hp⟩⟩
  · rw [List.length_cons, List.length_cons, List.length_append]
    rcases h.sh with ⟨_, h1, rfl⟩ | ⟨_, h1, rfl⟩ | ⟨_, h1, a, b, c, d, rfl, _⟩
    all_goals simp; omega
  · have := mem_pack hp
    rw [e, tl_len] at this
    omega
theorem evB {e : Str} (h : isEv (tl e) = true) : (1 : Int) ≤ (valN (tl e) : Nat) ∧ ((valN (tl e) : Nat) : Int) ≤ 999999999 := by
  obtain ⟨_, h1, h2⟩ := ev_num h
  have : (10 : Nat) ^ 9 = 1000000000 := rfl
  omega
/-! ### the law -/
theorem shaped_txs {l : List Str} (h : ∀ z ∈ l, PyData.strOk z = true) : SeqAt.shaped (.list (l.map .str)) = true := by
  have h1 : PyData.canLayAll0 (l.map PyData.str) = true ∧ PyData.depthAll (l.map PyData.str) ≤ 2 := by
    induction l with
    | nil => exact ⟨rfl, by decide⟩
    | cons q l ih =>
      have ih := ih fun v hv => h v (List.mem_cons_of_mem _ hv)
      have oq := h q List.mem_cons_self
      refine ⟨?_, ?_⟩
      · simp [PyData.canLayAll0, PyData.canLay0, ih.1, oq]
      · simp [PyData.depthAll, PyData.depth]; omega
  unfold SeqAt.shaped
  simp [PyData.canLay0, PyData.depth, h1.1]
  omega
theorem eqv_txs : ∀ (a b : List Str), PyData.eqv (.list (a.map .str)) (.list (b.map .str)) = decide (a = b) := by
  have h : ∀ (a b : List Str), PyData.eqvAll (a.map PyData.str) (b.map PyData.str) = decide (a = b) := by
    intro a
    induction a with
    | nil => intro b; cases b <;> simp [PyData.eqvAll]
    | cons x a ih =>
      intro b
      cases b with
      | nil => simp [PyData.eqvAll]
      | cons y b =>
        rw [List.map_cons, List.map_cons, PyData.eqvAll, ih b]
        by_cases h1 : x = y <;> by_cases h2 : a = b <;> simp [PyData.eqv, h1, h2]
  intro a b
  rw [PyData.eqv]
  exact h a b
theorem rd_pack {ps : List Str} (h : Lng ps) : rdLet (mk (packL ps)) = ltrR ps := by
  unfold rdLet
  rw [tlmk, unp_packL fun y hy => by have := (h.2 y hy).1; omega]
  show ltrR ((ps.map tl).map mk) = _
  rw [List.map_map, show ((mk ∘ tl : Str → Str)) = id from funext fun z => str_ext (tlmk _), List.map_id]
theorem map_tl_inj : ∀ {xs ys : List Str}, xs.map tl = ys.map tl → xs = ys
  | [], [], _ => rfl
  | [], _ :: _, h => by cases h
  | _ :: _, [], h => by cases h
  | a :: xs, b :: ys, h => by
    obtain ⟨h1, h2⟩ := List.cons.inj h
    rw [str_ext h1, map_tl_inj h2]
theorem tup_pack {ps : List Str} {ds : List PyData} (h : Lng ps) (hA : Asc (packL ps)) (hl : (packL ps).length ≤ 5000) (hr : rdLet (mk (packL ps)) = some ds) : TupR ds ps 0 := by
  obtain ⟨w, t, es, row, hT⟩ := tld_of hr
  have hL := hT.lng (by rw [tlmk]; exact hA) (by rw [mk_len]; exact hl)
  have e := congrArg tl hT.p
  rw [tlmk, tlmk] at e
  have u1 := unp_packL (ys := ps) fun y hy => by have := (h.2 y hy).1; omega
  have u2 := unp_packL (ys := w :: t :: (es ++ row)) fun y hy => by have := (hL.2 y hy).1; omega
  rw [e, u1] at u2
  rw [map_tl_inj (Option.some.inj u2)]
  exact hT.tup
theorem ev_nm {n : Nat} (h0 : 1 ≤ n) (h1 : n < 10 ^ 9) : isEv (tl (nm n)) = true := by
  have := num_val h1
  unfold isEv
  rw [tlmk, this.1, this.2, decide_eq_true h0]
  rfl
theorem shp_ask (t q : Str) : shpL ["ask", t, q] = some (("ask" : Str), t, [q], ([] : List Str)) := by unfold shpL; simp only [if_true]
theorem shp_done (t q m : Str) : shpL ["done", t, q, m] = some (("done" : Str), t, [q, m], ([] : List Str)) := by unfold shpL; simp only [if_true]
theorem shp_part (t q m a b c d : Str) : shpL ["part", t, q, m, a, b, c, d] = some (("part" : Str), t, [q, m], [a, b, c, d]) := by unfold shpL; simp only [if_true]
theorem row_nm {i n : Nat} {c d : Str} (h : i < n) (hn : n ≤ 30) (ho : okF c d = true) : rowOk (nm i) (nm n) c d = true := by
  have h1 := num_val (n := i) (by omega)
  have h2 := num_val (n := n) (by omega)
  unfold rowOk
  rw [tlmk, tlmk, h1.1, h1.2, h2.1, h2.2, ho, decide_eq_true (show i < n ∧ n ≤ 30 from ⟨h, hn⟩)]
  simp
theorem row_zero : rowOk "0" "0" "" "" = true := by decide +kernel
def MedL (ps : List Str) : Prop := ps.length ≤ 8 ∧ 0 < ps.length ∧ ∀ p ∈ ps, p.length ≤ 400 ∧ Asc (tl p)
theorem pack_asc6 : ∀ (ys : List Str), (∀ y ∈ ys, Asc (tl y)) → Asc (packL ys)
  | [], _ => fun c hc => by cases hc
  | y :: ys, h => by
    intro c hc
    rw [packL_cons] at hc
    rcases List.mem_append.mp hc with hc | hc
    · unfold pieceL at hc
      rcases List.mem_append.mp hc with hc | hc
      · have := numL_digits _ c hc; omega
      · rcases List.mem_cons.mp hc with hc | hc
        · omega
        · exact h y (List.mem_cons_self ..) c hc
    · exact pack_asc6 ys (fun z hz => h z (List.mem_cons_of_mem _ hz)) c hc
theorem med_pk {ps : List Str} (h1 : ps.length ≤ 9) (h2 : ∀ p ∈ ps, p.length ≤ 400 ∧ Asc (tl p)) : Lng ps ∧ Asc (packL ps) ∧ (packL ps).length ≤ 4000 := by
  refine ⟨⟨by omega, fun p hp => ⟨by have := (h2 p hp).1; omega, (h2 p hp).2⟩⟩, pack_asc6 ps fun p hp => (h2 p hp).2, ?_⟩
  have := packL_le (n := 400) (by omega) ps fun p hp => (h2 p hp).1
  have : ps.length * (400 + 10) ≤ 9 * 410 := Nat.mul_le_mul_right _ h1
  omega
def SPLs : List Str := ["0", "1", "2", "00", "01", "-1", "1000000000", "", "t4", "t1", "ask", "part", "a", "A", "31", "30"]
theorem SPLs_ok : ∀ p ∈ SPLs, p.length ≤ 400 ∧ Asc (tl p) := by
  have h : ∀ p ∈ SPLs, p.length ≤ 400 ∧ ∀ c ∈ tl p, c < 128 := by decide +kernel
  exact h
def spoilP (ps : List Str) (a b c : Int) : List Str :=
  if b % 4 = 0 then ps.eraseIdx (a % ps.length).toNat else if b % 4 = 1 then ps.take (a % ps.length).toNat ++ [ps.getD (c % ps.length).toNat Str.empty] ++ ps.drop (a % ps.length).toNat else ps.set (a % ps.length).toNat (SPLs.getD (c % 16).toNat Str.empty)
theorem getD_mem {l : List Str} {i : Nat} (h : i < l.length) : l[i]? = some (l.getD i Str.empty) ∧ l.getD i Str.empty ∈ l := by
  rw [List.getD_eq_getElem?_getD, List.getElem?_eq_getElem h]
  exact ⟨rfl, List.getElem_mem h⟩
theorem emod_lt {a : Int} {n : Nat} (h : 0 < n) : (a % (n : Int)).toNat < n ∧ a % (n : Int) = ((a % (n : Int)).toNat : Int) := by
  have h0 := Int.emod_nonneg a (b := (n : Int)) (by omega)
  have h1 := Int.emod_lt_of_pos a (b := (n : Int)) (by omega)
  omega
theorem spoil_ok {ps : List Str} (h : MedL ps) (a b c : Int) : (spoilP ps a b c).length ≤ 9 ∧ ∀ p ∈ spoilP ps a b c, p.length ≤ 400 ∧ Asc (tl p) := by
  have h1 := h.1
  unfold spoilP
  split
  · refine ⟨by rw [List.length_eraseIdx]; split <;> omega, fun p hp => h.2.2 p (List.mem_of_mem_eraseIdx hp)⟩
  · split
    · refine ⟨by simp; omega, fun p hp => ?_⟩
      rcases List.mem_append.mp hp with hp | hp
      · rcases List.mem_append.mp hp with hp | hp
        · exact h.2.2 p (List.mem_of_mem_take hp)
        · rw [List.mem_singleton.mp hp]; exact h.2.2 _ (getD_mem (emod_lt h.2.1).1).2
      · exact h.2.2 p (List.mem_of_mem_drop hp)
    · refine ⟨by rw [List.length_set]; omega, fun p hp => ?_⟩
      rcases List.mem_or_eq_of_mem_set hp with hp | rfl
      · exact h.2.2 p hp
      · exact SPLs_ok _ (getD_mem (show (c % 16).toNat < SPLs.length from (emod_lt (n := 16) (by decide)).1)).2
def t_lspl : Tr := fun xs Δ k _ => Δ = [] ∧ ∃ (ps : List Str) (a b c : Int), xs = [wl (strD ps), wl [.int a, .int b, .int c]] ∧ MedL ps ∧ k (ws (mk (packL (spoilP ps a b c)))) []
theorem txs_getI {l : List Str} {i : Nat} {z : Str} (h : l[i]? = some z) : (txs l)[i]? = some (ws z) := by
  unfold txs
  rw [List.getElem?_map, List.getElem?_map, h]
  rfl
theorem txs_eraseI (l : List Str) (i : Nat) : (txs l).eraseIdx i = txs (l.eraseIdx i) := by
  unfold txs
  rw [erase_map, erase_map]
structure FlB (cs : List Fl) (n : Nat) : Prop where
  nd : (cs.map (·.1)).Nodup
  ln : cs.length ≤ n
  ok : ∀ p ∈ cs, okF p.1 p.2 = true ∧ p.1.length ≤ 12 ∧ p.2.length ≤ 400 ∧ Asc (tl p.1) ∧ Asc (tl p.2)
theorem okN_asc {z : Str} (h : okN z = true) : z.length ≤ 12 ∧ Asc (tl z) := by
  unfold okN at h
  rw [Bool.and_eq_true, Bool.and_eq_true] at h
  have hN : ∀ c ∈ tl NS, c < 128 := by decide +kernel
  exact ⟨of_decide_eq_true h.1.2, fun c hc => hN c (of_decide_eq_true (List.all_eq_true.mp h.2 c hc))⟩
theorem Few.b {cs : List Fl} {m : Nat} (h : Few cs m) : FlB cs m := ⟨h.nd, h.ln, fun p hp => by
  have h1 := h.ok p hp
  have h2 := okN_asc h1.1
  exact ⟨okF_of h1.1 (by omega), h2.1, h1.2, h2.2, h.so p hp⟩⟩
theorem FlB.put {cs : List Fl} {n : Nat} (h : FlB cs n) {k v : Str} (h1 : okN k = true) (h2 : v.length ≤ 400) (h3 : Asc (tl v)) : FlB (putF cs k v) (n + 1) := by
  obtain ⟨a, b⟩ := putF_nd (k := k) (v := v) h.nd
  refine ⟨a, Nat.le_trans b (Nat.add_le_add_right h.ln 1), fun p hp => ?_⟩
  rcases putF_mem.mp hp with rfl | ⟨m, _⟩
  · have h4 := okN_asc h1
    exact ⟨okF_of h1 (by show v.length ≤ _; omega), h4.1, h2, h4.2, h3⟩
  · exact h.ok p m
theorem FlB.a {cs : List Fl} {n : Nat} (h : FlB cs n) (hn : n ≤ 1000) : FlA cs := ⟨h.nd, Nat.le_trans h.ln hn, fun p hp => by
  have := h.ok p hp
  exact ⟨by omega, by omega, this.2.2.2⟩⟩
theorem FlB.fs {cs : List Fl} {n : Nat} (h : FlB cs n) : okFs cs = decide (cs.length ≤ 30) := by
  unfold okFs
  rw [List.all_eq_true.mpr fun p hp => (h.ok p hp).1, Bool.and_true]
theorem n_ok : ∀ k ∈ List.range 32, okN (Str.ofString "n" ++ nm k) = true ∧ (Str.ofString "n").length + (nm k).length ≤ 100 := by decide +kernel
def TWL : List Str := ["t1", "t2", "t3", "t1", "t2", "t3", "t0", "t4", "home", ""]
theorem TWL_ok : ∀ z ∈ TWL, PyData.strOk z = true := by decide +kernel
def dueL (z : Str) (q m : Int) (cs : List Fl) : List Str := if ¬ (z ∈ twN ∧ evI q = true) then ["ask", "done", "part"] else if ¬ evI m = true then ["done", "part"] else if 30 < cs.length then ["part"] else []
theorem due_eq {z : Str} {q m : Int} {cs : List Fl} {n : Nat} (h : FlB cs n) : dueS z q m cs = dueL z q m cs := by
  unfold dueS dueL
  by_cases h1 : z ∈ twN ∧ evI q = true
  · rw [orS_y h1, if_neg (not_not_intro h1)]
    by_cases h2 : evI m = true
    · rw [orS_y ⟨h1.1, h1.2, h2⟩, if_neg (not_not_intro h2)]
      have hp : partOk z q m cs = decide (cs.length ≤ 30) := by unfold partOk; rw [decide_eq_true h1.1, h1.2, h2, h.fs]; rfl
      by_cases h3 : cs.length ≤ 30
      · rw [orS_y (by rw [hp]; exact decide_eq_true h3), if_neg (by omega)]; rfl
      · rw [orS_n (by rw [hp]; simpa using h3), if_pos (by omega)]; rfl
    · have hp : ¬ partOk z q m cs = true := by unfold partOk; simp [h2]
      rw [orS_n (fun e => h2 e.2.2), orS_n hp, if_pos h2]; rfl
  · have hp : ¬ partOk z q m cs = true := by
      unfold partOk
      intro e
      rw [Bool.and_eq_true, Bool.and_eq_true] at e
      exact h1 ⟨of_decide_eq_true e.1, e.2.1⟩
    rw [orS_n h1, orS_n (fun e => h1 ⟨e.1, e.2.1⟩), orS_n hp, if_pos h1]; rfl
theorem dueL_ok (z : Str) (q m : Int) (cs : List Fl) : ∀ p ∈ dueL z q m cs, PyData.strOk p = true := by
  have h : ∀ p ∈ (["ask", "done", "part"] : List Str), PyData.strOk p = true := by decide +kernel
  intro p hp
  unfold dueL at hp
  split at hp
  · exact h p hp
  · split at hp
    · exact h p (List.mem_cons_of_mem _ hp)
    · split at hp
      · exact h p (List.mem_cons_of_mem _ (List.mem_cons_of_mem _ hp))
      · cases hp
theorem dueL_nil {z : Str} {q m : Int} {cs : List Fl} (h : dueL z q m cs = []) : z ∈ twN ∧ evI q = true ∧ evI m = true ∧ cs.length ≤ 30 := by
  unfold dueL at h
  split at h
  · cases h
  · rename_i h1
    split at h
    · cases h
    · rename_i h2
      split at h
      · cases h
      · rename_i h3
        have h1 := Classical.not_not.mp h1
        exact ⟨h1.1, h1.2, Classical.not_not.mp h2, by omega⟩
/-- the parts that the law packs -/
structure PkL (ps : List Str) : Prop where
  m : MedL ps
  r : ∃ ds, rdLet (mk (packL ps)) = some ds
theorem pk_first {z : Str} {n : Nat} (hz : z ∈ twN) (n1 : 1 ≤ n) (n9 : n < 10 ^ 9) : PkL ["ask", z, nm n] := by
  have w : ∀ {p : Str}, p.length ≤ 12 ∧ Asc (tl p) → p.length ≤ 400 ∧ Asc (tl p) := fun h => ⟨by have := h.1; omega, h.2⟩
  have hM : MedL ["ask", z, nm n] := ⟨by simp, by simp, all_cons (w (lit_ok "ask" (by simp))) (all_cons (w (tw_ok hz)) (all_cons (w (nm_ok n9)) all_nil))⟩
  refine ⟨hM, ?_⟩
  rw [rd_pack (med_pk (by have := hM.1; omega) hM.2.2).1]
  unfold ltrR
  rw [shp_ask]
  have e1 := ev_nm n1 n9
  simp only [List.all_cons, List.all_nil, e1, decide_eq_true hz]
  exact ⟨_, rfl⟩
theorem pk_second {z : Str} {n o : Nat} (hz : z ∈ twN) (n1 : 1 ≤ n) (n9 : n < 10 ^ 9) (o1 : 1 ≤ o) (o9 : o < 10 ^ 9) : PkL ["done", z, nm n, nm o] := by
  have w : ∀ {p : Str}, p.length ≤ 12 ∧ Asc (tl p) → p.length ≤ 400 ∧ Asc (tl p) := fun h => ⟨by have := h.1; omega, h.2⟩
  have hM : MedL ["done", z, nm n, nm o] := ⟨by simp, by simp, all_cons (w (lit_ok "done" (by simp))) (all_cons (w (tw_ok hz)) (all_cons (w (nm_ok n9)) (all_cons (w (nm_ok o9)) all_nil)))⟩
  refine ⟨hM, ?_⟩
  rw [rd_pack (med_pk (by have := hM.1; omega) hM.2.2).1]
  unfold ltrR
  rw [shp_done]
  have e1 := ev_nm n1 n9
  have e2 := ev_nm o1 o9
  simp only [List.all_cons, List.all_nil, e1, e2, decide_eq_true hz]
  exact ⟨_, rfl⟩
theorem pk_third {z a b c d : Str} {n o : Nat} (hz : z ∈ twN) (n1 : 1 ≤ n) (n9 : n < 10 ^ 9) (o1 : 1 ≤ o) (o9 : o < 10 ^ 9) (h4 : ∀ p ∈ [a, b, c, d], p.length ≤ 400 ∧ Asc (tl p)) (hr : rowOk a b c d = true) : PkL ["part", z, nm n, nm o, a, b, c, d] := by
  have w : ∀ {p : Str}, p.length ≤ 12 ∧ Asc (tl p) → p.length ≤ 400 ∧ Asc (tl p) := fun h => ⟨by have := h.1; omega, h.2⟩
  have hM : MedL ["part", z, nm n, nm o, a, b, c, d] := ⟨by simp, by simp, all_cons (w (lit_ok "part" (by simp))) (all_cons (w (tw_ok hz)) (all_cons (w (nm_ok n9)) (all_cons (w (nm_ok o9)) h4)))⟩
  refine ⟨hM, ?_⟩
  rw [rd_pack (med_pk (by have := hM.1; omega) hM.2.2).1]
  unfold ltrR
  rw [shp_part]
  have e1 := ev_nm n1 n9
  have e2 := ev_nm o1 o9
  simp only [List.all_cons, List.all_nil, e1, e2, decide_eq_true hz, rowsOk, hr]
  exact ⟨_, rfl⟩
theorem sgn_asc : ∀ c ∈ tl (SA ++ SB), c < 128 := fun c hc => of_decide_eq_true (List.all_eq_true.mp SAB_lt c hc)
theorem cut_from6 (z : Str) (n : Nat) : cutS z (some (n : Int)) none = mk ((tl z).drop n) := by
  refine str_ext ?_
  rw [tlmk]
  unfold cutS
  show ((tl z).drop _).take _ = _
  rw [HT.sIx_none, HT.sIx_nat, ← tl_len, List.take_of_length_le (by rw [List.length_drop]; exact Nat.le_refl _)]
  by_cases h : n ≤ (tl z).length
  · rw [Nat.min_eq_left h]
  · rw [Nat.min_eq_right (by omega), List.drop_eq_nil_of_le (Nat.le_refl _), List.drop_eq_nil_of_le (by omega)]
theorem ranges30 {ns : List Int} (h : ns.length = 30) (j : Nat) (hj : j < 30) : atI ((ns.map PyData.int).map W.d) (j : Int) = some (wi (ns.getD j 0)) := atI_int (i := (j : Int)) (by omega) (by omega)
theorem slice3 {ns : List Int} (h : ns.length = 30) : cutW ((ns.map PyData.int).map W.d) (some 6) (some 9) = ([PyData.int (ns.getD 6 0), .int (ns.getD 7 0), .int (ns.getD 8 0)]).map W.d := by
  rcases ns with _ | ⟨a0, _ | ⟨a1, _ | ⟨a2, _ | ⟨a3, _ | ⟨a4, _ | ⟨a5, _ | ⟨a6, _ | ⟨a7, _ | ⟨a8, l⟩⟩⟩⟩⟩⟩⟩⟩⟩
  all_goals try (simp at h; done)
  have hl : l.length = 21 := by simpa using h
  unfold cutW
  rw [show (some (6 : Int)) = some ((6 : Nat) : Int) from rfl, show (some (9 : Int)) = some ((9 : Nat) : Int) from rfl, HT.sIx_nat, HT.sIx_nat, List.length_map, List.length_map, h]
  rfl
section
variable {P : Program} {w : World} {K : PySem.W.Frag} {mg : Str → Option Value} {base : Heap}
abbrev s__law_numbers : Stmt := topS 32
theorem sc__law_numbers : FnScope ["script", "many", "numbers", "k", "cell", "j", "mixed", "base", "last"] ["script", "many"] (defScope s__law_numbers) := ⟨rfl, rfl, rfl, by decide +kernel, rfl, by decide +kernel, by decide +kernel⟩
set_option maxHeartbeats 4000000 in
theorem ok__law_numbers {f : Addr} {fd : FuncData} (F : Fun K "_law_numbers" "_law_numbers" s__law_numbers f fd) (hg : mg "_law_numbers" = some (.ref f)) (hb : Binds K fd ["script", "many"] []) (z_range : mg "range" = none) (z_len : mg "len" = none) (z_abs : mg "abs" = none) (z_int : mg "int" = none) (z_max : mg "max" = none) : Kn P w K mg base CX0 1 "_law_numbers" ["script", "many"] t_numbers := by
  refine kn_of F hg hb sc__law_numbers (fun xs Δ k ex h => (by obtain ⟨_, _, _, rfl, _⟩ := h; rfl)) (fun cdv A outer s H E hr => ⟨_, (pss_cons (ps_set (i := 2) sc__law_numbers.nd rfl (.inl rfl) (pe_lst pa_nil))
      (pss_cons (ps_for PassesOwn.never rfl (pi_range1 (by rfl) z_range (pa_cons (pe_cB (lenK K) z_len (by decide +kernel) (pa_cons (pv 0) pa_nil)) pa_nil)) (pg_name (i := 3) sc__law_numbers.nd rfl (.inl rfl)) (pss_cons (ps_set (i := 4) sc__law_numbers.nd rfl (.inl rfl) (pe_cB call_abs z_abs (by decide +kernel) (pa_cons (pe_cT call_int1 z_int (by decide +kernel) (pa_cons (pe_ix (ixK K) (pv 0) (pv 3) (fun _ _ => rfl)) pa_nil)) pa_nil)))
      (pss_one (ps_if (pt_cmpR op_geU (pv 4) (pe_op op_pow pe_int pe_int) (nomark _)) (pss_one (ps_for PassesOwn.never rfl (pi_range1 (by rfl) z_range (pa_cons pe_int pa_nil)) (pg_name (i := 5) sc__law_numbers.nd rfl (.inl rfl)) (pss_one (ps_if (PW.pt (pw_and (pt_cmpR op_gtU (pv 4) pe_int (nomark _)) (pw_and1 (pt_cmpR op_ltU (pe_cB (lenK K) z_len (by decide +kernel) (pa_cons (pv 2) pa_nil)) (pv 1) (nomark _))))) (pss_cons (ps_expr (bmK K PySem.F.plainAttrs_list PySem.F.slot_list_append PySem.F.type_list_append mt_append (pv 2) (pa_cons (pe_op op_mod (pv 4) pe_int) pa_nil)))
      (pss_one (ps_set (i := 4) sc__law_numbers.nd rfl (.inl rfl) (pe_op op_fdiv (pv 4) pe_int)))) pss_nil)))) (pss_one (ps_if (pt_cmpR op_ltU (pe_cB (lenK K) z_len (by decide +kernel) (pa_cons (pv 2) pa_nil)) (pv 1) (nomark _)) (pss_cons (ps_set (i := 6) sc__law_numbers.nd rfl (.inl rfl) (pe_op op_mod (pe_cT call_int1 z_int (by decide +kernel) (pa_cons (pe_op op_addU (pe_op op_addU (pe_op op_mulU (pv 4) pe_int) (pe_op op_mulU (pv 3) pe_int)) pe_int) pa_nil)) pe_int))
      (pss_one (ps_expr (bmK K PySem.F.plainAttrs_list PySem.F.slot_list_append PySem.F.type_list_append mt_append (pv 2) (pa_cons (pe_op op_fdiv (pe_op op_mod (pe_cT call_int1 z_int (by decide +kernel) (pa_cons (pe_op op_addU (pe_op op_addU (pe_op op_mulU (pv 6) pe_int) (pe_op op_mulU pe_int (pv 3))) pe_int) pa_nil)) pe_int) pe_int) pa_nil))))) pss_nil))))))
      (pss_cons (ps_set (i := 7) sc__law_numbers.nd rfl (.inl rfl) (pe_cB (lenK K) z_len (by decide +kernel) (pa_cons (pv 2) pa_nil)))
      (pss_cons (ps_set (i := 8) sc__law_numbers.nd rfl (.inl rfl) (pe_op op_addU pe_int (pe_cB (lenK K) z_len (by decide +kernel) (pa_cons (pv 0) pa_nil))))
      (pss_cons (ps_for PassesOwn.never rfl (pi_range1 (by rfl) z_range (pa_cons (pe_cB (call_max2 rfl) z_max (by decide +kernel) (pa_cons pe_int (pa_cons (pe_op op_sub (pv 1) (pv 7)) pa_nil))) pa_nil)) (pg_name (i := 3) sc__law_numbers.nd rfl (.inl rfl)) (pss_cons (ps_if (pt_cmpR op_gtU (pv 7) pe_int (nomark _)) (pss_one (ps_set (i := 8) sc__law_numbers.nd rfl (.inl rfl) (pe_op op_addU (pv 8) (pe_ix (ixK K) (pv 2) (pe_op op_mod (pv 3) (pv 7)) (fun _ _ => rfl))))) pss_nil)
      (pss_cons (ps_set (i := 8) sc__law_numbers.nd rfl (.inl rfl) (pe_op op_mod (pe_cT call_int1 z_int (by decide +kernel) (pa_cons (pe_op op_addU (pe_op op_mulU (pv 8) pe_int) (pv 3)) pa_nil)) pe_int))
      (pss_one (ps_expr (bmK K PySem.F.plainAttrs_list PySem.F.slot_list_append PySem.F.type_list_append mt_append (pv 2) (pa_cons (pe_op op_fdiv (pv 8) pe_int) pa_nil)))))))
      (pss_one (ps_ret (pe_slice (slK K) (pv 2) po_none (po_some (pv 1)))))))))), ?_⟩)
  rintro xs Δ k ex ⟨rfl, sc, m, rfl, hsc, hm, hk⟩
  walk_at "Dgo"
  refine hq_new (evf_lst ea_nil (by walk_at "Dsz")) fun a _ => ?_
  have hL : ((sc.map fun n => W.d (.int n)).length : Int) = (sc.length : Int) := by simp
  refine hq_forR (ea_cons (ev_cb' (ea_cons (ev_var rfl) ea_nil) (by walk_at "Drc")) ea_nil) (by rw [hL]; omega) (fun i s' => ∃ ns : List Int, ns.length ≤ m ∧ Rg ns ∧ s' = ⟨[some (.sc sc), some (wi (m : Int)), some (.o a), none, none, none, none, none, none], [(a, .lst ((ns.map .int).map .d))]⟩) ⟨_, ⟨[], by simp, Rg.nil, rfl⟩, by walk_at "Dle"⟩ ?_ ?_
  · rintro i s' hi ⟨ns, hn, hg, rfl⟩
    rw [hL] at hi
    have hx := atI_sc (ns := sc) (i := i) (by omega)
    refine ⟨_, gs_name, ?_⟩
    refine hq_asg (ev_cb' (ea_cons (ev_cb' (ea_cons (ev_op (ev_var rfl) (ev_var rfl) (by walk_at "Drv")) ea_nil) (by walk_at "Drc")) ea_nil) (by walk_at "Drc")) ?_
    refine hs_if (et_test (ev_op (ev_var rfl) (ev_op ev_ci ev_ci (by walk_at "Drv")) (by walk_at "Drv"))) (fun _ => ?_) (fun _ => ?_)
    · refine hl_forR (ea_cons ev_ci ea_nil) (by decide) (fun j s' => ∃ (ns : List Int) (c : Int), ns.length ≤ m ∧ Rg ns ∧ s' = ⟨[some (.sc sc), some (wi (m : Int)), some (.o a), some (wi (i : Int)), some (wi c), none, none, none, none], [(a, .lst ((ns.map .int).map .d))]⟩) ⟨_, ⟨ns, _, hn, hg, rfl⟩, by walk_at "Dle"⟩ ?_ ?_
      · rintro j s' hj ⟨ns, c, hn, hg, rfl⟩
        refine ⟨_, gs_name, ?_⟩
        have hl : ((ns.map PyData.int).map W.d).length < sizeLine := by rw [wls_len, sizeLine_eq]; omega
        refine hs_if (et_and (et_test (ev_op (ev_var rfl) ev_ci (by walk_at "Drv"))) (fun _ => (et_test (ev_op (ev_cb' (ea_cons (ev_var rfl) ea_nil) (by walk_at "Drc")) (ev_var rfl) (by walk_at "Drv"))))) (fun hb => ?_) (fun _ => hs_next (Le.refl _) ⟨_, ⟨ns, c, hn, hg, rfl⟩, by walk_at "Dle"⟩)
        have h6 : ns.length < m := by
          rw [Bool.and_eq_true] at hb
          have := of_decide_eq_true hb.2
          rw [wls_len] at this
          omega
        refine hq_app (n := 0) rfl (ev_var rfl) (ev_op (ev_var rfl) ev_ci (by walk_at "Drv")) hl ?_
        exact hs_asg (ev_op (ev_var rfl) ev_ci (by walk_at "Drv")) ⟨_, ⟨ns ++ [c % 10007], _, by rw [List.length_append]; simp; omega, hg.snoc (Int.emod_nonneg _ (by decide)) (Int.lt_trans (Int.emod_lt_of_pos _ (by decide)) (by decide)), by rw [← wls_snoc]; rfl⟩, by walk_at "Dle"⟩
      · rintro s' ⟨ns, c, hn, hg, rfl⟩
        exact ⟨_, ⟨ns, hn, hg, rfl⟩, by walk_at "Dle"⟩
    · have hl : ((ns.map PyData.int).map W.d).length < sizeLine := by rw [wls_len, sizeLine_eq]; omega
      refine hs_if (et_test (ev_op (ev_cb' (ea_cons (ev_var rfl) ea_nil) (by walk_at "Drc")) (ev_var rfl) (by walk_at "Drv"))) (fun hb => ?_) (fun _ => hs_next (Le.refl _) ⟨_, ⟨ns, hn, hg, rfl⟩, by walk_at "Dle"⟩)
      have h6 : ns.length < m := by
        have := of_decide_eq_true hb
        rw [wls_len] at this
        omega
      refine hq_asg (ev_op (ev_cb' (ea_cons (ev_op (ev_op (ev_op (ev_var rfl) ev_ci (by walk_at "Drv")) (ev_op (ev_var rfl) ev_ci (by walk_at "Drv")) (by walk_at "Drv")) ev_ci (by walk_at "Drv")) ea_nil) (by walk_at "Drc")) ev_ci (by walk_at "Drv")) ?_
      refine hs_app (n := 0) rfl (ev_var rfl) (ev_op (ev_op (ev_cb' (ea_cons (ev_op (ev_op (ev_op (ev_var rfl) ev_ci (by walk_at "Drv")) (ev_op ev_ci (ev_var rfl) (by walk_at "Drv")) (by walk_at "Drv")) ev_ci (by walk_at "Drv")) ea_nil) (by walk_at "Drc")) ev_ci (by walk_at "Drv")) ev_ci (by walk_at "Drv")) hl ?_
      exact ⟨_, ⟨ns ++ [_], by rw [List.length_append]; simp; omega, hg.snoc (v := (((if sc.getD i 0 < 0 then -sc.getD i 0 else sc.getD i 0) * 48271 + (i : Int) * 69621 + 11) % 2147483647 * 16807 + 7 * (i : Int) + 3) % 2147483647 / 3) (by omega) (by omega), by rw [← wls_snoc]; rfl⟩, by walk_at "Dle"⟩
  rintro s' ⟨ns, hn, hg, rfl⟩
  refine hq_asg (ev_cb' (ea_cons (ev_var rfl) ea_nil) (by walk_at "Drc")) ?_
  rw [wls_len]
  refine hq_asg (ev_op ev_ci (ev_cb' (ea_cons (ev_var rfl) ea_nil) (by walk_at "Drc")) (by walk_at "Drv")) ?_
  have hm' : (if (m : Int) - (ns.length : Int) > 0 then (m : Int) - (ns.length : Int) else 0) = ((m - ns.length : Nat) : Int) := by split <;> omega
  refine hq_forR (n := ((m - ns.length : Nat) : Int)) (by rw [← hm']; exact (ea_cons (ev_cb' (ea_cons ev_ci (ea_cons (ev_op (ev_var rfl) (ev_var rfl) (by walk_at "Drv")) ea_nil)) (by walk_at "Drc")) ea_nil)) (by omega) (fun i s' => ∃ (ms : List Int) (l : Int), ms.length = ns.length + i ∧ Rg ms ∧ (0 ≤ l) ∧ s' = ⟨[some (.sc sc), some (wi (m : Int)), some (.o a), none, none, none, none, some (wi (ns.length : Int)), some (wi l)], [(a, .lst ((ms.map .int).map .d))]⟩) ⟨_, ⟨ns, 5381 + ((sc.map fun n => W.d (.int n)).length : Int), rfl, hg, by omega, rfl⟩, by walk_at "Dle"⟩ ?_ ?_
  · rintro i s' hi ⟨ms, l, hl0, hg, hl1, rfl⟩
    have hl : ((ms.map PyData.int).map W.d).length < sizeLine := by rw [wls_len, sizeLine_eq]; omega
    refine ⟨_, gs_name, ?_⟩
    refine hs_seq (M := fun s' => ∃ l : Int, s' = ⟨[some (.sc sc), some (wi (m : Int)), some (.o a), some (wi (i : Int)), none, none, none, some (wi (ns.length : Int)), some (wi l)], [(a, .lst ((ms.map .int).map .d))]⟩) ?_ ?_
    · refine hs_if (et_test (ev_op (ev_var rfl) ev_ci (by walk_at "Drv"))) (fun hb => ?_) (fun _ => hs_next (Le.refl _) ⟨_, rfl⟩)
      have hb' : (0 : Int) < (ns.length : Int) := of_decide_eq_true hb
      have hx := atI_int (ns := ms) (i := (i : Int) % (ns.length : Int)) (Int.emod_nonneg _ (by omega)) (by have := Int.emod_lt_of_pos (i : Int) hb'; omega)
      have hbb : (ns.length : Int) < 1073741824 := by omega
      exact hs_asg (ev_op (ev_var rfl) (ev_op (ev_var rfl) (ev_op (ev_var rfl) (ev_var rfl) (by walk_at "Drv")) (by walk_at "Drv")) (by walk_at "Drv")) ⟨_, rfl⟩
    rintro s' ⟨l, rfl⟩
    refine hq_asg (ev_op (ev_cb' (ea_cons (ev_op (ev_op (ev_var rfl) ev_ci (by walk_at "Drv")) (ev_var rfl) (by walk_at "Drv")) ea_nil) (by walk_at "Drc")) ev_ci (by walk_at "Drv")) ?_
    have q0 : 0 ≤ (l * 48271 + (i : Int)) % 2147483647 := Int.emod_nonneg _ (by decide)
    have q1 : (l * 48271 + (i : Int)) % 2147483647 < 2147483647 := Int.emod_lt_of_pos _ (by decide)
    refine hs_app (n := 0) rfl (ev_var rfl) (ev_op (ev_var rfl) ev_ci (by walk_at "Drv")) hl ?_
    exact ⟨_, ⟨ms ++ [_], _, by rw [List.length_append, hl0]; simp; omega, hg.snoc (v := (l * 48271 + (i : Int)) % 2147483647 / 7) (by omega) (by omega), q0, by rw [← wls_snoc]; rfl⟩, by walk_at "Dle"⟩
  rintro s' ⟨ms, l, hl0, hg, _, rfl⟩
  have h6 : ms.length = m := by omega
  have hcut : cutW ((ms.map PyData.int).map W.d) none (some (m : Int)) = (ms.map PyData.int).map W.d := by
    have e6 : ((ms.map PyData.int).map W.d).length = m := by rw [wls_len, h6]
    unfold cutW
    rw [e6, HT.sIx_none, HT.sIx_nat, List.drop_zero, List.take_of_length_le (by omega)]
  refine hs_ret0 (EvF.ev (evf_is (evf_slL (ev_var rfl) (lv_o 0 rfl) eo_none (eo_some (ev_var rfl))) hcut)) ?_
  exact hk ms h6 hg
abbrev s_check_file : Stmt := topS 15
theorem sc_check_file : FnScope ["name", "data", "c"] ["name", "data"] (defScope s_check_file) := ⟨rfl, rfl, rfl, by decide +kernel, rfl, by decide +kernel, by decide +kernel⟩
set_option maxHeartbeats 4000000 in
theorem ok_check_file {f : Addr} {fd : FuncData} (F : Fun K "check_file" "check_file" s_check_file f fd) (hg : mg "check_file" = some (.ref f)) (hb : Binds K fd ["name", "data"] []) {C_NotAllowed : Addr} (z_len : mg "len" = none) (c_MAX_FILE_NAME : Cst mg "MAX_FILE_NAME" (.int 12)) (c_NAME_SIGNS : Cst mg "NAME_SIGNS" (.str "abcdefghijklmnopqrstuvwxyz0123456789-")) (c_MAX_DATA : Cst mg "MAX_DATA" (.int 4000)) (x_NotAllowed : Exc K mg "NotAllowed" C_NotAllowed) : Kn P w K mg base (L2N.CX P w) 1 "check_file" ["name", "data"] (t_check C_NotAllowed) := by
  refine kn_ofN F hg hb sc_check_file (fun xs Δ k ex h => (by obtain ⟨_, _, _, rfl, _⟩ := h; rfl)) (fun cdv A outer s H E hr => ⟨_, (pss_cons (ps_if (PW.pt (pw_or (pt_cmpR op_ltU (pe_cB (lenK K) z_len (by decide +kernel) (pa_cons (pv 0) pa_nil)) pe_int (nomark _)) (pw_or1 (pt_cmpR op_gtU (pe_cB (lenK K) z_len (by decide +kernel) (pa_cons (pv 0) pa_nil)) (pe_cst c_MAX_FILE_NAME) (nomark _))))) (pss_one (ps_raiseDN rfl (L2N.takes_of rfl rfl rfl rfl) x_NotAllowed)) pss_nil)
      (pss_cons (ps_for (passes_of rfl) rfl (pi_str (pv 0)) (pg_name (i := 2) sc_check_file.nd rfl (.inl rfl)) (pss_one (ps_if (pt_cmpR op_notIn_sign (pv 2) (pe_cst c_NAME_SIGNS) (by rfl)) (pss_one (ps_raiseDN rfl (L2N.takes_of rfl rfl rfl rfl) x_NotAllowed)) pss_nil)))
      (pss_one (ps_if (pt_cmpR op_gtU (pe_cB (lenK K) z_len (by decide +kernel) (pa_cons (pv 1) pa_nil)) (pe_cst c_MAX_DATA) (nomark _)) (pss_one (ps_raiseDN rfl (L2N.takes_of rfl rfl rfl rfl) x_NotAllowed)) pss_nil)))), ?_⟩)
  rintro xs Δ k ex ⟨rfl, z, d, rfl, hz, hd, hk, hx⟩
  walk_at "Dgo"
  have hz1 : z.length ≤ sizeLine := by rw [sizeLine_eq]; omega
  have hd1 : d.length ≤ sizeLine := by rw [sizeLine_eq]; omega
  refine hq_if (et_or (et_test (ev_op (ev_cb' (ea_cons (ev_var rfl) ea_nil) (by walk_at "Drc")) ev_ci (by walk_at "Drv"))) (fun _ => (et_test (ev_op (ev_cb' (ea_cons (ev_var rfl) ea_nil) (by walk_at "Drc")) ev_ci (by walk_at "Drv"))))) (fun hb => hq_raise (hx ?_)) (fun hb => hq_nil ?_)
  · unfold okF okN
    rcases Bool.or_eq_true .. ▸ hb with h | h
    · have := of_decide_eq_true h
      rw [decide_eq_false (show ¬ 1 ≤ z.length by omega)]
      rfl
    · have := of_decide_eq_true h
      rw [decide_eq_false (show ¬ z.length ≤ 12 by omega), Bool.and_false]
      rfl
  rw [Bool.or_eq_false_iff] at hb
  have g1 := of_decide_eq_false hb.1
  have g2 := of_decide_eq_false hb.2
  refine hq_forS (ev_var rfl) (fun i s' => ((tl z).take i).all (fun c => decide (c ∈ tl NS)) = true ∧ s' = ⟨[some (ws z), some (ws d), none], []⟩) ⟨_, ⟨rfl, rfl⟩, by walk_at "Dle"⟩ ?_ ?_
  · rintro i c s' hc ⟨ha, rfl⟩
    refine ⟨_, gs_name, ?_⟩
    refine hs_if (et_test (ev_op (ev_var rfl) ev_cs (by walk_at "Drv"))) (fun hb => hs_raise (hx ?_)) (fun hb => hs_next (Le.refl _) ⟨_, ⟨?_, rfl⟩, by walk_at "Dle"⟩)
    · have hn : c ∉ tl NS := by
        intro h
        have : decide (c ∈ tl NS) = true := decide_eq_true h
        rw [show (!decide (c ∈ tl (Str.ofString "abcdefghijklmnopqrstuvwxyz0123456789-"))) = !decide (c ∈ tl NS) from rfl, this] at hb
        cases hb
      unfold okF okN
      have : (tl z).all (fun c => decide (c ∈ tl NS)) = false := by
        refine Bool.eq_false_iff.mpr fun h => hn (of_decide_eq_true (List.all_eq_true.mp h c (List.mem_of_getElem? (cps_tl hc))))
      rw [this, Bool.and_false]
      rfl
    · rw [take_snoc (cps_tl hc), List.all_append, ha]
      have : decide (c ∈ tl NS) = true := by
        have h2 : (!decide (c ∈ tl NS)) = false := hb
        simpa using h2
      rw [List.all_cons, List.all_nil, this]
      rfl
  rintro s' ⟨ha, rfl⟩
  rw [tl_take] at ha
  have hN : okN z = true := by
    unfold okN
    rw [ha, decide_eq_true (by omega), decide_eq_true (by omega)]
    rfl
  refine hs_if (et_test (ev_op (ev_cb' (ea_cons (ev_var rfl) ea_nil) (by walk_at "Drc")) ev_ci (by walk_at "Drv"))) (fun hb => hs_raise (hx ?_)) (fun hb => hs_next (Le.refl _) (hk ?_))
  · have := of_decide_eq_true hb
    unfold okF
    rw [decide_eq_false (show ¬ d.length ≤ 4000 by omega), Bool.and_false]
  · have := of_decide_eq_false hb
    unfold okF
    rw [hN, decide_eq_true (show d.length ≤ 4000 by omega)]
    rfl
abbrev s__law_signs : Stmt := topS 33
theorem sc__law_signs : FnScope ["signs"] [] (defScope s__law_signs) := ⟨rfl, rfl, rfl, by decide +kernel, rfl, by decide +kernel, by decide +kernel⟩
set_option maxHeartbeats 4000000 in
theorem ok__law_signs {f : Addr} {fd : FuncData} (F : Fun K "_law_signs" "_law_signs" s__law_signs f fd) (hg : mg "_law_signs" = some (.ref f)) (hb : Binds K fd [] []) : Kn P w K mg base CX0 1 "_law_signs" [] t_signs := by
  refine kn_of F hg hb sc__law_signs (fun xs Δ k ex h => (by obtain ⟨_, rfl, _⟩ := h; rfl)) (fun cdv A outer s H E hr => ⟨_, (pss_cons (ps_set (i := 0) sc__law_signs.nd rfl (.inl rfl) pe_str)
      (pss_one (ps_ret (pe_op op_addU (pv 0) pe_str)))), ?_⟩)
  rintro xs Δ k ex ⟨rfl, rfl, hk⟩
  walk_at "Dgo"
  have hz : SA.length + SB.length ≤ sizeLine := by decide +kernel
  refine hq_asg ev_cs ?_
  exact hs_ret0 (ev_op (ev_var rfl) ev_cs (rv_addS hz)) hk
abbrev s__law_text : Stmt := topS 34
theorem sc__law_text : FnScope ["number", "size", "signs", "step", "j"] ["number", "size"] (defScope s__law_text) := ⟨rfl, rfl, rfl, by decide +kernel, rfl, by decide +kernel, by decide +kernel⟩
set_option maxHeartbeats 4000000 in
theorem ok__law_text {f : Addr} {fd : FuncData} (F : Fun K "_law_text" "_law_text" s__law_text f fd) (hg : mg "_law_text" = some (.ref f)) (hb : Binds K fd ["number", "size"] []) (z_range : mg "range" = none) (z_int : mg "int" = none) (n__law_signs : Kn P w K mg base CX0 1 "_law_signs" [] t_signs) : Kn P w K mg base CX0 2 "_law_text" ["number", "size"] t_text := by
  refine kn_of F hg hb sc__law_text (fun xs Δ k ex h => (by obtain ⟨_, _, _, rfl, _⟩ := h; rfl)) (fun cdv A outer s H E hr => ⟨_, (pss_cons (ps_set (i := 2) sc__law_text.nd rfl (.inr rfl) (pe_kn0 n__law_signs hr (by decide) pass0))
      (pss_cons (ps_set (i := 3) sc__law_text.nd rfl (.inr rfl) (pe_op op_addU pe_int (pe_op op_mod (pv 0) pe_int)))
      (pss_one (ps_ret (bmK K PySem.F.plainAttrs_str PySem.F.slot_str_join PySem.F.type_str_join mt_join pe_str (pa_cons (pe_lc (own := [("j", 4)]) (g := gName 4) (tt := tYes) rfl sc__law_text.nd (pi_range1 (by rfl) z_range (pa_cons (pv 1) pa_nil)) (blkOk_by (own := [("j", 4)]) (N := ["number", "size", "signs", "step", "j"]) (sc := defScope s__law_text) (by decide +kernel)) (fun _ _ _ _ _ => pg_name (i := 4) sc__law_text.nd rfl (.inl rfl)) (fun _ _ _ _ _ => pts_nil) (fun _ _ _ _ _ => (pe_ix (ixK K) (pv 2) (pe_op op_mod (pe_cT call_int1 z_int (by decide +kernel) (pa_cons (pe_op op_addU (pe_op op_addU (pv 0) (pe_op op_mulU (pv 4) (pv 3))) (pe_op op_mulU (pv 4) (pv 4))) pa_nil)) pe_int) (fun _ _ => rfl)))) pa_nil)))))), ?_⟩)
  rintro xs Δ k ex ⟨rfl, n, size, rfl, h0, h1, hk⟩
  walk_at "Dgo"
  refine hq_asg (ev_call ea_nil (by walk_at "Dcall")) ?_
  refine hq_asg (ev_op ev_ci (ev_op (ev_var rfl) ev_ci (by walk_at "Drv")) (by walk_at "Drv")) ?_
  have hZ : (SA ++ SB).length ≤ sizeLine := by rw [SAB_len, sizeLine_eq]; omega
  refine hs_ret0 (ev_bm ev_cs tyw_s (ea_cons (evf_lcRS (fun k => ⟨#[signs94 ((n + (k : Int) * (1 + n % 89) + (k : Int) * (k : Int)) % 94)]⟩) (ea_cons (ev_var rfl) ea_nil) (by omega) (by omega) (by decide) (fun i hi => ?_)).ev ea_nil) (rm_join ?_)) ?_
  · have hx : atI (SA ++ SB).cps.toList ((n + (i : Int) * (1 + n % 89) + (i : Int) * (i : Int)) % 94) = some (signs94 ((n + (i : Int) * (1 + n % 89) + (i : Int) * (i : Int)) % 94)) := atI_signs (SA ++ SB) (i := (n + (i : Int) * (1 + n % 89) + (i : Int) * (i : Int)) % 94) (Int.emod_nonneg _ (by decide)) (by rw [SAB_len]; exact Int.emod_lt_of_pos _ (by decide))
    have hi2 : (i : Int) < 5000 := by omega
    exact (ev_op (ev_var rfl) (ev_op (ev_cb' (ea_cons (ev_op (ev_op (ev_var rfl) (ev_op (ev_var rfl) (ev_var rfl) (by walk_at "Drv")) (by walk_at "Drv")) (ev_op (ev_var rfl) (ev_var rfl) (by walk_at "Drv")) (by walk_at "Drv")) ea_nil) (by walk_at "Drc")) ev_ci (by walk_at "Drv")) (by walk_at "Drv"))
  · rw [sum_ones, List.length_map, List.length_range]
    show _ + _ * 0 ≤ _
    omega
  · rw [join_ones' _ rfl]
    exact hk
abbrev s__law_texts : Stmt := topS 35
theorem sc__law_texts : FnScope ["actual", "expected", "k"] ["actual", "expected"] (defScope s__law_texts) := ⟨rfl, rfl, rfl, by decide +kernel, rfl, by decide +kernel, by decide +kernel⟩
set_option maxHeartbeats 4000000 in
theorem ok__law_texts {f : Addr} {fd : FuncData} (F : Fun K "_law_texts" "_law_texts" s__law_texts f fd) (hg : mg "_law_texts" = some (.ref f)) (hb : Binds K fd ["actual", "expected"] []) (z_len : mg "len" = none) (z_isinstance : mg "isinstance" = none) (z_list : mg "list" = none) (z_range : mg "range" = none) (z_str : mg "str" = none) : Kn P w K mg base CX0 1 "_law_texts" ["actual", "expected"] t_texts := by
  refine kn_of F hg hb sc__law_texts (fun xs Δ k ex h => (by obtain ⟨_, _, rfl, _⟩ := h; rfl)) (fun cdv A outer s H E hr => ⟨_, (pss_cons (ps_if (PW.pt (pw_or (pt_not (pt_truK K (pe_cB (isiK K) z_isinstance (by decide +kernel) (pa_cons (pv 0) (pa_cons (pe_ty z_list boot_list) pa_nil))) (by intro _; rfl))) (pw_or1 (pt_cmpR (op_neA K hr) (pe_cB (lenK K) z_len (by decide +kernel) (pa_cons (pv 0) pa_nil)) (pe_cB (lenK K) z_len (by decide +kernel) (pa_cons (pv 1) pa_nil)) (nomark _))))) (pss_one (ps_ret pe_bl)) pss_nil)
      (pss_cons (ps_for PassesOwn.never rfl (pi_range1 (by rfl) z_range (pa_cons (pe_cB (lenK K) z_len (by decide +kernel) (pa_cons (pv 1) pa_nil)) pa_nil)) (pg_name (i := 2) sc__law_texts.nd rfl (.inl rfl)) (pss_one (ps_if (PW.pt (pw_or (pt_not (pt_truK K (pe_cB (isiK K) z_isinstance (by decide +kernel) (pa_cons (pe_ix (ixK K) (pv 0) (pv 2) (fun _ _ => rfl)) (pa_cons (pe_ty z_str boot_str) pa_nil))) (by intro _; rfl))) (pw_or1 (pt_cmpR (op_neA K hr) (pe_ix (ixK K) (pv 0) (pv 2) (fun _ _ => rfl)) (pe_ix (ixK K) (pv 1) (pv 2) (fun _ _ => rfl)) (nomark _))))) (pss_one (ps_ret pe_bl)) pss_nil)))
      (pss_one (ps_ret pe_bl)))), ?_⟩)
  rintro xs Δ k ex ⟨rfl, l, rfl, hl, hk⟩
  walk_at "Dgo"
  have hL : ((l.map PyData.str).map W.d).length = l.length := by simp
  refine hq_if (et_or (et_not (et_tb (ev_cb' (ea_cons (ev_var rfl) (ea_cons ev_cx ea_nil)) (by walk_at "Drc")))) (fun _ => (et_test (ev_op (ev_cb' (ea_cons (ev_var rfl) ea_nil) (by walk_at "Drc")) (ev_cb' (ea_cons (ev_var rfl) ea_nil) (by walk_at "Drc")) (by walk_at "Drv"))))) (fun hb => ?_) (fun _ => hq_nil ?_)
  · refine absurd hb ?_
    simp [kt]
  refine hq_forR (ea_cons (ev_cb' (ea_cons (ev_var rfl) ea_nil) (by walk_at "Drc")) ea_nil) (by rw [hL]; omega) (fun i s' => s' = ⟨[some (wl (l.map .str)), some (wl (l.map .str)), none], []⟩) ⟨_, rfl, by walk_at "Dle"⟩ ?_ ?_
  · rintro i s' hi rfl
    rw [hL] at hi
    have hx : atI ((l.map PyData.str).map W.d) (i : Int) = some (ws (l.getD (i : Int).toNat ⟨#[]⟩)) := atI_txs (by omega) hi
    refine ⟨_, gs_name, ?_⟩
    refine hs_if (et_or (et_not (et_tb (ev_cb' (ea_cons (ev_op (ev_var rfl) (ev_var rfl) (by walk_at "Drv")) (ea_cons ev_cx ea_nil)) (by walk_at "Drc")))) (fun _ => (et_test (ev_op (ev_op (ev_var rfl) (ev_var rfl) (by walk_at "Drv")) (ev_op (ev_var rfl) (ev_var rfl) (by walk_at "Drv")) (by walk_at "Drv"))))) (fun hb => ?_) (fun _ => hs_next (Le.refl _) ⟨_, rfl, by walk_at "Dle"⟩)
    refine absurd hb ?_
    simp [kt]
  rintro s' rfl
  exact hs_ret0 ev_cb hk
abbrev s__law_is_integer : Stmt := topS 36
theorem sc__law_is_integer : FnScope ["actual"] ["actual"] (defScope s__law_is_integer) := ⟨rfl, rfl, rfl, by decide +kernel, rfl, by decide +kernel, by decide +kernel⟩
set_option maxHeartbeats 4000000 in
theorem ok__law_is_integer {f : Addr} {fd : FuncData} (F : Fun K "_law_is_integer" "_law_is_integer" s__law_is_integer f fd) (hg : mg "_law_is_integer" = some (.ref f)) (hb : Binds K fd ["actual"] []) (z_isinstance : mg "isinstance" = none) (z_bool : mg "bool" = none) (z_int : mg "int" = none) : Kn P w K mg base CX0 1 "_law_is_integer" ["actual"] t_isint := by
  refine kn_of F hg hb sc__law_is_integer (fun xs Δ k ex h => (by obtain ⟨_, _, rfl, _⟩ := h; rfl)) (fun cdv A outer s H E hr => ⟨_, (pss_one (ps_ret (pe_and (pe_cB (isiK K) z_isinstance (by decide +kernel) (pa_cons (pv 0) (pa_cons (pe_ty z_int boot_int) pa_nil))) (pe_one (pe_not (pe_cB (isiK K) z_isinstance (by decide +kernel) (pa_cons (pv 0) (pa_cons (pe_ty z_bool boot_bool) pa_nil)))))))), ?_⟩)
  rintro xs Δ k ex ⟨rfl, n, rfl, hk⟩
  walk_at "Dgo"
  refine hs_ret0 (ev_andV (ev_cb' (ea_cons (ev_var rfl) (ea_cons ev_cx ea_nil)) (by walk_at "Drc")) (fun _ => (ev_notV (ev_cb' (ea_cons (ev_var rfl) (ea_cons ev_cx ea_nil)) (by walk_at "Drc"))))) ?_
  exact hk
abbrev s__law_name : Stmt := topS 37
theorem sc__law_name : FnScope ["number", "names"] ["number"] (defScope s__law_name) := ⟨rfl, rfl, rfl, by decide +kernel, rfl, by decide +kernel, by decide +kernel⟩
set_option maxHeartbeats 4000000 in
theorem ok__law_name {f : Addr} {fd : FuncData} (F : Fun K "_law_name" "_law_name" s__law_name f fd) (hg : mg "_law_name" = some (.ref f)) (hb : Binds K fd ["number"] []) : Kn P w K mg base CX0 1 "_law_name" ["number"] t_lname := by
  refine kn_of F hg hb sc__law_name (fun xs Δ k ex h => (by obtain ⟨_, _, rfl, _⟩ := h; rfl)) (fun cdv A outer s H E hr => ⟨_, (pss_cons (ps_set (i := 1) sc__law_name.nd rfl (.inl rfl) (pe_lst (pa_cons pe_str (pa_cons pe_str (pa_cons pe_str (pa_cons pe_str (pa_cons pe_str (pa_cons pe_str (pa_cons pe_str (pa_cons pe_str (pa_cons pe_str (pa_cons pe_str pa_nil))))))))))))
      (pss_one (ps_ret (pe_ix (ixK K) (pv 1) (pe_op op_mod (pv 0) pe_int) (fun _ _ => rfl))))), ?_⟩)
  rintro xs Δ k ex ⟨rfl, n, rfl, hk⟩
  walk_at "Dgo"
  refine hq_asg (w := wl (NML.map .str)) (ev_lst (ea_cons ev_cs (ea_cons ev_cs (ea_cons ev_cs (ea_cons ev_cs (ea_cons ev_cs (ea_cons ev_cs (ea_cons ev_cs (ea_cons ev_cs (ea_cons ev_cs (ea_cons ev_cs ea_nil)))))))))) (by walk_at "Dsz")) ?_
  exact hs_ret0 (ev_op (ev_var rfl) (ev_op (ev_var rfl) ev_ci (by walk_at "Drv")) (rv_ixL lv_d (nmS_at n))) hk
abbrev s_digits_number : Stmt := topS 10
theorem sc_digits_number : FnScope ["text"] ["text"] (defScope s_digits_number) := ⟨rfl, rfl, rfl, by decide +kernel, rfl, by decide +kernel, by decide +kernel⟩
set_option maxHeartbeats 4000000 in
theorem ok_digits_number {f : Addr} {fd : FuncData} (F : Fun K "digits_number" "digits_number" s_digits_number f fd) (hg : mg "digits_number" = some (.ref f)) (hb : Binds K fd ["text"] []) {C_BadForm : Addr} (z_len : mg "len" = none) (z_int : mg "int" = none) (c_MAX_DIGITS : Cst mg "MAX_DIGITS" (.int 9)) (x_BadForm : Exc K mg "BadForm" C_BadForm) : Kn P w K mg base (L2.CX P w) 1 "digits_number" ["text"] (t_digU C_BadForm) := by
  refine kn_ofX F hg hb sc_digits_number (fun xs Δ k ex h => (by obtain ⟨_, _, rfl, _⟩ := h; rfl)) (fun cdv A outer s H E hr => ⟨_, (pss_cons (ps_if (PW.pt (pw_or (pt_cmpR op_gtU (pe_cB (lenK K) z_len (by decide +kernel) (pa_cons (pv 0) pa_nil)) (pe_cst c_MAX_DIGITS) (nomark _)) (pw_or (pt_not (pt_truK K (bm0K K PySem.F.plainAttrs_str PySem.F.slot_str_isascii PySem.F.type_str_isascii mt_isascii (pv 0)) (by intro _; rfl))) (pw_or1 (pt_not (pt_truK K (bm0K K PySem.F.plainAttrs_str PySem.F.slot_str_isdigit PySem.F.type_str_isdigit mt_isdigit (pv 0)) (by intro _; rfl))))))) (pss_one (ps_raiseD rfl (takes_of rfl rfl rfl rfl) x_BadForm)) pss_nil)
      (pss_one (ps_ret (pe_cT call_int_str z_int (by decide +kernel) (pa_cons (pv 0) pa_nil))))), ?_⟩)
  rintro xs Δ k ex ⟨rfl, z, rfl, ha, hl, hk, hx⟩
  walk_at "Dgo"
  have hz : z.length ≤ sizeLine := by rw [sizeLine_eq]; omega
  have e1 := asc_is ha
  have e2 := dig_is ha
  refine hq_if (et_or (et_test (ev_op (ev_cb' (ea_cons (ev_var rfl) ea_nil) (by walk_at "Drc")) ev_ci (by walk_at "Drv"))) (fun _ => (et_or (et_not (et_tb (ev_bm0 (ev_var rfl) (by walk_at "Dty") (by walk_at "Drm")))) (fun _ => (et_not (et_tb (ev_bm0 (ev_var rfl) (by walk_at "Dty") (by walk_at "Drm")))))))) (fun hb => hq_raise (hx ?_)) (fun hb => hq_nil ?_)
  · rw [e1, e2] at hb
    unfold isDig
    rw [tl_len]
    revert hb
    cases decide (tl z ≠ []) <;> cases (tl z).all _ <;> simp <;> omega
  · have hd : isDig (tl z) = true := by
      rw [e1, e2] at hb
      unfold isDig
      rw [tl_len]
      revert hb
      cases decide (tl z ≠ []) <;> cases (tl z).all _ <;> simp <;> omega
    have hi := dig_read hd
    have h6 : z.length ≤ 640 := by have := (isDig_parts hd).2.1; rw [tl_len] at this; omega
    exact hs_ret0 (ev_cb' (ea_cons (ev_var rfl) ea_nil) (by walk_at "Drc")) (hk hd)
abbrev s_number_of : Stmt := topS 9
theorem sc_number_of : FnScope ["text", "number"] ["text"] (defScope s_number_of) := ⟨rfl, rfl, rfl, by decide +kernel, rfl, by decide +kernel, by decide +kernel⟩
set_option maxHeartbeats 4000000 in
theorem ok_number_of {f : Addr} {fd : FuncData} (F : Fun K "number_of" "number_of" s_number_of f fd) (hg : mg "number_of" = some (.ref f)) (hb : Binds K fd ["text"] []) {C_BadForm : Addr} (x_BadForm : Exc K mg "BadForm" C_BadForm) (n_digits_number : Kn P w K mg base (L2.CX P w) 1 "digits_number" ["text"] (t_digU C_BadForm)) : Kn P w K mg base (L2.CX P w) 2 "number_of" ["text"] (t_numU C_BadForm) := by
  refine kn_ofX F hg hb sc_number_of (fun xs Δ k ex h => (by obtain ⟨_, _, rfl, _⟩ := h; rfl)) (fun cdv A outer s H E hr => ⟨_, (pss_cons (ps_set (i := 1) sc_number_of.nd rfl (.inl rfl) (pe_knS n_digits_number hr (by decide) (pa_cons (pv 0) pa_nil) (takes_of rfl rfl rfl rfl)))
      (pss_cons (ps_if (PW.pt (pw_and (pt_cmpR (op_eqA K hr) (pe_ix (ixK K) (pv 0) pe_int (fun _ _ => rfl)) pe_str (nomark _)) (pw_and1 (pt_cmpR (op_neA K hr) (pv 0) pe_str (nomark _))))) (pss_one (ps_raiseD rfl (takes_of rfl rfl rfl rfl) x_BadForm)) pss_nil)
      (pss_one (ps_ret (pv 1))))), ?_⟩)
  rintro xs Δ k ex ⟨rfl, z, rfl, ha, hl, hk, hx⟩
  walk_at "Dgo"
  have hz : z.length ≤ sizeLine := by rw [sizeLine_eq]; omega
  refine hq_asgR (evr_call (ea_cons (ev_var rfl) ea_nil) ⟨rfl, z, rfl, ha, hl, fun hd => ⟨rfl, ?_⟩, fun hd => ⟨rfl, hx (by unfold isNum; rw [hd]; rfl)⟩⟩)
  have hne := (isDig_parts hd).1
  obtain ⟨c, r, e⟩ : ∃ c r, tl z = c :: r := by
    cases h : tl z with
    | nil => exact absurd h hne
    | cons c r => exact ⟨c, r, rfl⟩
  have hx0 : atI z.cps.toList 0 = some c := by
    show atI (tl z) ((0 : Nat) : Int) = some c
    rw [e]
    exact atI_nat rfl
  have e0 : decide ((⟨#[c]⟩ : Str) = Str.ofString "0") = decide (c = 48) := decide_eq_decide.mpr ⟨fun h => (List.cons.inj ((congrArg tl h).trans (rfl : tl (Str.ofString "0") = [48]))).1, fun h => by subst h; rfl⟩
  have e4 : decide (z = Str.ofString "0") = decide (tl z = [48]) := decide_eq_decide.mpr ⟨fun h => by rw [h]; rfl, fun h => str_ext (h.trans rfl)⟩
  have eN : isNum (tl z) = (!decide (c = 48) || decide (tl z = [48])) := by
    unfold isNum
    rw [hd, e]
    simp
  refine hq_if (et_and (et_test (ev_op (ev_op (ev_var rfl) ev_ci (by walk_at "Drv")) ev_cs (by walk_at "Drv"))) (fun _ => (et_test (ev_op (ev_var rfl) ev_cs (by walk_at "Drv"))))) (fun hb => hq_raise (hx ?_)) (fun hb => hq_nil (hs_ret0 (ev_var rfl) (hk ?_)))
  · rw [e0, e4] at hb
    rw [eN]
    revert hb
    cases decide (c = 48) <;> cases decide (tl z = [48]) <;> simp
  · rw [e0, e4] at hb
    rw [eN]
    revert hb
    cases decide (c = 48) <;> cases decide (tl z = [48]) <;> simp
abbrev s_part_at : Stmt := topS 8
theorem sc_part_at : FnScope ["text", "at", "colon", "begin", "end"] ["text", "at"] (defScope s_part_at) := ⟨rfl, rfl, rfl, by decide +kernel, rfl, by decide +kernel, by decide +kernel⟩
set_option maxHeartbeats 4000000 in
theorem ok_part_at {f : Addr} {fd : FuncData} (F : Fun K "part_at" "part_at" s_part_at f fd) (hg : mg "part_at" = some (.ref f)) (hb : Binds K fd ["text", "at"] []) {C_BadForm : Addr} (z_len : mg "len" = none) (c_MAX_DIGITS : Cst mg "MAX_DIGITS" (.int 9)) (x_BadForm : Exc K mg "BadForm" C_BadForm) (n_number_of : Kn P w K mg base (L2.CX P w) 2 "number_of" ["text"] (t_numU C_BadForm)) : Kn P w K mg base (L2.CX P w) 3 "part_at" ["text", "at"] (t_partU C_BadForm) := by
  refine kn_ofX F hg hb sc_part_at (fun xs Δ k ex h => (by obtain ⟨_, _, _, rfl, _⟩ := h; rfl)) (fun cdv A outer s H E hr => ⟨_, (pss_cons (ps_set (i := 2) sc_part_at.nd rfl (.inl rfl) (bmK K PySem.F.plainAttrs_str PySem.F.slot_str_find PySem.F.type_str_find mt_find4 (pv 0) (pa_cons pe_str (pa_cons (pv 1) (pa_cons (pe_op op_addU (pe_op op_addU (pv 1) (pe_cst c_MAX_DIGITS)) pe_int) pa_nil)))))
      (pss_cons (ps_if (pt_cmpR op_ltU (pv 2) pe_int (nomark _)) (pss_one (ps_raiseD rfl (takes_of rfl rfl rfl rfl) x_BadForm)) pss_nil)
      (pss_cons (ps_set (i := 3) sc_part_at.nd rfl (.inl rfl) (pe_op op_addU (pv 2) pe_int))
      (pss_cons (ps_set (i := 4) sc_part_at.nd rfl (.inl rfl) (pe_op op_addU (pv 3) (pe_knS n_number_of hr (by decide) (pa_cons (pe_slice (slK K) (pv 0) (po_some (pv 1)) (po_some (pv 2))) pa_nil) (takes_of rfl rfl rfl rfl))))
      (pss_cons (ps_if (pt_cmpR op_gtU (pv 4) (pe_cB (lenK K) z_len (by decide +kernel) (pa_cons (pv 0) pa_nil)) (nomark _)) (pss_one (ps_raiseD rfl (takes_of rfl rfl rfl rfl) x_BadForm)) pss_nil)
      (pss_one (ps_ret (pe_tup (pa_cons (pe_slice (slK K) (pv 0) (po_some (pv 3)) (po_some (pv 4))) (pa_cons (pv 4) pa_nil)))))))))), ?_⟩)
  rintro xs Δ k ex ⟨rfl, z, at', rfl, ha, hl, hat, hk, hx⟩
  walk_at "Dgo"
  have hz : z.length ≤ sizeLine := by rw [sizeLine_eq]; omega
  have gd : ∀ j, ((tl z).drop at')[j]? = (tl z)[at' + j]? := fun j => List.getElem?_drop
  have e10 : ((at' : Int) + 9 + 1) = ((at' + 10 : Nat) : Int) := by omega
  cases hi : ((tl z).drop at').findIdx? (· == 58) with
  | none =>
    have hno := idx_no hi
    have hf : Txt.findIn z (Str.ofString ":") (at' : Int) ((at' : Int) + 9 + 1) = -1 := by
      rw [colon_str, e10]
      refine find4_no hat fun i h1 h2 h3 => hno (i - at') ?_
      rw [gd, show at' + (i - at') = i by omega]
      exact h3
    refine hq_asg (ev_is (ev_bm (ev_var rfl) (by walk_at "Dty") (ea_cons ev_cs (ea_cons (ev_var rfl) (ea_cons (ev_op (ev_op (ev_var rfl) ev_ci (by walk_at "Drv")) ev_ci (by walk_at "Drv")) ea_nil))) (by walk_at "Drm")) (congrArg wi hf)) ?_
    refine hq_if (et_test (ev_op (ev_var rfl) ev_ci (by walk_at "Drv"))) (fun _ => hq_raise (hx ?_)) (fun hb => absurd hb (by decide))
    unfold partR
    rw [hi]
  | some i =>
    obtain ⟨i1, i2, i3⟩ := idx_at hi
    rw [List.length_drop, tl_len] at i2
    by_cases h10 : i < 10
    · have hf : Txt.findIn z (Str.ofString ":") (at' : Int) ((at' : Int) + 9 + 1) = ((at' + i : Nat) : Int) := by
        rw [colon_str, e10]
        refine find4_at (by omega) (by rw [← gd]; exact i1) (by omega) fun j h1 h2 h3 => i3 (j - at') (by omega) ?_
        rw [gd, show at' + (j - at') = j by omega]
        exact h3
      have hc1 : cutS z (some (at' : Int)) (some ((at' + i : Nat) : Int)) = mk (((tl z).drop at').take i) := by
        rw [cut_mid _ _ _ (by omega), Nat.add_sub_cancel_left]
      refine hq_asg (ev_is (ev_bm (ev_var rfl) (by walk_at "Dty") (ea_cons ev_cs (ea_cons (ev_var rfl) (ea_cons (ev_op (ev_op (ev_var rfl) ev_ci (by walk_at "Drv")) ev_ci (by walk_at "Drv")) ea_nil))) (by walk_at "Drm")) (congrArg wi hf)) ?_
      refine hq_if (et_test (ev_op (ev_var rfl) ev_ci (by walk_at "Drv"))) (fun hb => absurd (of_decide_eq_true hb) (by omega)) (fun _ => hq_nil ?_)
      refine hq_asg (ev_op (ev_var rfl) ev_ci (by walk_at "Drv")) ?_
      have hA : Asc (tl (mk (((tl z).drop at').take i))) := by rw [tlmk]; exact ha.cut _ _
      have hL : (mk (((tl z).drop at').take i)).length ≤ 10000 := by rw [mk_len, List.length_take]; omega
      refine hq_asgR (evr_op (ev_var rfl) (evr_call (ea_cons (ev_is (ev_slS (ev_var rfl) (eo_some (ev_var rfl)) (eo_some (ev_var rfl)) (by walk_at "Dsz")) (congrArg ws hc1)) ea_nil) ⟨rfl, _, rfl, hA, hL, fun hn => ⟨rfl, _, rv_addI, ?_⟩, fun hn => ⟨rfl, hx ?_⟩⟩))
      · rw [tlmk] at hn ⊢
        refine hq_if (et_test (ev_op (ev_var rfl) (ev_cb' (ea_cons (ev_var rfl) ea_nil) (by walk_at "Drc")) (by walk_at "Drv"))) (fun hb => hq_raise (hx ?_)) (fun hb => hq_nil ?_)
        · have hb' := of_decide_eq_true hb
          unfold partR
          rw [hi]
          refine if_neg fun h => ?_
          have := h.2
          rw [List.length_drop, tl_len] at this
          omega
        · have hb' := of_decide_eq_false hb
          have hp : partR ((tl z).drop at') = some ((((tl z).drop at').drop (i + 1)).take (valN (((tl z).drop at').take i)), ((tl z).drop at').drop (i + 1 + valN (((tl z).drop at').take i))) := by
            unfold partR
            rw [hi]
            refine if_pos ⟨hn, ?_⟩
            rw [List.length_drop, tl_len]
            omega
          have hk2 := hk _ _ hp
          generalize valN (((tl z).drop at').take i) = v at hb' hk2
          have hc2 : cutS z (some (((at' + i : Nat) : Int) + 1)) (some (((at' + i : Nat) : Int) + 1 + (v : Int))) = mk ((((tl z).drop at').drop (i + 1)).take v) := by
            rw [show (((at' + i : Nat) : Int) + 1) = ((at' + i + 1 : Nat) : Int) by omega, show (((at' + i + 1 : Nat) : Int) + (v : Int)) = ((at' + i + 1 + v : Nat) : Int) by omega, cut_mid _ _ _ (by omega), Nat.add_sub_cancel_left, List.drop_drop]
            rfl
          refine hs_ret0 (ev_tupU (ea_cons (ev_is (ev_slS (ev_var rfl) (eo_some (ev_var rfl)) (eo_some (ev_var rfl)) (by walk_at "Dsz")) (congrArg ws hc2)) (ea_cons (ev_var rfl) ea_nil)) (show 2 ≤ sizeLine by decide +kernel)) ?_
          rw [List.length_drop, List.length_drop, tl_len, show z.length - (z.length - at' - (i + 1 + v)) = at' + i + 1 + v by omega] at hk2
          rw [show (((at' + i : Nat) : Int) + 1 + (v : Int)) = ((at' + i + 1 + v : Nat) : Int) by omega]
          exact hk2
      · rw [tlmk] at hn
        unfold partR
        rw [hi]
        refine if_neg fun h => ?_
        rw [hn] at h
        exact absurd h.1 (by decide)
    · have hf : Txt.findIn z (Str.ofString ":") (at' : Int) ((at' : Int) + 9 + 1) = -1 := by
        rw [colon_str, e10]
        refine find4_no hat fun j h1 h2 h3 => i3 (j - at') (by omega) ?_
        rw [gd, show at' + (j - at') = j by omega]
        exact h3
      refine hq_asg (ev_is (ev_bm (ev_var rfl) (by walk_at "Dty") (ea_cons ev_cs (ea_cons (ev_var rfl) (ea_cons (ev_op (ev_op (ev_var rfl) ev_ci (by walk_at "Drv")) ev_ci (by walk_at "Drv")) ea_nil))) (by walk_at "Drm")) (congrArg wi hf)) ?_
      refine hq_if (et_test (ev_op (ev_var rfl) ev_ci (by walk_at "Drv"))) (fun _ => hq_raise (hx ?_)) (fun hb => absurd hb (by decide))
      unfold partR
      rw [hi]
      refine if_neg fun h => ?_
      have := (isDig_parts ((Bool.and_eq_true _ _).mp h.1).1).2.1
      rw [List.length_take, List.length_drop, tl_len] at this
      omega
abbrev s_unpack : Stmt := topS 7
theorem sc_unpack : FnScope ["text", "parts", "at", "part"] ["text"] (defScope s_unpack) := ⟨rfl, rfl, rfl, by decide +kernel, rfl, by decide +kernel, by decide +kernel⟩
set_option maxHeartbeats 4000000 in
theorem ok_unpack {f : Addr} {fd : FuncData} (F : Fun K "unpack" "unpack" s_unpack f fd) (hg : mg "unpack" = some (.ref f)) (hb : Binds K fd ["text"] []) {C_BadForm : Addr} (z_len : mg "len" = none) (n_part_at : Kn P w K mg base (L2.CX P w) 3 "part_at" ["text", "at"] (t_partU C_BadForm)) : Kn P w K mg base (L2.CX P w) 4 "unpack" ["text"] (t_unpU C_BadForm) := by
  refine kn_ofX F hg hb sc_unpack (fun xs Δ k ex h => (by obtain ⟨_, _, rfl, _⟩ := h; rfl)) (fun cdv A outer s H E hr => ⟨_, (pss_cons (ps_set (i := 1) sc_unpack.nd rfl (.inl rfl) (pe_lst pa_nil))
      (pss_cons (ps_set (i := 2) sc_unpack.nd rfl (.inl rfl) pe_int)
      (pss_cons (ps_while (passes_of rfl) (pt_cmpR op_ltU (pv 2) (pe_cB (lenK K) z_len (by decide +kernel) (pa_cons (pv 0) pa_nil)) (nomark _)) (pss_cons (ps_asg (pe_knS n_part_at hr (by decide) (pa_cons (pv 0) (pa_cons (pv 2) pa_nil)) (takes_of rfl rfl rfl rfl)) (pg_tup rfl (pgs_cons (pg_name (i := 3) sc_unpack.nd rfl (.inl rfl)) (pgs_cons (pg_name (i := 2) sc_unpack.nd rfl (.inl rfl)) pgs_nil))))
      (pss_one (ps_expr (bmK K PySem.F.plainAttrs_list PySem.F.slot_list_append PySem.F.type_list_append mt_append (pv 1) (pa_cons (pv 3) pa_nil))))))
      (pss_one (ps_ret (pv 1)))))), ?_⟩)
  rintro xs Δ k ex ⟨rfl, z, rfl, ha, hl, hk, hx⟩
  walk_at "Dgo"
  have hz : z.length ≤ sizeLine := by rw [sizeLine_eq]; omega
  refine hq_new (evf_lst ea_nil (by walk_at "Dsz")) fun a _ => ?_
  refine hq_asg ev_ci ?_
  refine hs_x0 ?_
  refine hs_seq (M := fun s' => ∃ ys t, unp (tl z) = some ys ∧ s' = ⟨[some (ws z), some (.o a), some (wi t), none], [(a, .lst ((strL ys).map .d))]⟩) (hs_while (fun m s' => ∃ (i : Nat) (ys : List (List Nat)), m = z.length - i ∧ i ≤ z.length ∧ ys.length ≤ i ∧ unp (tl z) = (unp ((tl z).drop i)).map (ys ++ ·) ∧ s' = ⟨[some (ws z), some (.o a), some (wi (i : Int)), none], [(a, .lst ((strL ys).map .d))]⟩) z.length ⟨_, ⟨0, [], by omega, by omega, Nat.le_refl _, by simp, rfl⟩, by walk_at "Dle"⟩ ?_) ?_
  · rintro m s' ⟨i, ys, rfl, hi, hy, hu, rfl⟩
    refine ⟨_, (et_test (ev_op (ev_var rfl) (ev_cb' (ea_cons (ev_var rfl) ea_nil) (by walk_at "Drc")) (by walk_at "Drv"))), fun hb => ?_, fun hb => ?_⟩
    · have hb' := of_decide_eq_true hb
      have hne : (tl z).drop i ≠ [] := fun e => by
        have := congrArg List.length e
        rw [List.length_drop, tl_len] at this
        simp at this
        omega
      refine hq_asgRG (evr_call (ea_cons (ev_var rfl) (ea_cons (ev_var rfl) ea_nil)) ⟨rfl, z, i, rfl, ha, hl, hi, fun y q hp => ⟨rfl, _, gs_tup2 gs_name gs_name, ?_⟩, fun hp => ⟨rfl, hx (by rw [hu, unp_bad hne hp]; rfl)⟩⟩)
      have hlt := partR_lt hp
      obtain ⟨n1, m1, y1, y2, y3, _⟩ := partR_sub hp
      rw [List.length_drop, tl_len] at hlt y3
      have hll : ((strL ys).map W.d).length < sizeLine := by
        simp only [strL, List.length_map]
        rw [sizeLine_eq]
        omega
      refine hs_app (n := 0) rfl (ev_var rfl) (ev_var rfl) hll ?_
      refine ⟨_, ⟨z.length - (z.length - q.length), by omega, z.length - q.length, ys ++ [y], rfl, by omega, by rw [List.length_append, List.length_singleton]; omega, ?_, by simp only [strL, List.map_append]; rfl⟩, by walk_at "Dle"⟩
      have eq : (tl z).drop (z.length - q.length) = q := by
        have hq : q.length = z.length - i - (n1 + m1) := by rw [y2, List.length_drop, List.length_drop, tl_len]
        rw [hq, show z.length - (z.length - i - (n1 + m1)) = i + (n1 + m1) by omega, ← List.drop_drop]
        exact y2.symm
      rw [hu, unp_go hp, eq, Option.map_map]
      congr 1
      funext zs
      simp
    · have hb' := of_decide_eq_false hb
      have he : (tl z).drop i = [] := List.drop_eq_nil_of_le (by rw [tl_len]; omega)
      rw [he, unp_nil] at hu
      exact ⟨ys, _, by rw [hu]; simp, rfl⟩
  · rintro s' ⟨ys, t, hu, rfl⟩
    exact hs_retO (ds := strL ys) 0 (ev_var rfl) rfl (hk ys hu)
abbrev s_pack : Stmt := topS 6
theorem sc_pack : FnScope ["parts", "part"] ["parts"] (defScope s_pack) := ⟨rfl, rfl, rfl, by decide +kernel, rfl, by decide +kernel, by decide +kernel⟩
set_option maxHeartbeats 4000000 in
theorem ok_pack {f : Addr} {fd : FuncData} (F : Fun K "pack" "pack" s_pack f fd) (hg : mg "pack" = some (.ref f)) (hb : Binds K fd ["parts"] []) (z_len : mg "len" = none) : Kn P w K mg base CX0 1 "pack" ["parts"] t_packB := by
  refine kn_of F hg hb sc_pack (fun xs Δ k ex h => (by obtain ⟨_, _, rfl, _⟩ := h; rfl)) (fun cdv A outer s H E hr => ⟨_, (pss_one (ps_ret (bmK K PySem.F.plainAttrs_str PySem.F.slot_str_join PySem.F.type_str_join mt_join pe_str (pa_cons (pe_lc (own := [("part", 1)]) (g := gName 1) (tt := tYes) rfl sc_pack.nd (pi_listK K (pv 0)) (blkOk_by (own := [("part", 1)]) (N := ["parts", "part"]) (sc := defScope s_pack) (by decide +kernel)) (fun _ _ _ _ _ => pg_name (i := 1) sc_pack.nd rfl (.inl rfl)) (fun _ _ _ _ _ => pts_nil) (fun _ _ _ _ _ => (pe_joined (PJ.cons (pe_fmt (pe_cB (lenK K) z_len (by decide +kernel) (pa_cons (pv 1) pa_nil))) (PJ.cons pe_str (PJ.cons (pe_fmt (pv 1)) PJ.nil)))))) pa_nil)))), ?_⟩)
  rintro xs Δ k ex ⟨rfl, ys, rfl, hs, hk⟩
  walk_at "Dgo"
  refine hs_ret0 (ev_bm ev_cs tyw_s (ea_cons (evf_is (evf_lcLM (fun d => match d with | .str y => .str (mk (pieceL y)) | d => d) (ev_var rfl) lv_d (by rw [strD, List.length_map]; have := hs.1; omega) (by decide) (fun d hd => ?_)) (ys := ((ys.map fun y => mk (pieceL y)).map PyData.str).map .d) ?_).ev ea_nil) (rm_join (join_roomL hs))) ?_
  · obtain ⟨y, hy, rfl⟩ := List.mem_map.mp hd
    show Ev K _ _ (ws (mk (pieceL y)))
    have h1 := (hs.2 y hy).1
    have hz : y.length ≤ sizeLine := by rw [sizeLine_eq]; omega
    have hlg : ((y.length : Nat) : Int).natAbs.log2 < 1920 := log_len (by omega)
    have hn := num_len (n := y.length) (k := 9) (by decide) (by omega)
    have z1 : (Str.empty ++ Str.ofString (toString ((y.length : Nat) : Int))).length ≤ sizeLine := by rw [empty_app, sizeLine_eq]; omega
    have hc : (Str.ofString ":").length = 1 := by decide +kernel
    have h9 := num9 (n := y.length) (by omega)
    have z2 : (Str.empty ++ Str.ofString (toString ((y.length : Nat) : Int)) ++ Str.ofString ":").length ≤ sizeLine := by
      rw [empty_app, ← tl_len, tl_append, List.length_append, tl_len, tl_len, sizeLine_eq]
      omega
    have z3 : (Str.empty ++ Str.ofString (toString ((y.length : Nat) : Int)) ++ Str.ofString ":" ++ y).length ≤ sizeLine := by
      rw [empty_app, piece_str, mk_len, pieceL_len, sizeLine_eq]
      omega
    refine ev_is (ev_joined (ej_cons (ev_fmtI (ev_cb' (ea_cons (ev_var rfl) ea_nil) (by walk_at "Drc")) (by walk_at "Dlg")) (by walk_at "Dsz") (ej_cons ev_cs (by walk_at "Dsz") (ej_cons (ev_fmtS (ev_var rfl) (by walk_at "Dsz")) (by walk_at "Dsz") ej_nil)))) (congrArg ws ?_)
    rw [empty_app, piece_str]
  · simp only [List.map_map]
    rfl
  · rw [join_pieces _ rfl]
    exact hk
abbrev s_read_event_number : Stmt := topS 29
theorem sc_read_event_number : FnScope ["text", "number"] ["text"] (defScope s_read_event_number) := ⟨rfl, rfl, rfl, by decide +kernel, rfl, by decide +kernel, by decide +kernel⟩
set_option maxHeartbeats 4000000 in
theorem ok_read_event_number {f : Addr} {fd : FuncData} (F : Fun K "read_event_number" "read_event_number" s_read_event_number f fd) (hg : mg "read_event_number" = some (.ref f)) (hb : Binds K fd ["text"] []) {C_BadForm : Addr} (x_BadForm : Exc K mg "BadForm" C_BadForm) (n_number_of : Kn P w K mg base (L2.CX P w) 2 "number_of" ["text"] (t_numU C_BadForm)) : Kn P w K mg base (L2.CX P w) 3 "read_event_number" ["text"] (t_evnum C_BadForm) := by
  refine kn_ofX F hg hb sc_read_event_number (fun xs Δ k ex h => (by obtain ⟨_, _, rfl, _⟩ := h; rfl)) (fun cdv A outer s H E hr => ⟨_, (pss_cons (ps_set (i := 1) sc_read_event_number.nd rfl (.inl rfl) (pe_knS n_number_of hr (by decide) (pa_cons (pv 0) pa_nil) (takes_of rfl rfl rfl rfl)))
      (pss_cons (ps_if (pt_cmpR op_ltU (pv 1) pe_int (nomark _)) (pss_one (ps_raiseD rfl (takes_of rfl rfl rfl rfl) x_BadForm)) pss_nil)
      (pss_one (ps_ret (pv 1))))), ?_⟩)
  rintro xs Δ k ex ⟨rfl, z, rfl, hA, hl, hk, hx⟩
  walk_at "Dgo"
  have hno : isNum (tl z) = false → isEv (tl z) = false := fun h => by unfold isEv; rw [h]; rfl
  refine hq_asgR (evr_call (ea_cons (ev_var rfl) ea_nil) ⟨rfl, z, rfl, hA, hl, fun h => ⟨rfl, ?_⟩, fun h => ⟨rfl, hx (hno h)⟩⟩)
  refine hq_if (et_test (ev_op (ev_var rfl) ev_ci (by walk_at "Drv"))) (fun hb => hq_raise (hx ?_)) (fun hb => hq_nil (hs_ret0 (ev_var rfl) (hk ?_)))
  · have := of_decide_eq_true hb
    unfold isEv
    rw [h, decide_eq_false (show ¬ 1 ≤ valN (tl z) by omega)]
    rfl
  · have := of_decide_eq_false hb
    unfold isEv
    rw [h, decide_eq_true (show 1 ≤ valN (tl z) by omega)]
    rfl
abbrev s_read_file_row : Stmt := topS 30
theorem sc_read_file_row : FnScope ["parts", "row", "index", "count", "name", "data"] ["parts"] (defScope s_read_file_row) := ⟨rfl, rfl, rfl, by decide +kernel, rfl, by decide +kernel, by decide +kernel⟩
set_option maxHeartbeats 4000000 in
theorem ok_read_file_row {f : Addr} {fd : FuncData} (F : Fun K "read_file_row" "read_file_row" s_read_file_row f fd) (hg : mg "read_file_row" = some (.ref f)) (hb : Binds K fd ["parts"] []) {C_BadForm : Addr} {C_NotAllowed : Addr} {A_NO_FILE : Addr} (c_NO_FILE : Cst mg "NO_FILE" (.ref A_NO_FILE)) (d_NO_FILE : KDat K (.ref A_NO_FILE) (.tuple [(.int 0), (.int 0), (.str ""), (.str "")])) (c_MAX_FILES : Cst mg "MAX_FILES" (.int 30)) (x_NotAllowed : Exc K mg "NotAllowed" C_NotAllowed) (x_BadForm : Exc K mg "BadForm" C_BadForm) (m_NotAllowed_NotAllowed : PySem.W.exmOne K (.ref C_NotAllowed) (.ref C_NotAllowed) = some true) (n_number_of : Kn P w K mg base (L2.CX P w) 2 "number_of" ["text"] (t_numU C_BadForm)) (n_check_file : Kn P w K mg base (L2N.CX P w) 1 "check_file" ["name", "data"] (t_check C_NotAllowed)) : Kn P w K mg base (L2.CX P w) 3 "read_file_row" ["parts"] (t_rrow C_BadForm) := by
  refine kn_ofX F hg hb sc_read_file_row (fun xs Δ k ex h => (by obtain ⟨_, _, _, _, _, rfl, _⟩ := h; rfl)) (fun cdv A outer s H E hr => ⟨_, (pss_cons (ps_set (i := 1) sc_read_file_row.nd rfl (.inl rfl) (pe_tup (pa_cons (pe_knS n_number_of hr (by decide) (pa_cons (pe_ix (ixK K) (pv 0) pe_int (fun _ _ => rfl)) pa_nil) (takes_of rfl rfl rfl rfl)) (pa_cons (pe_knS n_number_of hr (by decide) (pa_cons (pe_ix (ixK K) (pv 0) pe_int (fun _ _ => rfl)) pa_nil) (takes_of rfl rfl rfl rfl)) (pa_cons (pe_ix (ixK K) (pv 0) pe_int (fun _ _ => rfl)) (pa_cons (pe_ix (ixK K) (pv 0) pe_int (fun _ _ => rfl)) pa_nil))))))
      (pss_cons (ps_if (pt_cmpR (op_eqA K hr) (pv 1) (pe_cst c_NO_FILE) (nomark _)) (pss_one (ps_ret (pv 1))) pss_nil)
      (pss_cons (ps_asg (pv 1) (pg_tup rfl (pgs_cons (pg_name (i := 2) sc_read_file_row.nd rfl (.inl rfl)) (pgs_cons (pg_name (i := 3) sc_read_file_row.nd rfl (.inl rfl)) (pgs_cons (pg_name (i := 4) sc_read_file_row.nd rfl (.inl rfl)) (pgs_cons (pg_name (i := 5) sc_read_file_row.nd rfl (.inl rfl)) pgs_nil))))))
      (pss_cons (ps_if (PW.pt (pw_or (pt_cmpR op_geU (pv 2) (pv 3) (nomark _)) (pw_or1 (pt_cmpR op_gtU (pv 3) (pe_cst c_MAX_FILES) (nomark _))))) (pss_one (ps_raiseD rfl (takes_of rfl rfl rfl rfl) x_BadForm)) pss_nil)
      (pss_cons (ps_try_onlyXD rfl rfl ⟨rfl, by decide, .inl x_NotAllowed.g⟩ (L2H.passesAt_of rfl) (takes_of rfl rfl rfl rfl) (fun W pn xe tkn hp => (pss_one (ps_expr (pe_knN n_check_file hr (by decide) (pa_cons (pv 4) (pa_cons (pv 5) pa_nil)) tkn)))) (fun a oe cls d pn tks hot => (pss_one (ps_raiseHND hot tks x_BadForm))))
      (pss_one (ps_ret (pv 1)))))))), ?_⟩)
  rintro xs Δ k ex ⟨rfl, a, b, c, d, rfl, hT, hk, hx⟩
  walk_at "Dgo"
  have ha := hT.2 a (by simp)
  have hb := hT.2 b (by simp)
  have hc := hT.2 c (by simp)
  have hd := hT.2 d (by simp)
  have x0 : atI ((strD [a, b, c, d]).map W.d) 0 = some (ws a) := rfl
  have x1 : atI ((strD [a, b, c, d]).map W.d) 1 = some (ws b) := rfl
  have x2 : atI ((strD [a, b, c, d]).map W.d) 2 = some (ws c) := rfl
  have x3 : atI ((strD [a, b, c, d]).map W.d) 3 = some (ws d) := rfl
  have no1 : isNum (tl a) = false → rowOk a b c d = false := fun h => by unfold rowOk; rw [h]; rfl
  have no2 : isNum (tl b) = false → rowOk a b c d = false := fun h => by unfold rowOk; rw [h, Bool.and_false, Bool.false_and]
  refine hq_asgR (evr_tup (ear_cons (evr_call (ea_cons (ev_op (ev_var rfl) ev_ci (by walk_at "Drv")) ea_nil) ⟨rfl, a, rfl, ha.1, ha.2, fun h1 => ⟨rfl, ear_cons (evr_call (ea_cons (ev_op (ev_var rfl) ev_ci (by walk_at "Drv")) ea_nil) ⟨rfl, b, rfl, hb.1, hb.2, fun h2 => ⟨rfl, ear_of (ea_cons (ev_op (ev_var rfl) ev_ci (by walk_at "Drv")) (ea_cons (ev_op (ev_var rfl) ev_ci (by walk_at "Drv")) ea_nil)) ⟨rowD4 a b c d, rfl, by rw [sizeLine_eq]; simp, ?_⟩⟩, fun h => ⟨rfl, hx (no2 h)⟩⟩)⟩, fun h => ⟨rfl, hx (no1 h)⟩⟩)))
  have hok : rowOk a b c d = (decide ((valN (tl a) : Nat) = 0 ∧ (valN (tl b) : Nat) = 0 ∧ c = "" ∧ d = "") || (decide (valN (tl a) < valN (tl b) ∧ valN (tl b) ≤ 30) && okF c d)) := by
    unfold rowOk
    rw [h1, h2]
    rfl
  have sh := shaped_row (a := ((valN (tl a) : Nat) : Int)) (b := ((valN (tl b) : Nat) : Int)) hc.1 hd.1
  refine hq_if (et_is (et_test (ev_op (ev_var rfl) (ev_kd d_NO_FILE) (by walk_at "Drv"))) (eqv_row _ _ _ _)) (fun hz => hq_ret (hs_ret0 (ev_var rfl) (hk ?_))) (fun hz => hq_nil ?_)
  · have := of_decide_eq_true hz
    rw [hok, decide_eq_true ⟨by omega, by omega, this.2.2.1, this.2.2.2⟩]
    rfl
  have hok : rowOk a b c d = (decide (valN (tl a) < valN (tl b) ∧ valN (tl b) ≤ 30) && okF c d) := by
    have := of_decide_eq_false hz
    rw [hok, decide_eq_false (fun e => this ⟨by omega, by omega, e.2.2⟩), Bool.false_or]
  refine hq_asgG (ev_var rfl) (gs_tup4 gs_name gs_name gs_name gs_name) ?_
  refine hq_if (et_or (et_test (ev_op (ev_var rfl) (ev_var rfl) (by walk_at "Drv"))) (fun _ => (et_test (ev_op (ev_var rfl) ev_ci (by walk_at "Drv"))))) (fun hz => hq_raise (hx ?_)) (fun hz => hq_nil ?_)
  · rw [hok, decide_eq_false, Bool.false_and]
    rw [Bool.or_eq_true] at hz
    rcases hz with hz | hz
    · have := of_decide_eq_true hz; omega
    · have := of_decide_eq_true hz; omega
  have hok : rowOk a b c d = okF c d := by
    rw [Bool.or_eq_false_iff] at hz
    have z1 := of_decide_eq_false hz.1
    have z2 := of_decide_eq_false hz.2
    rw [hok, decide_eq_true (by omega), Bool.true_and]
  refine hs_seq (M := fun s' => okF c d = true ∧ s' = ⟨[some (wl (strD [a, b, c, d])), some (wt (rowD4 a b c d)), some (wi ((valN (tl a) : Nat) : Int)), some (wi ((valN (tl b) : Nat) : Int)), some (ws c), some (ws d)], []⟩) (hs_tryOnlyX (fun c' s' => c' = .ref C_NotAllowed ∧ okF c d = false ∧ s'.h = []) (fun Wv => ?_) (fun c' s' hx2 => ?_)) ?_
  · refine hs_dropR (evr_call (ea_cons (ev_var rfl) (ea_cons (ev_var rfl) ea_nil)) ⟨rfl, c, d, rfl, by omega, by omega, fun h => ⟨rfl, h, rfl⟩, fun h => ⟨rfl, rfl, h, rfl⟩⟩)
  · obtain ⟨rfl, h2, h3⟩ := hx2
    exact ⟨true, m_NotAllowed_NotAllowed, fun _ a' => hs_raise (by show ex _ s'.h; rw [h3]; exact hx (by rw [hok]; exact h2)), fun z => nomatch z⟩
  rintro s' ⟨h, rfl⟩
  exact hs_ret0 (ev_var rfl) (hk (by rw [hok]; exact h))
abbrev s_read_letter : Stmt := topS 28
theorem sc_read_letter : FnScope ["letter", "parts", "word", "head", "text"] ["letter"] (defScope s_read_letter) := ⟨rfl, rfl, rfl, by decide +kernel, rfl, by decide +kernel, by decide +kernel⟩
set_option maxHeartbeats 4000000 in
theorem ok_read_letter {f : Addr} {fd : FuncData} (F : Fun K "read_letter" "read_letter" s_read_letter f fd) (hg : mg "read_letter" = some (.ref f)) (hb : Binds K fd ["letter"] []) {C_BadForm : Addr} (z_len : mg "len" = none) (z_tuple : mg "tuple" = none) {A_PART_COUNTS : Addr} (c_PART_COUNTS : Cst mg "PART_COUNTS" (.ref A_PART_COUNTS)) (d_PART_COUNTS : KDicD K w A_PART_COUNTS [("ask", (.int 3)), ("part", (.int 8)), ("done", (.int 4))]) {A_TWIN_NAMES : Addr} (c_TWIN_NAMES : Cst mg "TWIN_NAMES" (.ref A_TWIN_NAMES)) (d_TWIN_NAMES : KDat K (.ref A_TWIN_NAMES) (.tuple [(.str "t1"), (.str "t2"), (.str "t3")])) (x_BadForm : Exc K mg "BadForm" C_BadForm) (n_unpack : Kn P w K mg base (L2.CX P w) 4 "unpack" ["text"] (t_unpU C_BadForm)) (n_read_event_number : Kn P w K mg base (L2.CX P w) 3 "read_event_number" ["text"] (t_evnum C_BadForm)) (n_read_file_row : Kn P w K mg base (L2.CX P w) 3 "read_file_row" ["parts"] (t_rrow C_BadForm)) : Kn P w K mg base (L2.CX P w) 5 "read_letter" ["letter"] (t_rlet C_BadForm) := by
  refine kn_ofX F hg hb sc_read_letter (fun xs Δ k ex h => (by obtain ⟨_, _, rfl, _⟩ := h; rfl)) (fun cdv A outer s H E hr => ⟨_, (pss_cons (ps_set (i := 1) sc_read_letter.nd rfl (.inl rfl) (pe_knS n_unpack hr (by decide) (pa_cons (pv 0) pa_nil) (takes_of rfl rfl rfl rfl)))
      (pss_cons (ps_set (i := 2) sc_read_letter.nd rfl (.inl rfl) (pe_ifExp (pt_truK K (pv 1) (by intro _; rfl)) (pe_ix (ixK K) (pv 1) pe_int (fun _ _ => rfl)) pe_str))
      (pss_cons (ps_if (PW.pt (pw_or (pt_cmpR (op_ninKD K w) (pv 2) (pe_cst c_PART_COUNTS) (by rfl)) (pw_or1 (pt_cmpR (op_neA K hr) (pe_cB (lenK K) z_len (by decide +kernel) (pa_cons (pv 1) pa_nil)) (pe_ix (ix_KD K w) (pe_cst c_PART_COUNTS) (pv 2) (fun _ _ => rfl)) (nomark _))))) (pss_one (ps_raiseD rfl (takes_of rfl rfl rfl rfl) x_BadForm)) pss_nil)
      (pss_cons (ps_if (pt_cmpR (op_ninT K) (pe_ix (ixK K) (pv 1) pe_int (fun _ _ => rfl)) (pe_cst c_TWIN_NAMES) (by rfl)) (pss_one (ps_raiseD rfl (takes_of rfl rfl rfl rfl) x_BadForm)) pss_nil)
      (pss_cons (ps_set (i := 3) sc_read_letter.nd rfl (.inl rfl) (pe_op op_addU (pe_slice (slK K) (pv 1) po_none (po_some pe_int)) (pe_lcX (own := [("text", 4)]) (g := gName 4) (tt := tYes) rfl rfl (takes_of rfl rfl rfl rfl) rfl sc_read_letter.nd (pi_listK K (pe_slice (slK K) (pv 1) (po_some pe_int) (po_some pe_int))) (blkOk_by (own := [("text", 4)]) (N := ["letter", "parts", "word", "head", "text"]) (sc := defScope s_read_letter) (by decide +kernel)) (fun _ _ _ _ _ => pg_name (i := 4) sc_read_letter.nd rfl (.inl rfl)) (fun _ _ _ _ _ => pts_nil) (fun _ _ _ _ _ xe hx => (pe_knC n_read_event_number hr (by decide) (pa_cons (pv 4) pa_nil) hx)))))
      (pss_one (ps_ret (pe_op (op_catAK K) (pe_cT (tupleK K) z_tuple (by decide +kernel) (pa_cons (pv 3) pa_nil)) (pe_ifExp (pt_cmpR (op_eqA K hr) (pv 2) pe_str (nomark _)) (pe_knS n_read_file_row hr (by decide) (pa_cons (pe_slice (slK K) (pv 1) (po_some pe_int) po_none) pa_nil) (takes_of rfl rfl rfl rfl)) (pe_tup pa_nil)))))))))), ?_⟩)
  rintro xs Δ k ex ⟨rfl, z, rfl, hA, hl, hk, hx⟩
  walk_at "Dgo"
  refine hq_asgR (evr_call (ea_cons (ev_var rfl) ea_nil) ⟨rfl, z, rfl, hA, hl, fun ys h => ⟨rfl, ?_⟩, fun h => ⟨rfl, hx (by unfold rdLet; rw [h]; rfl)⟩⟩)
  have hrd : rdLet z = ltrR (ys.map mk) := by unfold rdLet; rw [h]; rfl
  have hT := unp_txs hA hl h
  rw [strL_map]
  generalize ys.map mk = ps at hrd hT ⊢
  clear h
  have hd9 : KDicD K w A_PART_COUNTS kvP := d_PART_COUNTS
  rcases ps with _ | ⟨w1, r⟩
  · refine hq_asg (w := ws "") (ev_if (b := false) (et_is (et_lst (ev_var rfl) lv_d) rfl) (fun hb => by cases hb) (fun _ => ev_cs)) ?_
    refine hq_if (b := true) (et_or (a := true) (b := true) (et_is (et_test (ev_op (ev_var rfl) ev_cx (rv_ninKD hd9))) (by decide +kernel)) (fun hb => by cases hb)) (fun _ => hq_raise (hx ?_)) (fun hb => by cases hb)
    rw [hrd]; rfl
  have x0 : atI (((w1 :: r).map PyData.str).map W.d) 0 = some (ws w1) := atI_nat (j := 0) rfl
  refine hq_asg (w := ws w1) (ev_if (b := true) (et_is (et_lst (ev_var rfl) lv_d) rfl) (fun _ => (ev_op (ev_var rfl) ev_ci (by walk_at "Drv"))) (fun hb => by cases hb)) ?_
  have hlen : ((((w1 :: r).map PyData.str).map W.d).length : Int) = ((w1 :: r).length : Int) := by rw [List.length_map, List.length_map]
  cases hq : kvP.lookup w1 with
  | none =>
    refine hq_if (b := true) (et_or (a := true) (b := true) (et_is (et_test (ev_op (ev_var rfl) ev_cx (rv_ninKD hd9))) (by rw [hq]; rfl)) (fun hb => by cases hb)) (fun _ => hq_raise (hx ?_)) (fun hb => by cases hb)
    rw [hrd]; unfold ltrR; rw [shp_none hq]
  | some dn =>
    obtain ⟨n, rfl⟩ : ∃ n, dn = .int n := by
      unfold kvP at hq
      rw [List.lookup_cons] at hq
      split at hq
      · exact ⟨3, (Option.some.inj hq).symm⟩
      · rw [List.lookup_cons] at hq
        split at hq
        · exact ⟨8, (Option.some.inj hq).symm⟩
        · rw [List.lookup_cons] at hq
          split at hq
          · exact ⟨4, (Option.some.inj hq).symm⟩
          · cases hq
    have hsh := shp_no (r := r) hq
    refine hq_if (et_or (et_is (et_test (ev_op (ev_var rfl) ev_cx (rv_ninKD hd9))) (b := false) (by rw [hq]; rfl)) (fun _ => et_test (ev_op (ev_cb' (ea_cons (ev_var rfl) ea_nil) (by walk_at "Drc")) (ev_op ev_cx (ev_var rfl) (rv_ixKD hd9 hq)) rv_neI))) (fun hb => hq_raise (hx ?_)) (fun hb => hq_nil ?_)
    · rw [Bool.false_or, Bool.not_eq_true'] at hb
      have hb := of_decide_eq_false hb
      rw [hlen, hsh] at hb
      rw [hrd]; unfold ltrR
      cases h : shpL (w1 :: r) with
      | none => rfl
      | some q => rw [h] at hb; exact absurd rfl hb
    rw [Bool.false_or, Bool.not_eq_false'] at hb
    have hb := of_decide_eq_true hb
    rw [hlen, hsh] at hb
    obtain ⟨⟨w2, t, es, row⟩, hs⟩ := Option.isSome_iff_exists.mp hb
    have hS := shp_of hs
    have hrd : rdLet z = if decide (t ∈ twN) && es.all (fun e => isEv (tl e)) && rowsOk row then some ([.str w2, .str t] ++ evsD es ++ rowsQ row) else none := by rw [hrd]; unfold ltrR; rw [hs]
    generalize w1 :: r = ps at hS hT x0 ⊢
    have ew : w1 = w2 := by
      have x0' : atI ((ps.map PyData.str).map W.d) 0 = some (ws w2) := by rw [hS.e]; exact atI_nat (j := 0) rfl
      rw [x0] at x0'
      exact PyData.str.inj (W.d.inj (Option.some.inj x0'))
    subst ew
    have x1 : atI ((ps.map PyData.str).map W.d) 1 = some (ws t) := by rw [hS.e]; exact atI_nat (j := 1) rfl
    have tN : Ev K (tC (.ref A_TWIN_NAMES)) ⟨[some (ws z), some (wl (ps.map .str)), some (ws w1), none, none], []⟩ (wt (twN.map .str)) := (ev_kd d_TWIN_NAMES)
    refine hq_if (et_test (ev_op (ev_op (ev_var rfl) ev_ci (by walk_at "Drv")) tN (rv_inSq (neg := true) qv_t))) (fun hb => hq_raise (hx ?_)) (fun hb => hq_nil ?_)
    · have : ¬ t ∈ twN := by simpa using hb
      rw [hrd, decide_eq_false this]; rfl
    have hmem : t ∈ twN := by simpa using hb
    rw [decide_eq_true hmem, Bool.true_and] at hrd
    have hel := hS.l
    have c1 := hS.c1
    have c2 := hS.c2
    have c3 := hS.c3
    refine hq_asgR (evr_op (x := wl (([w1, t] : List Str).map PyData.str)) (EvF.ev (evf_is (evf_slL (ev_var rfl) lv_d eo_none (eo_some ev_ci)) c1)) (EvFR.ev (evr_lcL (j := 4) (vs := [4]) (xs := (es.map PyData.str).map W.d) (fun i out => (∀ e ∈ es.take i, isEv (tl e) = true) ∧ out = (evsD (es.take i)).map .d) (EvF.ev (evf_is (evf_slL (ev_var rfl) lv_d (eo_some ev_ci) (eo_some ev_ci)) c2)) lv_d (by rw [List.length_map, List.length_map]; omega) (by decide) ⟨(fun _ h => by cases h), rfl⟩ (fun i u out hu hol hP => ?_) (fun out hP => ?_))))
    · rw [List.getElem?_map, List.getElem?_map] at hu
      cases hp : es[i]? with
      | none => rw [hp] at hu; cases hu
      | some e =>
        rw [hp] at hu
        have hu' : ws e = u := Option.some.inj hu
        subst hu'
        obtain ⟨h1, rfl⟩ := hP
        have hz := hT.2 e (by rw [hS.e]; simp [List.mem_of_getElem? hp])
        have htk : es.take (i + 1) = es.take i ++ [e] := by rw [List.take_add_one, hp]; rfl
        refine ⟨true, et_yes, fun _ => evr_call (ea_cons (ev_var rfl) ea_nil) ⟨rfl, e, rfl, hz.1, hz.2, fun h => ⟨rfl, ?_, ?_⟩, fun h => ⟨rfl, hx ?_⟩⟩, fun hb => by cases hb⟩
        · rw [htk]
          intro e' he
          rcases List.mem_append.mp he with he | he
          · exact h1 e' he
          · rw [List.mem_singleton.mp he]; exact h
        · rw [htk]; simp
        · have : es.all (fun e => isEv (tl e)) = false := by
            rw [List.all_eq_false]
            exact ⟨e, List.mem_of_getElem? hp, by rw [h]; decide⟩
          rw [hrd, this]; rfl
    · obtain ⟨h1, rfl⟩ := hP
      rw [List.length_map, List.length_map, List.take_length] at h1 ⊢
      have hall : es.all (fun e => isEv (tl e)) = true := List.all_eq_true.mpr h1
      rw [hall, Bool.true_and] at hrd
      refine ⟨evsD es, rfl, _, rv_catD (by simp [sizeLine_eq]; omega), ?_⟩
      refine hs_retR (evr_op (x := wt ([.str w1, .str t] ++ evsD es)) (ev_cb' (ea_cons (ev_var rfl) ea_nil) (rc_tuple lv_d)) (evr_if (et_test (ev_op (ev_var rfl) ev_cs (by walk_at "Drv"))) (fun hb => ?_) (fun hb => ?_)))
      · have hb := of_decide_eq_true hb
        rcases hS.r with ⟨h2, _⟩ | ⟨_, a, b, c, d, rfl⟩
        · exact absurd hb h2
        refine evr_call (ea_cons (EvF.ev (evf_is (evf_slL (ev_var rfl) lv_d (eo_some ev_ci) eo_none) c3)) ea_nil) ⟨rfl, a, b, c, d, rfl, ⟨by simp, fun p hp => hT.2 p (by rw [hS.e]; exact List.mem_cons_of_mem _ (List.mem_cons_of_mem _ (List.mem_append_right _ hp)))⟩, fun h => ⟨rfl, _, rv_catT (by simp [sizeLine_eq]; omega), hk _ ?_⟩, fun h => ⟨rfl, hx ?_⟩⟩
        · rw [hrd]; exact if_pos h
        · rw [hrd]; exact if_neg (by show ¬ rowOk a b c d = true; rw [h]; decide)
      · have hb := of_decide_eq_false hb
        rcases hS.r with ⟨_, rfl⟩ | ⟨h2, _⟩
        · refine evr_of (show Ev K _ _ (wt []) from ev_tupU ea_nil (by decide +kernel)) ⟨_, rv_catT (by simp [sizeLine_eq]; omega), hk _ ?_⟩
          rw [hrd]; rfl
        · exact absurd h2 hb
abbrev s_check_twin : Stmt := topS 22
theorem sc_check_twin : FnScope ["twin"] ["twin"] (defScope s_check_twin) := ⟨rfl, rfl, rfl, by decide +kernel, rfl, by decide +kernel, by decide +kernel⟩
set_option maxHeartbeats 4000000 in
theorem ok_check_twin {f : Addr} {fd : FuncData} (F : Fun K "check_twin" "check_twin" s_check_twin f fd) (hg : mg "check_twin" = some (.ref f)) (hb : Binds K fd ["twin"] []) {C_NotAllowed : Addr} {A_TWIN_NAMES : Addr} (c_TWIN_NAMES : Cst mg "TWIN_NAMES" (.ref A_TWIN_NAMES)) (d_TWIN_NAMES : KDat K (.ref A_TWIN_NAMES) (.tuple [(.str "t1"), (.str "t2"), (.str "t3")])) (x_NotAllowed : Exc K mg "NotAllowed" C_NotAllowed) : Kn P w K mg base (L2.CX P w) 1 "check_twin" ["twin"] (t_ctwin C_NotAllowed) := by
  refine kn_ofX F hg hb sc_check_twin (fun xs Δ k ex h => (by obtain ⟨_, _, rfl, _⟩ := h; rfl)) (fun cdv A outer s H E hr => ⟨_, (pss_one (ps_if (pt_cmpR (op_ninT K) (pv 0) (pe_cst c_TWIN_NAMES) (by rfl)) (pss_one (ps_raiseD rfl (takes_of rfl rfl rfl rfl) x_NotAllowed)) pss_nil)), ?_⟩)
  rintro xs Δ k ex ⟨rfl, z, rfl, hk, hx⟩
  walk_at "Dgo"
  have tN : Ev K (tC (.ref A_TWIN_NAMES)) ⟨[some (ws z)], []⟩ (wt (twN.map .str)) := (ev_kd d_TWIN_NAMES)
  refine hs_if (et_test (ev_op (ev_var rfl) tN (rv_inSq (neg := true) qv_t))) (fun hb => hs_raise (hx ?_)) (fun hb => hs_next (Le.refl _) (hk ?_))
  · simpa using hb
  · simpa using hb
abbrev s_check_event : Stmt := topS 23
theorem sc_check_event : FnScope ["number"] ["number"] (defScope s_check_event) := ⟨rfl, rfl, rfl, by decide +kernel, rfl, by decide +kernel, by decide +kernel⟩
set_option maxHeartbeats 4000000 in
theorem ok_check_event {f : Addr} {fd : FuncData} (F : Fun K "check_event" "check_event" s_check_event f fd) (hg : mg "check_event" = some (.ref f)) (hb : Binds K fd ["number"] []) {C_NotAllowed : Addr} (c_MAX_EVENT : Cst mg "MAX_EVENT" (.int 999999999)) (x_NotAllowed : Exc K mg "NotAllowed" C_NotAllowed) : Kn P w K mg base (L2.CX P w) 1 "check_event" ["number"] (t_cevent C_NotAllowed) := by
  refine kn_ofX F hg hb sc_check_event (fun xs Δ k ex h => (by obtain ⟨_, _, rfl, _⟩ := h; rfl)) (fun cdv A outer s H E hr => ⟨_, (pss_one (ps_if (PW.pt (pw_or (pt_cmpR op_ltU (pv 0) pe_int (nomark _)) (pw_or1 (pt_cmpR op_gtU (pv 0) (pe_cst c_MAX_EVENT) (nomark _))))) (pss_one (ps_raiseD rfl (takes_of rfl rfl rfl rfl) x_NotAllowed)) pss_nil)), ?_⟩)
  rintro xs Δ k ex ⟨rfl, q, rfl, hk, hx⟩
  walk_at "Dgo"
  refine hs_if (et_or (et_test (ev_op (ev_var rfl) ev_ci (by walk_at "Drv"))) (fun _ => (et_test (ev_op (ev_var rfl) ev_ci (by walk_at "Drv"))))) (fun hb => hs_raise (hx ?_)) (fun hb => hs_next (Le.refl _) (hk ?_))
  · unfold evI
    rw [Bool.or_eq_true] at hb
    rcases hb with hb | hb
    · rw [decide_eq_false (show ¬ 1 ≤ q by have := of_decide_eq_true hb; omega)]; rfl
    · rw [decide_eq_false (show ¬ q ≤ 999999999 by have := of_decide_eq_true hb; omega), Bool.and_false]
  · unfold evI
    rw [Bool.or_eq_false_iff] at hb
    have h1 := of_decide_eq_false hb.1
    have h2 := of_decide_eq_false hb.2
    rw [decide_eq_true (show 1 ≤ q by omega), decide_eq_true (show q ≤ 999999999 by omega)]
    rfl
abbrev s_ask_letter : Stmt := topS 24
theorem sc_ask_letter : FnScope ["twin", "question"] ["twin", "question"] (defScope s_ask_letter) := ⟨rfl, rfl, rfl, by decide +kernel, rfl, by decide +kernel, by decide +kernel⟩
set_option maxHeartbeats 4000000 in
theorem ok_ask_letter {f : Addr} {fd : FuncData} (F : Fun K "ask_letter" "ask_letter" s_ask_letter f fd) (hg : mg "ask_letter" = some (.ref f)) (hb : Binds K fd ["twin", "question"] []) {C_NotAllowed : Addr} (z_str : mg "str" = none) (n_check_twin : Kn P w K mg base (L2.CX P w) 1 "check_twin" ["twin"] (t_ctwin C_NotAllowed)) (n_check_event : Kn P w K mg base (L2.CX P w) 1 "check_event" ["number"] (t_cevent C_NotAllowed)) (n_pack : Kn P w K mg base CX0 1 "pack" ["parts"] t_packB) : Kn P w K mg base (L2.CX P w) 2 "ask_letter" ["twin", "question"] (t_askl C_NotAllowed) := by
  refine kn_ofX F hg hb sc_ask_letter (fun xs Δ k ex h => (by obtain ⟨_, _, _, rfl, _⟩ := h; rfl)) (fun cdv A outer s H E hr => ⟨_, (pss_cons (ps_expr (pe_knS n_check_twin hr (by decide) (pa_cons (pv 0) pa_nil) (takes_of rfl rfl rfl rfl)))
      (pss_cons (ps_expr (pe_knS n_check_event hr (by decide) (pa_cons (pv 1) pa_nil) (takes_of rfl rfl rfl rfl)))
      (pss_one (ps_ret (pe_kn n_pack hr (by decide) (pa_cons (pe_lst (pa_cons pe_str (pa_cons (pv 0) (pa_cons (pe_cT call_str_int z_str (by decide +kernel) (pa_cons (pv 1) pa_nil)) pa_nil)))) pa_nil) pass0))))), ?_⟩)
  rintro xs Δ k ex ⟨rfl, z, q, rfl, hk, hx⟩
  walk_at "Dgo"
  refine hq_dropR (evr_call (ea_cons (ev_var rfl) ea_nil) ⟨rfl, z, rfl, fun hz => ⟨rfl, ?_⟩, fun hz => ⟨rfl, hx (.inl hz)⟩⟩)
  refine hq_dropR (evr_call (ea_cons (ev_var rfl) ea_nil) ⟨rfl, q, rfl, fun hq => ⟨rfl, ?_⟩, fun hq => ⟨rfl, hx (.inr hq)⟩⟩)
  have hk := hk hz hq
  obtain ⟨n, rfl, n1, n9⟩ := evI_nat hq
  refine hs_ret0 (ev_call (ea_cons (ev_lst (ea_cons ev_cs (ea_cons (ev_var rfl) (ea_cons (ev_cb' (ea_cons (ev_var rfl) ea_nil) (rc_strN n9)) ea_nil))) (by rw [sizeLine_eq]; simp)) ea_nil) ⟨rfl, ["ask", z, nm n], rfl, lng_sm (by simp) (all_cons (lit_ok "ask" (by simp)) (all_cons (tw_ok hz) (all_cons (nm_ok n9) all_nil))), rfl, rfl⟩) hk
abbrev s_done_letter : Stmt := topS 25
theorem sc_done_letter : FnScope ["twin", "question", "moment"] ["twin", "question", "moment"] (defScope s_done_letter) := ⟨rfl, rfl, rfl, by decide +kernel, rfl, by decide +kernel, by decide +kernel⟩
set_option maxHeartbeats 4000000 in
theorem ok_done_letter {f : Addr} {fd : FuncData} (F : Fun K "done_letter" "done_letter" s_done_letter f fd) (hg : mg "done_letter" = some (.ref f)) (hb : Binds K fd ["twin", "question", "moment"] []) {C_NotAllowed : Addr} (z_str : mg "str" = none) (n_check_twin : Kn P w K mg base (L2.CX P w) 1 "check_twin" ["twin"] (t_ctwin C_NotAllowed)) (n_check_event : Kn P w K mg base (L2.CX P w) 1 "check_event" ["number"] (t_cevent C_NotAllowed)) (n_pack : Kn P w K mg base CX0 1 "pack" ["parts"] t_packB) : Kn P w K mg base (L2.CX P w) 2 "done_letter" ["twin", "question", "moment"] (t_donel C_NotAllowed) := by
  refine kn_ofX F hg hb sc_done_letter (fun xs Δ k ex h => (by obtain ⟨_, _, _, _, rfl, _⟩ := h; rfl)) (fun cdv A outer s H E hr => ⟨_, (pss_cons (ps_expr (pe_knS n_check_twin hr (by decide) (pa_cons (pv 0) pa_nil) (takes_of rfl rfl rfl rfl)))
      (pss_cons (ps_expr (pe_knS n_check_event hr (by decide) (pa_cons (pv 1) pa_nil) (takes_of rfl rfl rfl rfl)))
      (pss_cons (ps_expr (pe_knS n_check_event hr (by decide) (pa_cons (pv 2) pa_nil) (takes_of rfl rfl rfl rfl)))
      (pss_one (ps_ret (pe_kn n_pack hr (by decide) (pa_cons (pe_lst (pa_cons pe_str (pa_cons (pv 0) (pa_cons (pe_cT call_str_int z_str (by decide +kernel) (pa_cons (pv 1) pa_nil)) (pa_cons (pe_cT call_str_int z_str (by decide +kernel) (pa_cons (pv 2) pa_nil)) pa_nil))))) pa_nil) pass0)))))), ?_⟩)
  rintro xs Δ k ex ⟨rfl, z, q, m, rfl, hk, hx⟩
  walk_at "Dgo"
  refine hq_dropR (evr_call (ea_cons (ev_var rfl) ea_nil) ⟨rfl, z, rfl, fun hz => ⟨rfl, ?_⟩, fun hz => ⟨rfl, hx (.inl hz)⟩⟩)
  refine hq_dropR (evr_call (ea_cons (ev_var rfl) ea_nil) ⟨rfl, q, rfl, fun hq => ⟨rfl, ?_⟩, fun hq => ⟨rfl, hx (.inr (.inl hq))⟩⟩)
  refine hq_dropR (evr_call (ea_cons (ev_var rfl) ea_nil) ⟨rfl, m, rfl, fun hm => ⟨rfl, ?_⟩, fun hm => ⟨rfl, hx (.inr (.inr hm))⟩⟩)
  have hk := hk hz hq hm
  obtain ⟨n, rfl, n1, n9⟩ := evI_nat hq
  obtain ⟨o, rfl, o1, o9⟩ := evI_nat hm
  refine hs_ret0 (ev_call (ea_cons (ev_lst (ea_cons ev_cs (ea_cons (ev_var rfl) (ea_cons (ev_cb' (ea_cons (ev_var rfl) ea_nil) (rc_strN n9)) (ea_cons (ev_cb' (ea_cons (ev_var rfl) ea_nil) (rc_strN o9)) ea_nil)))) (by rw [sizeLine_eq]; simp)) ea_nil) ⟨rfl, ["done", z, nm n, nm o], rfl, lng_sm (by simp) (all_cons (lit_ok "done" (by simp)) (all_cons (tw_ok hz) (all_cons (nm_ok n9) (all_cons (nm_ok o9) all_nil)))), rfl, rfl⟩) hk
abbrev s_file_rows : Stmt := topS 27
theorem sc_file_rows : FnScope ["files", "names", "k"] ["files"] (defScope s_file_rows) := ⟨rfl, rfl, rfl, by decide +kernel, rfl, by decide +kernel, by decide +kernel⟩
set_option maxHeartbeats 4000000 in
theorem ok_file_rows {f : Addr} {fd : FuncData} (F : Fun K "file_rows" "file_rows" s_file_rows f fd) (hg : mg "file_rows" = some (.ref f)) (hb : Binds K fd ["files"] []) (z_sorted : mg "sorted" = none) (z_range : mg "range" = none) (z_len : mg "len" = none) {A_NO_FILE : Addr} (c_NO_FILE : Cst mg "NO_FILE" (.ref A_NO_FILE)) (d_NO_FILE : KDat K (.ref A_NO_FILE) (.tuple [(.int 0), (.int 0), (.str ""), (.str "")])) : Kn P w K mg base CX0 1 "file_rows" ["files"] t_frows := by
  refine kn_of F hg hb sc_file_rows (fun xs Δ k ex h => (by obtain ⟨_, _, rfl, _⟩ := h; rfl)) (fun cdv A outer s H E hr => ⟨_, (pss_cons (ps_if (pt_not (pt_truK K (pv 0) (by intro _; rfl))) (pss_one (ps_ret (pe_lst (pa_cons (pe_cst c_NO_FILE) pa_nil)))) pss_nil)
      (pss_cons (ps_set (i := 1) sc_file_rows.nd rfl (.inr rfl) (pe_cB (sortedDuK rfl hr) z_sorted (by decide +kernel) (pa_cons (pv 0) pa_nil)))
      (pss_one (ps_ret (pe_lc (own := [("k", 2)]) (g := gName 2) (tt := tYes) rfl sc_file_rows.nd (pi_range1 (by rfl) z_range (pa_cons (pe_cB (lenK K) z_len (by decide +kernel) (pa_cons (pv 1) pa_nil)) pa_nil)) (blkOk_by (own := [("k", 2)]) (N := ["files", "names", "k"]) (sc := defScope s_file_rows) (by decide +kernel)) (fun _ _ _ _ _ => pg_name (i := 2) sc_file_rows.nd rfl (.inl rfl)) (fun _ _ _ _ _ => pts_nil) (fun _ _ _ _ _ => (pe_tup (pa_cons (pv 2) (pa_cons (pe_cB (lenK K) z_len (by decide +kernel) (pa_cons (pv 1) pa_nil)) (pa_cons (pe_ix (ixK K) (pv 1) (pv 2) (fun _ _ => rfl)) (pa_cons (pe_dget (hu_of hr) (pv 0) (pe_ix (ixK K) (pv 1) (pv 2) (fun _ _ => rfl)) (fun _ _ => rfl)) pa_nil))))))))))), ?_⟩)
  rintro xs Δ k ex ⟨d, cs, rfl, rfl, hF, hk⟩
  walk_at "Dgo"
  have hln := hF.ln
  have hkeys : (cs.map kvF).map (·.1) = (cs.map (·.1)).map Sum.inr := by rw [List.map_map, List.map_map]; rfl
  refine hq_if (b := decide (cs = [])) (et_is (et_not (et_dic 0 rfl (ev_var rfl))) (by cases cs <;> simp)) (fun hb => ?_) (fun hb => hq_nil ?_)
  · have hb := of_decide_eq_true hb
    subst hb
    exact hq_ret (hs_retW (Ev.toW (EvF.ev (ds := [rw4 (0, 0, "", "")]) (evf_lst (ea_cons (ev_kd d_NO_FILE) ea_nil) (by walk_at "Dsz")))) hk)
  have hb := of_decide_eq_false hb
  have he : ptsF cs = (List.range cs.length).map fun k => (k, cs.length, (namesF cs).getD k Str.empty, lookF cs ((namesF cs).getD k Str.empty)) := if_neg hb
  rw [he, List.map_map] at hk
  refine hq_asg (w := wl ((namesF cs).map .str)) (EvF.ev (evf_cb (ea_cons (ev_var rfl) ea_nil) (rcf_sortDu (da_d 0 rfl) hkeys (by rw [List.length_map]; omega)))) ?_
  have hL : (((namesF cs).map PyData.str).map W.d).length = cs.length := by rw [List.length_map, List.length_map, namesF_len]
  refine hs_retW (Ev.toW (EvF.ev (evf_is (evf_lcRD (fun i => rw4 (i, cs.length, (namesF cs).getD i Str.empty, lookF cs ((namesF cs).getD i Str.empty))) (ea_is (ea_cons (ev_cb' (ea_cons (ev_var rfl) ea_nil) (by walk_at "Drc")) ea_nil) (by rw [hL])) (by omega) (by omega) (by decide) (fun i hi => ?_)) (by rw [Int.toNat_natCast]; rfl)))) hk
  have hi : i < cs.length := by omega
  obtain ⟨h1, h2, h3⟩ := hF.at hi
  have x0 : atI (((namesF cs).map PyData.str).map W.d) (i : Int) = some (ws ((namesF cs).getD i Str.empty)) := atI_nat (by rw [List.getElem?_map, List.getElem?_map, h2]; rfl)
  exact ev_tup (ds := [.int (i : Nat), .int (cs.length : Nat), .str ((namesF cs).getD i Str.empty), .str (lookF cs ((namesF cs).getD i Str.empty))]) (ea_cons (ev_var rfl) (ea_cons (ev_is (ev_cb' (ea_cons (ev_var rfl) ea_nil) (by walk_at "Drc")) (congrArg wi (by rw [hL]))) (ea_cons (ev_op (ev_var rfl) (ev_var rfl) (by walk_at "Drv")) (ea_cons (ev_dget (ev_var rfl) (ev_kS (ev_op (ev_var rfl) (ev_var rfl) (by walk_at "Drv"))) (da_d 0 rfl) h3) ea_nil)))) (by rw [sizeLine_eq]; simp)
abbrev s_part_letters : Stmt := topS 26
theorem sc_part_letters : FnScope ["twin", "question", "moment", "files", "name", "head", "index", "count", "data"] ["twin", "question", "moment", "files"] (defScope s_part_letters) := ⟨rfl, rfl, rfl, by decide +kernel, rfl, by decide +kernel, by decide +kernel⟩
set_option maxHeartbeats 4000000 in
theorem ok_part_letters {f : Addr} {fd : FuncData} (F : Fun K "part_letters" "part_letters" s_part_letters f fd) (hg : mg "part_letters" = some (.ref f)) (hb : Binds K fd ["twin", "question", "moment", "files"] []) {C_NotAllowed : Addr} (z_len : mg "len" = none) (z_sorted : mg "sorted" = none) (z_str : mg "str" = none) (c_MAX_FILES : Cst mg "MAX_FILES" (.int 30)) (x_NotAllowed : Exc K mg "NotAllowed" C_NotAllowed) (n_check_twin : Kn P w K mg base (L2.CX P w) 1 "check_twin" ["twin"] (t_ctwin C_NotAllowed)) (n_check_event : Kn P w K mg base (L2.CX P w) 1 "check_event" ["number"] (t_cevent C_NotAllowed)) (n_check_file : Kn P w K mg base (L2N.CX P w) 1 "check_file" ["name", "data"] (t_check C_NotAllowed)) (n_file_rows : Kn P w K mg base CX0 1 "file_rows" ["files"] t_frows) (n_pack : Kn P w K mg base CX0 1 "pack" ["parts"] t_packB) : Kn P w K mg base (L2.CX P w) 2 "part_letters" ["twin", "question", "moment", "files"] (t_plet C_NotAllowed) := by
  refine kn_ofX F hg hb sc_part_letters (fun xs Δ k ex h => (by obtain ⟨_, _, _, _, _, rfl, _⟩ := h; rfl)) (fun cdv A outer s H E hr => ⟨_, (pss_cons (ps_expr (pe_knS n_check_twin hr (by decide) (pa_cons (pv 0) pa_nil) (takes_of rfl rfl rfl rfl)))
      (pss_cons (ps_expr (pe_knS n_check_event hr (by decide) (pa_cons (pv 1) pa_nil) (takes_of rfl rfl rfl rfl)))
      (pss_cons (ps_expr (pe_knS n_check_event hr (by decide) (pa_cons (pv 2) pa_nil) (takes_of rfl rfl rfl rfl)))
      (pss_cons (ps_if (pt_cmpR op_gtU (pe_cB lenDK z_len (by decide +kernel) (pa_cons (pv 3) pa_nil)) (pe_cst c_MAX_FILES) (nomark _)) (pss_one (ps_raiseD rfl (takes_of rfl rfl rfl rfl) x_NotAllowed)) pss_nil)
      (pss_cons (ps_for (passes_of rfl) rfl (pi_listK K (pe_cB (sortedDuK rfl hr) z_sorted (by decide +kernel) (pa_cons (pv 3) pa_nil))) (pg_name (i := 4) sc_part_letters.nd rfl (.inl rfl)) (pss_one (ps_expr (pe_knN n_check_file hr (by decide) (pa_cons (pv 4) (pa_cons (pe_dget (hu_of hr) (pv 3) (pv 4) (fun _ _ => rfl)) pa_nil)) (takes_n (takes_of rfl rfl rfl rfl))))))
      (pss_cons (ps_set (i := 5) sc_part_letters.nd rfl (.inr rfl) (pe_lst (pa_cons pe_str (pa_cons (pv 0) (pa_cons (pe_cT call_str_int z_str (by decide +kernel) (pa_cons (pv 1) pa_nil)) (pa_cons (pe_cT call_str_int z_str (by decide +kernel) (pa_cons (pv 2) pa_nil)) pa_nil))))))
      (pss_one (ps_ret (pe_lc (own := [("index", 6), ("count", 7), ("name", 4), ("data", 8)]) (g := gTup K 4 (gCons (gName 6) (gCons (gName 7) (gCons (gName 4) (gCons (gName 8) gNil))))) (tt := tYes) rfl sc_part_letters.nd (pi_listK K (pe_kn n_file_rows hr (by decide) (pa_cons (pv 3) pa_nil) pass0)) (blkOk_by (own := [("index", 6), ("count", 7), ("name", 4), ("data", 8)]) (N := ["twin", "question", "moment", "files", "name", "head", "index", "count", "data"]) (sc := defScope s_part_letters) (by decide +kernel)) (fun _ _ _ _ _ => pg_tup rfl (pgs_cons (pg_name (i := 6) sc_part_letters.nd rfl (.inl rfl)) (pgs_cons (pg_name (i := 7) sc_part_letters.nd rfl (.inl rfl)) (pgs_cons (pg_name (i := 4) sc_part_letters.nd rfl (.inl rfl)) (pgs_cons (pg_name (i := 8) sc_part_letters.nd rfl (.inl rfl)) pgs_nil))))) (fun _ _ _ _ _ => pts_nil) (fun _ _ _ _ _ => (pe_kn n_pack hr (by decide) (pa_cons (pe_op op_addU (pv 5) (pe_lst (pa_cons (pe_cT call_str_int z_str (by decide +kernel) (pa_cons (pv 6) pa_nil)) (pa_cons (pe_cT call_str_int z_str (by decide +kernel) (pa_cons (pv 7) pa_nil)) (pa_cons (pv 4) (pa_cons (pv 8) pa_nil)))))) pa_nil) pass0))))))))))), ?_⟩)
  rintro xs Δ k ex ⟨d, cs, z, q, m, rfl, rfl, hF, hk, hx⟩
  walk_at "Dgo"
  have hln := hF.ln
  have hkeys : (cs.map kvF).map (·.1) = (cs.map (·.1)).map Sum.inr := by rw [List.map_map, List.map_map]; rfl
  have hL : (((namesF cs).map PyData.str).map W.d).length = cs.length := by rw [List.length_map, List.length_map, namesF_len]
  refine hq_dropR (evr_call (ea_cons (ev_var rfl) ea_nil) ⟨rfl, z, rfl, fun hz => ⟨rfl, ?_⟩, fun hz => ⟨rfl, hx (by unfold partOk; rw [decide_eq_false hz]; rfl)⟩⟩)
  refine hq_dropR (evr_call (ea_cons (ev_var rfl) ea_nil) ⟨rfl, q, rfl, fun hq => ⟨rfl, ?_⟩, fun hq => ⟨rfl, hx (by unfold partOk; rw [hq, Bool.false_and, Bool.and_false])⟩⟩)
  refine hq_dropR (evr_call (ea_cons (ev_var rfl) ea_nil) ⟨rfl, m, rfl, fun hm => ⟨rfl, ?_⟩, fun hm => ⟨rfl, hx (by unfold partOk; rw [hm, Bool.false_and, Bool.and_false, Bool.and_false])⟩⟩)
  have hok : partOk z q m cs = okFs cs := by unfold partOk; rw [decide_eq_true hz, hq, hm]; rfl
  rw [hok] at hk hx
  refine hq_if (et_test (ev_op (ev_cb' (ea_cons (ev_var rfl) ea_nil) (rc_lenD (da_d 0 rfl))) ev_ci rv_gtI)) (fun hb => hq_raise (hx ?_)) (fun hb => hq_nil ?_)
  · rw [List.length_map] at hb
    have := of_decide_eq_true hb
    unfold okFs
    rw [decide_eq_false (by omega)]
    rfl
  rw [List.length_map] at hb
  have h30 := of_decide_eq_false hb
  refine hq_forL (x := wl ((namesF cs).map .str)) (EvF.ev (evf_cb (ea_cons (ev_var rfl) ea_nil) (rcf_sortDu (da_d 0 rfl) hkeys (by rw [List.length_map]; omega)))) (fun t s' => ∃ g, (∀ k ∈ (namesF cs).take t, okF k (lookF cs k) = true) ∧ s' = ⟨[some (ws z), some (wi q), some (wi m), some (.o d), g, none, none, none, none], [(d, .dic (cs.map kvF))]⟩) ⟨_, ⟨none, by simp, rfl⟩, by walk_at "Dle"⟩ (fun t s' h => by obtain ⟨g, _, rfl⟩ := h; exact lv_d) ?_ ?_
  · rintro t u s' hu ⟨g, hg, rfl⟩
    rw [List.getElem?_map, List.getElem?_map] at hu
    cases hp : (namesF cs)[t]? with
    | none => rw [hp] at hu; cases hu
    | some o =>
      rw [hp] at hu
      have hu' : ws o = u := Option.some.inj hu
      subst hu'
      obtain ⟨hin, v0⟩ := namesF_look hF.nd (List.mem_of_getElem? hp)
      have hs : o.length ≤ 5000 ∧ (lookF cs o).length ≤ 5000 ∧ _ := hF.sz _ hin
      refine ⟨_, gs_name, ?_⟩
      refine hs_dropR (evr_call (ea_cons (ev_var rfl) (ea_cons (ev_dget (ev_var rfl) (ev_kS (ev_var rfl)) (da_d 0 rfl) v0) ea_nil)) ⟨rfl, o, lookF cs o, rfl, by have := hs.1; omega, by have := hs.2.1; omega, fun h => ⟨rfl, _, ⟨some (ws o), ?_, rfl⟩, by walk_at "Dle"⟩, fun h => ⟨rfl, hx ?_⟩⟩)
      · intro k hk
        rw [List.take_add_one, hp] at hk
        rcases List.mem_append.mp hk with hk | hk
        · exact hg k hk
        · have : k = o := by simpa using hk
          rw [this]; exact h
      · unfold okFs
        have : (cs.all fun p => okF p.1 p.2) = false := by rw [List.all_eq_false]; exact ⟨_, hin, by simpa using h⟩
        rw [this, Bool.and_false]
  rintro s' ⟨g, hg, rfl⟩
  rw [hL, ← namesF_len cs, List.take_length] at hg
  have hall : okFs cs = true := by
    unfold okFs
    rw [decide_eq_true (by omega), Bool.true_and, List.all_eq_true]
    intro p hp
    have := hg p.1 (namesF_mem.mpr (List.mem_map_of_mem hp))
    rwa [look_F hF.nd hp] at this
  have hk := hk hall
  have hpts := hF.pts
  have hlt : ∀ r ∈ ptsF cs, Lng (ltr4 z q m r) := fun r hr => ltr4_ok hz hq hm (hpts r hr)
  obtain ⟨n, rfl, n1, n9⟩ := evI_nat hq
  obtain ⟨o, rfl, o1, o9⟩ := evI_nat hm
  have hptl : (ptsF cs).length ≤ 1000 := by
    unfold ptsF
    split
    · simp
    · rw [List.length_map, List.length_range]; exact hln
  refine hq_asg (w := wl (strD ["part", z, nm n, nm o])) (ev_lst (xs := [ws "part", ws z, ws (nm n), ws (nm o)]) (ea_cons ev_cs (ea_cons (ev_var rfl) (ea_cons (ev_cb' (ea_cons (ev_var rfl) ea_nil) (rc_strN n9)) (ea_cons (ev_cb' (ea_cons (ev_var rfl) ea_nil) (rc_strN o9)) ea_nil)))) (by rw [sizeLine_eq]; simp)) ?_
  refine hs_retW (EvFW.ev (ds := strD (pletS z n o cs)) (pl_map z n o cs ▸ evfw_lc4W (0, 0, Str.empty, Str.empty) (fun r : Rw4 => .int (r.1 : Nat)) (fun r => .int (r.2.1 : Nat)) (fun r => .str r.2.2.1) (fun r => .str r.2.2.2) (fun r => .str (mk (packL (ltr4 z n o r)))) (evw_call (w := wl ((ptsF cs).map rw4)) [true] (EvA.toW (ea_cons (ev_var rfl) ea_nil)) ⟨d, cs, rfl, rfl, hF, rfl, rfl⟩) lv_d (by omega) (by decide) (by decide) (by decide) (by decide) (fun r hr => ?_))) hk
  have hr2 := hpts r hr
  have hlr := hlt r hr
  refine ev_call (ea_cons (ev_cat (ys := strD [nm r.1, nm r.2.1, r.2.2.1, r.2.2.2]) (ev_var rfl) (ev_lst (xs := [ws (nm r.1), ws (nm r.2.1), ws r.2.2.1, ws r.2.2.2]) (ea_cons (ev_cb' (ea_cons (ev_var rfl) ea_nil) (rc_strN hr2.1)) (ea_cons (ev_cb' (ea_cons (ev_var rfl) ea_nil) (rc_strN hr2.2.1)) (ea_cons (ev_var rfl) (ea_cons (ev_var rfl) ea_nil)))) (by rw [sizeLine_eq]; simp)) (by rw [sizeLine_eq]; simp)) ea_nil) ⟨rfl, ltr4 z n o r, rfl, hlr, rfl, rfl⟩
abbrev s__law_packed : Stmt := topS 40
theorem sc__law_packed : FnScope ["parts", "part"] ["parts"] (defScope s__law_packed) := ⟨rfl, rfl, rfl, by decide +kernel, rfl, by decide +kernel, by decide +kernel⟩
set_option maxHeartbeats 4000000 in
theorem ok__law_packed {f : Addr} {fd : FuncData} (F : Fun K "_law_packed" "_law_packed" s__law_packed f fd) (hg : mg "_law_packed" = some (.ref f)) (hb : Binds K fd ["parts"] []) (z_str : mg "str" = none) (z_len : mg "len" = none) : Kn P w K mg base CX0 1 "_law_packed" ["parts"] t_lpackL := by
  refine kn_of F hg hb sc__law_packed (fun xs Δ k ex h => (by obtain ⟨_, _, rfl, _⟩ := h; rfl)) (fun cdv A outer s H E hr => ⟨_, (pss_one (ps_ret (bmK K PySem.F.plainAttrs_str PySem.F.slot_str_join PySem.F.type_str_join mt_join pe_str (pa_cons (pe_lc (own := [("part", 1)]) (g := gName 1) (tt := tYes) rfl sc__law_packed.nd (pi_listK K (pv 0)) (blkOk_by (own := [("part", 1)]) (N := ["parts", "part"]) (sc := defScope s__law_packed) (by decide +kernel)) (fun _ _ _ _ _ => pg_name (i := 1) sc__law_packed.nd rfl (.inl rfl)) (fun _ _ _ _ _ => pts_nil) (fun _ _ _ _ _ => (pe_op op_addU (pe_op op_addU (pe_cT call_str_int z_str (by decide +kernel) (pa_cons (pe_cB (lenK K) z_len (by decide +kernel) (pa_cons (pv 1) pa_nil)) pa_nil)) pe_str) (pv 1)))) pa_nil)))), ?_⟩)
  rintro xs Δ k ex ⟨rfl, ys, rfl, hs, hk⟩
  walk_at "Dgo"
  refine hs_ret0 (ev_is (ev_bm ev_cs tyw_s (ea_cons (evf_is (evf_lcLM (fun d => match d with | .str y => .str (mk (pieceL y)) | d => d) (ev_var rfl) lv_d (by rw [strD, List.length_map]; have := hs.1; omega) (by decide) (fun d hd => ?_)) (ys := ((ys.map fun y => mk (pieceL y)).map PyData.str).map .d) ?_).ev ea_nil) (rm_join ?_)) (congrArg ws (join_pieces _ nosignL ys))) hk
  · obtain ⟨y, hy, rfl⟩ := List.mem_map.mp hd
    show Ev K _ _ (ws (mk (pieceL y)))
    have h1 := (hs.2 y hy).1
    have hz : y.length ≤ sizeLine := by rw [sizeLine_eq]; omega
    have hlg : ((y.length : Nat) : Int).natAbs.log2 < 1920 := log_len (by omega)
    have hn := num_len (n := y.length) (k := 9) (by decide) (by omega)
    have hc : (Str.ofString ":").length = 1 := by decide +kernel
    have hz3 : (Str.ofString (toString ((y.length : Nat) : Int)) ++ Str.ofString ":").length + y.length ≤ sizeLine := by rw [len_apL, sizeLine_eq]; omega
    refine ev_is (ev_op (ev_op (ev_cb' (ea_cons (ev_cb' (ea_cons (ev_var rfl) ea_nil) (by walk_at "Drc")) ea_nil) (by walk_at "Drc")) ev_cs (by walk_at "Drv")) (ev_var rfl) (by walk_at "Drv")) (congrArg ws ?_)
    exact piece_str y
  · simp only [List.map_map]
    rfl
  · exact join_roomL hs
abbrev s__law_is_tuple : Stmt := topS 45
theorem sc__law_is_tuple : FnScope ["told", "parts", "k"] ["told", "parts"] (defScope s__law_is_tuple) := ⟨rfl, rfl, rfl, by decide +kernel, rfl, by decide +kernel, by decide +kernel⟩
set_option maxHeartbeats 4000000 in
theorem ok__law_is_tuple {f : Addr} {fd : FuncData} (F : Fun K "_law_is_tuple" "_law_is_tuple" s__law_is_tuple f fd) (hg : mg "_law_is_tuple" = some (.ref f)) (hb : Binds K fd ["told", "parts"] []) (z_len : mg "len" = none) (z_isinstance : mg "isinstance" = none) (z_tuple : mg "tuple" = none) (z_range : mg "range" = none) (z_str : mg "str" = none) (n__law_is_integer : Kn P w K mg base CX0 1 "_law_is_integer" ["actual"] t_isint) : Kn P w K mg base CX0 2 "_law_is_tuple" ["told", "parts"] t_istup := by
  refine kn_of F hg hb sc__law_is_tuple (fun xs Δ k ex h => (by obtain ⟨_, _, _, rfl, _⟩ := h; rfl)) (fun cdv A outer s H E hr => ⟨_, (pss_cons (ps_if (PW.pt (pw_or (pt_not (pt_truK K (pe_cB (isiK K) z_isinstance (by decide +kernel) (pa_cons (pv 0) (pa_cons (pe_ty z_tuple boot_tuple) pa_nil))) (by intro _; rfl))) (pw_or1 (pt_cmpR (op_neA K hr) (pe_cB (lenK K) z_len (by decide +kernel) (pa_cons (pv 0) pa_nil)) (pe_cB (lenK K) z_len (by decide +kernel) (pa_cons (pv 1) pa_nil)) (nomark _))))) (pss_one (ps_ret pe_bl)) pss_nil)
      (pss_cons (ps_for PassesOwn.never rfl (pi_range1 (by rfl) z_range (pa_cons (pe_cB (lenK K) z_len (by decide +kernel) (pa_cons (pv 1) pa_nil)) pa_nil)) (pg_name (i := 2) sc__law_is_tuple.nd rfl (.inl rfl)) (pss_one (ps_if (pt_cmpR (op_inA K hr) (pv 2) (pe_lst (pa_cons pe_int (pa_cons pe_int (pa_cons pe_int (pa_cons pe_int pa_nil))))) (by rfl)) (pss_one (ps_if (PW.pt (pw_or (pt_not (pt_truK K (pe_kn n__law_is_integer hr (by decide) (pa_cons (pe_ix (ixK K) (pv 0) (pv 2) (fun _ _ => rfl)) pa_nil) pass0) (by intro _; rfl))) (pw_or1 (pt_cmpR (op_neA K hr) (pe_cT call_str_int z_str (by decide +kernel) (pa_cons (pe_ix (ixK K) (pv 0) (pv 2) (fun _ _ => rfl)) pa_nil)) (pe_ix (ixK K) (pv 1) (pv 2) (fun _ _ => rfl)) (nomark _))))) (pss_one (ps_ret pe_bl)) pss_nil)) (pss_one (ps_if (PW.pt (pw_or (pt_not (pt_truK K (pe_cB (isiK K) z_isinstance (by decide +kernel) (pa_cons (pe_ix (ixK K) (pv 0) (pv 2) (fun _ _ => rfl)) (pa_cons (pe_ty z_str boot_str) pa_nil))) (by intro _; rfl))) (pw_or1 (pt_cmpR (op_neA K hr) (pe_ix (ixK K) (pv 0) (pv 2) (fun _ _ => rfl)) (pe_ix (ixK K) (pv 1) (pv 2) (fun _ _ => rfl)) (nomark _))))) (pss_one (ps_ret pe_bl)) pss_nil)))))
      (pss_one (ps_ret pe_bl)))), ?_⟩)
  rintro xs Δ k ex ⟨rfl, ds, ps, rfl, hT, hl, hk⟩
  walk_at "Dgo"
  have hlen := hT.len
  have hL : ((strD ps).map W.d).length = ps.length := by rw [List.length_map, strD, List.length_map]
  refine hq_if (b := false) (et_or (a := false) (b := false) (et_is (et_not (et_tb (ev_cb' (ea_cons (ev_var rfl) (ea_cons ev_cx ea_nil)) (by walk_at "Drc")))) (by simp [kt])) fun _ => et_is (et_test (ev_op (ev_cb' (ea_cons (ev_var rfl) ea_nil) (rc_lenL qv_t)) (ev_cb' (ea_cons (ev_var rfl) ea_nil) (rc_lenL (qv_l lv_d))) rv_neI)) (by rw [hL, List.length_map, hlen]; simp)) (fun hb => by cases hb) (fun _ => hq_nil ?_)
  refine hq_forR (ea_is (ys := [wi (ps.length : Int)]) (ea_cons (ev_cb' (ea_cons (ev_var rfl) ea_nil) (by walk_at "Drc")) ea_nil) (by rw [hL])) (by omega) (fun i s' => s' = ⟨[some (wt ds), some (wl (strD ps)), none], []⟩) ⟨_, rfl, by walk_at "Dle"⟩ ?_ ?_
  · rintro i s' hi rfl
    obtain ⟨d, p, h1, h2, h3⟩ := hT.at (i := i) (by omega)
    rw [Nat.zero_add] at h3
    have x1 : atI ds (i : Int) = some d := atI_nat h1
    have x2 : atI ((strD ps).map W.d) (i : Int) = some (ws p) := atI_nat (by rw [List.getElem?_map, strD, List.getElem?_map, h2]; rfl)
    refine ⟨_, gs_name, ?_⟩
    have tst : ∀ {s0 : S} {te tf : TE}, Ev K te s0 (wi (i : Int)) → Ev K tf s0 (wl [.int 2, .int 3, .int 4, .int 5]) → Ev K (tOp (rInD K) te tf) s0 (wb (IdxI i)) := fun h1 h2 => ev_is (ev_op h1 h2 (rv_inD (d := .int (i : Int)) (ds := [.int 2, .int 3, .int 4, .int 5]) dv_d dv_d rfl rfl)) (congrArg wb (in_2345 i))
    refine hs_if (et_test (tst (ev_var rfl) (ev_lst (ea_cons ev_ci (ea_cons ev_ci (ea_cons ev_ci (ea_cons ev_ci ea_nil)))) (by walk_at "Dsz")))) (fun hb => ?_) (fun hb => ?_)
    · unfold TupAt at h3
      rw [if_pos hb] at h3
      obtain ⟨n, hn, rfl, rfl⟩ := h3
      have et : Ev K _ ⟨[some (wt ds), some (wl (strD ps)), some (wi (i : Int))], []⟩ (wi (n : Int)) := ev_op (ev_var (i := 0) rfl) (ev_var (i := 2) rfl) (rv_ixT x1)
      refine hs_if (b := false) (et_or (a := false) (b := false) (et_is (et_not (et_tb (ev_call (w := wb true) (ea_cons et ea_nil) ⟨rfl, _, rfl, rfl, rfl⟩))) rfl) fun _ => et_is (et_test (ev_op (ev_cb' (ea_cons et ea_nil) (rc_strN hn)) (ev_op (ev_var rfl) (ev_var rfl) (rv_ixL lv_d x2)) rv_neS)) (by simp)) (fun hb => by cases hb) (fun _ => hs_next (Le.refl _) ⟨_, rfl, by walk_at "Dle"⟩)
    · unfold TupAt at h3
      rw [if_neg (by rw [hb]; decide)] at h3
      subst h3
      have et : Ev K _ ⟨[some (wt ds), some (wl (strD ps)), some (wi (i : Int))], []⟩ (ws p) := ev_op (ev_var (i := 0) rfl) (ev_var (i := 2) rfl) (rv_ixT x1)
      refine hs_if (b := false) (et_or (a := false) (b := false) (et_is (et_not (et_tb (ev_cb' (ea_cons et (ea_cons ev_cx ea_nil)) (rc_isiS (by decide))))) rfl) fun _ => et_is (et_test (ev_op et (ev_op (ev_var rfl) (ev_var rfl) (rv_ixL lv_d x2)) rv_neS)) (by simp)) (fun hb => by cases hb) (fun _ => hs_next (Le.refl _) ⟨_, rfl, by walk_at "Dle"⟩)
  rintro s' rfl
  exact hs_ret0 ev_cb hk
abbrev s__law_size : Stmt := topS 38
theorem sc__law_size : FnScope ["number"] ["number"] (defScope s__law_size) := ⟨rfl, rfl, rfl, by decide +kernel, rfl, by decide +kernel, by decide +kernel⟩
set_option maxHeartbeats 4000000 in
theorem ok__law_size {f : Addr} {fd : FuncData} (F : Fun K "_law_size" "_law_size" s__law_size f fd) (hg : mg "_law_size" = some (.ref f)) (hb : Binds K fd ["number"] []) : Kn P w K mg base CX0 1 "_law_size" ["number"] t_lsize := by
  refine kn_of F hg hb sc__law_size (fun xs Δ k ex h => (by obtain ⟨_, _, rfl, _⟩ := h; rfl)) (fun cdv A outer s H E hr => ⟨_, (pss_cons (ps_if (pt_cmpR (op_eqA K hr) (pe_op op_mod (pv 0) pe_int) pe_int (nomark _)) (pss_one (ps_ret (pe_op op_mod (pe_op op_fdiv (pv 0) pe_int) pe_int))) pss_nil)
      (pss_one (ps_ret (pe_ix (ixK K) (pe_lst (pa_cons pe_int (pa_cons pe_int (pa_cons pe_int (pa_cons pe_int (pa_cons pe_int (pa_cons pe_int (pa_cons pe_int (pa_cons pe_int (pa_cons pe_int (pa_cons pe_int (pa_cons pe_int (pa_cons pe_int (pa_cons pe_int (pa_cons pe_int pa_nil))))))))))))))) (pe_op op_mod (pv 0) pe_int) (fun _ _ => rfl))))), ?_⟩)
  rintro xs Δ k ex ⟨rfl, n, rfl, hk⟩
  walk_at "Dgo"
  unfold sizeN at hk
  refine hq_if (et_test (ev_op (ev_op (ev_var rfl) ev_ci (by walk_at "Drv")) ev_ci (by walk_at "Drv"))) (fun hb => hq_ret (hs_ret0 (ev_op (ev_op (ev_var rfl) ev_ci (by walk_at "Drv")) ev_ci (by walk_at "Drv")) ?_)) (fun hb => hq_nil ?_)
  · rw [if_pos (of_decide_eq_true hb)] at hk; exact hk
  rw [if_neg (of_decide_eq_false hb)] at hk
  have h0 := Int.emod_nonneg n (b := 14) (by decide)
  have h1 := Int.emod_lt_of_pos n (b := 14) (by decide)
  refine hs_ret0 (ev_op (x := wl (SZL.map .int)) (ev_lst (ea_cons ev_ci (ea_cons ev_ci (ea_cons ev_ci (ea_cons ev_ci (ea_cons ev_ci (ea_cons ev_ci (ea_cons ev_ci (ea_cons ev_ci (ea_cons ev_ci (ea_cons ev_ci (ea_cons ev_ci (ea_cons ev_ci (ea_cons ev_ci (ea_cons ev_ci ea_nil)))))))))))))) (by walk_at "Dsz")) (ev_op (ev_var rfl) ev_ci (by walk_at "Drv")) (rv_ixL lv_d (atI_int h0 (by show _ < (14 : Int); omega)))) hk
abbrev s__law_files : Stmt := topS 39
theorem sc__law_files : FnScope ["numbers", "at", "many", "files", "k", "one"] ["numbers", "at", "many"] (defScope s__law_files) := ⟨rfl, rfl, rfl, by decide +kernel, rfl, by decide +kernel, by decide +kernel⟩
set_option maxHeartbeats 4000000 in
theorem ok__law_files {f : Addr} {fd : FuncData} (F : Fun K "_law_files" "_law_files" s__law_files f fd) (hg : mg "_law_files" = some (.ref f)) (hb : Binds K fd ["numbers", "at", "many"] []) (z_range : mg "range" = none) (n__law_name : Kn P w K mg base CX0 1 "_law_name" ["number"] t_lname) (n__law_text : Kn P w K mg base CX0 2 "_law_text" ["number", "size"] t_text) (n__law_size : Kn P w K mg base CX0 1 "_law_size" ["number"] t_lsize) : Kn P w K mg base CX0 3 "_law_files" ["numbers", "at", "many"] t_lfiles := by
  refine kn_of F hg hb sc__law_files (fun xs Δ k ex h => (by obtain ⟨_, _, _, _, rfl, _⟩ := h; rfl)) (fun cdv A outer s H E hr => ⟨_, (pss_cons (ps_set (i := 3) sc__law_files.nd rfl (.inl rfl) pe_dnewK)
      (pss_cons (ps_for PassesOwn.never rfl (pi_range1 (by rfl) z_range (pa_cons (pv 2) pa_nil)) (pg_name (i := 4) sc__law_files.nd rfl (.inl rfl)) (pss_cons (ps_set (i := 5) sc__law_files.nd rfl (.inl rfl) (pe_ix (ixK K) (pv 0) (pe_op op_addU (pv 1) (pe_op op_mulU pe_int (pv 4))) (fun _ _ => rfl)))
      (pss_one (ps_dput (hu_of hr) (pv 3) (pe_kn n__law_name hr (by decide) (pa_cons (pv 5) pa_nil) pass0) (pe_kn n__law_text hr (by decide) (pa_cons (pe_ix (ixK K) (pv 0) (pe_op op_addU (pe_op op_addU (pv 1) (pe_op op_mulU pe_int (pv 4))) pe_int) (fun _ _ => rfl)) (pa_cons (pe_kn n__law_size hr (by decide) (pa_cons (pe_op op_fdiv (pv 5) pe_int) pa_nil) pass0) pa_nil)) pass0) rfl))))
      (pss_one (ps_ret (pv 3))))), ?_⟩)
  rintro xs Δ k ex ⟨rfl, ns, a, m, rfl, hl, hm, hk⟩
  walk_at "Dgo"
  have nx : ∀ j : Nat, j < ns.length → atI ((ns.map PyData.int).map W.d) (j : Int) = some (wi (ns.getD j 0)) := fun j hj => atI_int (i := (j : Int)) (by omega) (by omega)
  refine hq_newD fun d _ => ?_
  refine hq_forR (ea_cons (ev_var rfl) ea_nil) (by omega) (fun i s' => ∃ g1 g2 cs, Few cs i ∧ s' = ⟨[some (wl (ns.map .int)), some (wi (a : Int)), some (wi (m : Int)), some (.o d), g1, g2], [(d, .dic (cs.map kvF))]⟩) ⟨_, ⟨none, none, [], ⟨List.nodup_nil, (fun _ h => by cases h), Nat.le_refl _, (fun _ h => by cases h)⟩, rfl⟩, by walk_at "Dle"⟩ ?_ ?_
  · rintro i s' hi ⟨g1, g2, cs, hS, rfl⟩
    have hi7 : i < 7 := by omega
    refine ⟨_, gs_name, ?_⟩
    have x1 : atI ((ns.map PyData.int).map W.d) ((a : Int) + 2 * (i : Int)) = some (wi (ns.getD (a + 2 * i) 0)) := by rw [show ((a : Int) + 2 * (i : Int)) = ((a + 2 * i : Nat) : Int) by omega]; exact nx _ (by omega)
    have x2 : atI ((ns.map PyData.int).map W.d) ((a : Int) + 2 * (i : Int) + 1) = some (wi (ns.getD (a + 2 * i + 1) 0)) := by rw [show ((a : Int) + 2 * (i : Int) + 1) = ((a + 2 * i + 1 : Nat) : Int) by omega]; exact nx _ (by omega)
    refine hq_asg (ev_op (ev_var rfl) (ev_op (ev_var rfl) (ev_op ev_ci (ev_var rfl) (by walk_at "Drv")) (by walk_at "Drv")) (by walk_at "Drv")) ?_
    generalize ns.getD (a + 2 * i) 0 = one
    generalize ns.getD (a + 2 * i + 1) 0 = two at x2
    have hln := hS.ln
    obtain ⟨hs0, hs1⟩ := sizeN_ok (one / 10)
    refine hs_dput (n := 0) (kvs := cs.map kvF) (key := .inr (nmS one)) rfl (ev_call (w := ws (textN two (sizeN (one / 10)).toNat)) (ea_cons (ev_op (ev_var rfl) (ev_op (ev_op (ev_var rfl) (ev_op ev_ci (ev_var rfl) (by walk_at "Drv")) (by walk_at "Drv")) ev_ci (by walk_at "Drv")) (by walk_at "Drv")) (ea_cons (ev_call (ea_cons (ev_op (ev_var rfl) ev_ci (by walk_at "Drv")) ea_nil) ⟨rfl, _, rfl, rfl, rfl⟩) ea_nil)) (call_text hs0 (by omega))) (ev_var rfl) (ev_kS (ev_call (ea_cons (ev_var rfl) ea_nil) ⟨rfl, _, rfl, rfl, rfl⟩)) (by rw [List.length_map, sizeLine_eq]; omega) ?_
    exact ⟨_, ⟨some (wi (i : Int)), _, _, hS.put (nmS_ok _) (v := textN two (sizeN (one / 10)).toNat) (by rw [textN_len]; omega) (textN_lt _ _), by rw [putF_K]; rfl⟩, by walk_at "Dle"⟩
  rintro s' ⟨g1, g2, cs, hS, rfl⟩
  rw [Int.toNat_natCast] at hS
  exact hs_retW (Ev.toW (ev_var rfl)) (hk d cs hS)
abbrev s__law_event : Stmt := topS 41
theorem sc__law_event : FnScope ["number"] ["number"] (defScope s__law_event) := ⟨rfl, rfl, rfl, by decide +kernel, rfl, by decide +kernel, by decide +kernel⟩
set_option maxHeartbeats 4000000 in
theorem ok__law_event {f : Addr} {fd : FuncData} (F : Fun K "_law_event" "_law_event" s__law_event f fd) (hg : mg "_law_event" = some (.ref f)) (hb : Binds K fd ["number"] []) : Kn P w K mg base CX0 1 "_law_event" ["number"] t_levent := by
  refine kn_of F hg hb sc__law_event (fun xs Δ k ex h => (by obtain ⟨_, _, rfl, _⟩ := h; rfl)) (fun cdv A outer s H E hr => ⟨_, (pss_cons (ps_if (pt_cmpR (op_eqA K hr) (pe_op op_mod (pv 0) pe_int) pe_int (nomark _)) (pss_one (ps_ret (pe_ix (ixK K) (pe_lst (pa_cons pe_int (pa_cons (pe_un un_neg pe_int) (pa_cons pe_int (pa_cons pe_int (pa_cons pe_int pa_nil)))))) (pe_op op_mod (pe_op op_fdiv (pv 0) pe_int) pe_int) (fun _ _ => rfl)))) pss_nil)
      (pss_one (ps_ret (pe_op op_addU pe_int (pe_op op_mod (pe_op op_mulU (pv 0) pe_int) pe_int))))), ?_⟩)
  rintro xs Δ k ex ⟨rfl, n, rfl, hk⟩
  walk_at "Dgo"
  unfold levF at hk
  refine hq_if (et_test (ev_op (ev_op (ev_var rfl) ev_ci (by walk_at "Drv")) ev_ci (by walk_at "Drv"))) (fun hb => hq_ret ?_) (fun hb => hq_nil ?_)
  · rw [if_pos (of_decide_eq_true hb)] at hk
    exact hs_ret0 (ev_op (x := wl (([0, -1, 1000000000, 999999999, 1] : List Int).map .int)) (ev_lst (ea_cons ev_ci (ea_cons (ev_un ev_ci ru_neg) (ea_cons ev_ci (ea_cons ev_ci (ea_cons ev_ci ea_nil))))) (by walk_at "Dsz")) (ev_op (ev_op (ev_var rfl) ev_ci (by walk_at "Drv")) ev_ci (by walk_at "Drv")) (rv_ixL lv_d (atI_int (Int.emod_nonneg _ (by decide)) (by have := Int.emod_lt_of_pos (n / 7) (b := 5) (by decide); simpa using this)))) hk
  · rw [if_neg (of_decide_eq_false hb)] at hk
    exact hs_ret0 (ev_op ev_ci (ev_op (ev_op (ev_var rfl) ev_ci (by walk_at "Drv")) ev_ci (by walk_at "Drv")) (by walk_at "Drv")) hk
abbrev s__law_expected : Stmt := topS 42
theorem sc__law_expected : FnScope ["twin", "question", "moment", "files", "head", "names", "many", "k"] ["twin", "question", "moment", "files"] (defScope s__law_expected) := ⟨rfl, rfl, rfl, by decide +kernel, rfl, by decide +kernel, by decide +kernel⟩
set_option maxHeartbeats 4000000 in
theorem ok__law_expected {f : Addr} {fd : FuncData} (F : Fun K "_law_expected" "_law_expected" s__law_expected f fd) (hg : mg "_law_expected" = some (.ref f)) (hb : Binds K fd ["twin", "question", "moment", "files"] []) (z_str : mg "str" = none) (z_len : mg "len" = none) (z_sorted : mg "sorted" = none) (z_range : mg "range" = none) (n__law_packed : Kn P w K mg base CX0 1 "_law_packed" ["parts"] t_lpackL) : Kn P w K mg base CX0 2 "_law_expected" ["twin", "question", "moment", "files"] t_lexp := by
  refine kn_of F hg hb sc__law_expected (fun xs Δ k ex h => (by obtain ⟨_, _, _, _, _, rfl, _⟩ := h; rfl)) (fun cdv A outer s H E hr => ⟨_, (pss_cons (ps_set (i := 4) sc__law_expected.nd rfl (.inr rfl) (pe_lst (pa_cons pe_str (pa_cons (pv 0) (pa_cons (pe_cT call_str_int z_str (by decide +kernel) (pa_cons (pv 1) pa_nil)) (pa_cons (pe_cT call_str_int z_str (by decide +kernel) (pa_cons (pv 2) pa_nil)) pa_nil))))))
      (pss_cons (ps_if (pt_cmpR (op_eqA K hr) (pe_cB lenDK z_len (by decide +kernel) (pa_cons (pv 3) pa_nil)) pe_int (nomark _)) (pss_one (ps_ret (pe_lst (pa_cons (pe_kn n__law_packed hr (by decide) (pa_cons (pe_op op_addU (pv 4) (pe_lst (pa_cons pe_str (pa_cons pe_str (pa_cons pe_str (pa_cons pe_str pa_nil)))))) pa_nil) pass0) pa_nil)))) pss_nil)
      (pss_cons (ps_set (i := 5) sc__law_expected.nd rfl (.inr rfl) (pe_cB (sortedDuK rfl hr) z_sorted (by decide +kernel) (pa_cons (pv 3) pa_nil)))
      (pss_cons (ps_set (i := 6) sc__law_expected.nd rfl (.inr rfl) (pe_cT call_str_int z_str (by decide +kernel) (pa_cons (pe_cB (lenK K) z_len (by decide +kernel) (pa_cons (pv 5) pa_nil)) pa_nil)))
      (pss_one (ps_ret (pe_lc (own := [("k", 7)]) (g := gName 7) (tt := tYes) rfl sc__law_expected.nd (pi_range1 (by rfl) z_range (pa_cons (pe_cB (lenK K) z_len (by decide +kernel) (pa_cons (pv 5) pa_nil)) pa_nil)) (blkOk_by (own := [("k", 7)]) (N := ["twin", "question", "moment", "files", "head", "names", "many", "k"]) (sc := defScope s__law_expected) (by decide +kernel)) (fun _ _ _ _ _ => pg_name (i := 7) sc__law_expected.nd rfl (.inl rfl)) (fun _ _ _ _ _ => pts_nil) (fun _ _ _ _ _ => (pe_kn n__law_packed hr (by decide) (pa_cons (pe_op op_addU (pv 4) (pe_lst (pa_cons (pe_cT call_str_int z_str (by decide +kernel) (pa_cons (pv 7) pa_nil)) (pa_cons (pv 6) (pa_cons (pe_ix (ixK K) (pv 5) (pv 7) (fun _ _ => rfl)) (pa_cons (pe_dget (hu_of hr) (pv 3) (pe_ix (ixK K) (pv 5) (pv 7) (fun _ _ => rfl)) (fun _ _ => rfl)) pa_nil)))))) pa_nil) pass0))))))))), ?_⟩)
  rintro xs Δ k ex ⟨d, cs, z, q, m, rfl, rfl, hF, hz, hq, hm, hk⟩
  walk_at "Dgo"
  have hln := hF.ln
  have hkeys : (cs.map kvF).map (·.1) = (cs.map (·.1)).map Sum.inr := by rw [List.map_map, List.map_map]; rfl
  have hpts := hF.pts
  have hlt : ∀ r ∈ ptsF cs, Lng (ltr4 z q m r) := fun r hr => ltr4_ok hz hq hm (hpts r hr)
  obtain ⟨n, rfl, n1, n9⟩ := evI_nat hq
  obtain ⟨o, rfl, o1, o9⟩ := evI_nat hm
  refine hq_asg (w := wl (strD ["part", z, nm n, nm o])) (ev_lst (xs := [ws "part", ws z, ws (nm n), ws (nm o)]) (ea_cons ev_cs (ea_cons (ev_var rfl) (ea_cons (ev_cb' (ea_cons (ev_var rfl) ea_nil) (rc_strN n9)) (ea_cons (ev_cb' (ea_cons (ev_var rfl) ea_nil) (rc_strN o9)) ea_nil)))) (by rw [sizeLine_eq]; simp)) ?_
  refine hq_if (b := decide (cs = [])) (et_is (et_test (ev_op (ev_cb' (ea_cons (ev_var rfl) ea_nil) (rc_lenD (da_d 0 rfl))) ev_ci rv_eqI)) (by cases cs <;> simp; omega)) (fun hb => ?_) (fun hb => hq_nil ?_)
  · have hb := of_decide_eq_true hb
    subst hb
    have hl0 := hlt (0, 0, "", "") (by simp [ptsF])
    have e0 : ltr4 z (n : Int) (o : Int) (0, 0, "", "") = [("part" : Str), z, nm n, nm o, "0", "0", "", ""] := by
      show [("part" : Str), z, nm n, nm o, nm 0, nm 0, "", ""] = _
      rw [nm_zero]
    rw [e0] at hl0
    refine hq_ret (hs_retW (Ev.toW (EvF.ev (ds := strD (pletS z n o [])) (evf_is (evf_lst (xs := [ws (mk (packL ["part", z, nm n, nm o, "0", "0", "", ""]))]) (ea_cons (ev_call (ea_cons (ev_cat (ys := strD ["0", "0", "", ""]) (ev_var rfl) (ev_lst (ea_cons ev_cs (ea_cons ev_cs (ea_cons ev_cs (ea_cons ev_cs ea_nil)))) (by walk_at "Dsz")) (by rw [sizeLine_eq]; simp)) ea_nil) ⟨rfl, ["part", z, nm n, nm o, "0", "0", "", ""], rfl, hl0, rfl, rfl⟩) ea_nil) (by rw [sizeLine_eq]; simp)) ?_))) hk)
    rw [show pletS z n o [] = [mk (packL (ltr4 z (n : Int) (o : Int) (0, 0, "", "")))] from rfl, e0]
    rfl
  have hb := of_decide_eq_false hb
  have he : ptsF cs = (List.range cs.length).map fun k => (k, cs.length, (namesF cs).getD k Str.empty, lookF cs ((namesF cs).getD k Str.empty)) := if_neg hb
  rw [show pletS z n o cs = (List.range cs.length).map (fun k => mk (packL (ltr4 z (n : Int) (o : Int) (k, cs.length, (namesF cs).getD k Str.empty, lookF cs ((namesF cs).getD k Str.empty))))) by rw [pletS, he, List.map_map]; rfl] at hk
  refine hq_asg (w := wl ((namesF cs).map .str)) (EvF.ev (evf_cb (ea_cons (ev_var rfl) ea_nil) (rcf_sortDu (da_d 0 rfl) hkeys (by rw [List.length_map]; omega)))) ?_
  have hL : (((namesF cs).map PyData.str).map W.d).length = cs.length := by rw [List.length_map, List.length_map, namesF_len]
  refine hq_asg (w := ws (nm cs.length)) (ev_cb' (ea_is (ys := [wi (cs.length : Int)]) (ea_cons (ev_cb' (ea_cons (ev_var rfl) ea_nil) (by walk_at "Drc")) ea_nil) (by rw [hL])) (rc_strN (by omega))) ?_
  refine hs_retW (Ev.toW (EvF.ev (evf_is (evf_lcRS (fun k => mk (packL (ltr4 z (n : Int) (o : Int) (k, cs.length, (namesF cs).getD k Str.empty, lookF cs ((namesF cs).getD k Str.empty))))) (ea_is (ys := [wi (cs.length : Int)]) (ea_cons (ev_cb' (ea_cons (ev_var rfl) ea_nil) (by walk_at "Drc")) ea_nil) (by rw [hL])) (by omega) (by omega) (by decide) (fun i hi => ?_)) (by rw [Int.toNat_natCast])))) hk
  have hi : i < cs.length := by omega
  obtain ⟨h1, h2, h3⟩ := hF.at hi
  have x0 : atI (((namesF cs).map PyData.str).map W.d) (i : Int) = some (ws ((namesF cs).getD i Str.empty)) := atI_nat (by rw [List.getElem?_map, List.getElem?_map, h2]; rfl)
  have hlr := hlt (i, cs.length, (namesF cs).getD i Str.empty, lookF cs ((namesF cs).getD i Str.empty)) (by rw [he]; exact List.mem_map.mpr ⟨i, List.mem_range.mpr hi, rfl⟩)
  exact ev_call (ea_cons (ev_cat (ys := strD [nm i, nm cs.length, (namesF cs).getD i Str.empty, lookF cs ((namesF cs).getD i Str.empty)]) (ev_var rfl) (ev_lst (xs := [ws (nm i), ws (nm cs.length), ws ((namesF cs).getD i Str.empty), ws (lookF cs ((namesF cs).getD i Str.empty))]) (ea_cons (ev_cb' (ea_cons (ev_var rfl) ea_nil) (rc_strN (by omega))) (ea_cons (ev_var rfl) (ea_cons (ev_op (ev_var rfl) (ev_var rfl) (by walk_at "Drv")) (ea_cons (ev_dget (ev_var rfl) (ev_kS (ev_op (ev_var rfl) (ev_var rfl) (by walk_at "Drv"))) (da_d 0 rfl) h3) ea_nil)))) (by rw [sizeLine_eq]; simp)) (by rw [sizeLine_eq]; simp)) ea_nil) ⟨rfl, _, rfl, hlr, rfl, rfl⟩
abbrev s__law_refused : Stmt := topS 43
theorem sc__law_refused : FnScope ["twin", "question", "moment", "files", "told"] ["twin", "question", "moment", "files"] (defScope s__law_refused) := ⟨rfl, rfl, rfl, by decide +kernel, rfl, by decide +kernel, by decide +kernel⟩
set_option maxHeartbeats 4000000 in
theorem ok__law_refused {f : Addr} {fd : FuncData} (F : Fun K "_law_refused" "_law_refused" s__law_refused f fd) (hg : mg "_law_refused" = some (.ref f)) (hb : Binds K fd ["twin", "question", "moment", "files"] []) {C_NotAllowed : Addr} (x_NotAllowed : Exc K mg "NotAllowed" C_NotAllowed) (m_NotAllowed_NotAllowed : PySem.W.exmOne K (.ref C_NotAllowed) (.ref C_NotAllowed) = some true) (n_ask_letter : Kn P w K mg base (L2.CX P w) 2 "ask_letter" ["twin", "question"] (t_askl C_NotAllowed)) (n_done_letter : Kn P w K mg base (L2.CX P w) 2 "done_letter" ["twin", "question", "moment"] (t_donel C_NotAllowed)) (n_part_letters : Kn P w K mg base (L2.CX P w) 2 "part_letters" ["twin", "question", "moment", "files"] (t_plet C_NotAllowed)) : Kn P w K mg base CX0 3 "_law_refused" ["twin", "question", "moment", "files"] t_lrefu := by
  refine kn_of F hg hb sc__law_refused (fun xs Δ k ex h => (by obtain ⟨_, _, _, _, _, rfl, _⟩ := h; rfl)) (fun cdv A outer s H E hr => ⟨_, (pss_cons (ps_set (i := 4) sc__law_refused.nd rfl (.inl rfl) (pe_lst pa_nil))
      (pss_cons (ps_try_onlyD rfl rfl ⟨rfl, by decide, .inl x_NotAllowed.g⟩ takes0 (fun W pn xe tk hp => (pss_one (ps_expr (pe_knS n_ask_letter hr (by decide) (pa_cons (pv 0) (pa_cons (pv 1) pa_nil)) tk)))) (fun a oe cls d pn hz hf => (pss_one (ps_expr (bmK K PySem.F.plainAttrs_list PySem.F.slot_list_append PySem.F.type_list_append mt_append (pv 4) (pa_cons pe_str pa_nil))))))
      (pss_cons (ps_try_onlyD rfl rfl ⟨rfl, by decide, .inl x_NotAllowed.g⟩ takes0 (fun W pn xe tk hp => (pss_one (ps_expr (pe_knS n_done_letter hr (by decide) (pa_cons (pv 0) (pa_cons (pv 1) (pa_cons (pv 2) pa_nil))) tk)))) (fun a oe cls d pn hz hf => (pss_one (ps_expr (bmK K PySem.F.plainAttrs_list PySem.F.slot_list_append PySem.F.type_list_append mt_append (pv 4) (pa_cons pe_str pa_nil))))))
      (pss_cons (ps_try_onlyD rfl rfl ⟨rfl, by decide, .inl x_NotAllowed.g⟩ takes0 (fun W pn xe tk hp => (pss_one (ps_expr (pe_knS n_part_letters hr (by decide) (pa_cons (pv 0) (pa_cons (pv 1) (pa_cons (pv 2) (pa_cons (pv 3) pa_nil)))) tk)))) (fun a oe cls d pn hz hf => (pss_one (ps_expr (bmK K PySem.F.plainAttrs_list PySem.F.slot_list_append PySem.F.type_list_append mt_append (pv 4) (pa_cons pe_str pa_nil))))))
      (pss_one (ps_ret (pv 4))))))), ?_⟩)
  rintro xs Δ k ex ⟨d, cs, z, q, m, rfl, rfl, hF, hk⟩
  walk_at "Dgo"
  refine hq_new (evf_lst ea_nil (by walk_at "Dsz")) fun a _ => ?_
  show HS K _ _ ⟨[some (ws z), some (wi q), some (wi m), some (.o d), some (.o a)], [(a, .lst (txs [])), (d, .dic (cs.map kvF))]⟩ _
  refine hs_seq (M := fun s' => s' = ⟨[some (ws z), some (wi q), some (wi m), some (.o d), some (.o a)], [(a, .lst (txs (orS (z ∈ twN ∧ evI q = true) "ask"))), (d, .dic (cs.map kvF))]⟩) (hs_tryOnly0 (E2 := WE fun _ _ _ _ => False) (fun c s' => c = .ref C_NotAllowed ∧ ¬ (z ∈ twN ∧ evI q = true) ∧ s' = ⟨[some (ws z), some (wi q), some (wi m), some (.o d), some (.o a)], [(a, .lst (txs [])), (d, .dic (cs.map kvF))]⟩) (fun Wv => ?_) (fun c s' hx => ?_)) ?_
  · refine hs_dropR (evr_call (ea_cons (ev_var rfl) (ea_cons (ev_var rfl) ea_nil)) ⟨rfl, z, q, rfl, fun h1 h2 => ⟨rfl, ?_⟩, fun h => ⟨rfl, rfl, ?_, rfl⟩⟩)
    · show _ = _
      rw [orS_y ⟨h1, h2⟩]
    · rcases h with h | h
      · exact fun e => h e.1
      · exact fun e => by rw [h] at e; exact absurd e.2 (by decide)
  · obtain ⟨rfl, hn, rfl⟩ := hx
    refine ⟨m_NotAllowed_NotAllowed, fun _ => hs_app (n := 0) rfl (ev_var rfl) ev_cs (by rw [sizeLine_eq]; simp) ?_⟩
    show _ = _
    rw [orS_n hn]
    rfl
  rintro s' rfl
  generalize hg1 : orS (z ∈ twN ∧ evI q = true) "ask" = l1
  have hl1 : l1.length ≤ 1 := by rw [← hg1]; exact orS_l _ _
  refine hs_seq (M := fun s' => s' = ⟨[some (ws z), some (wi q), some (wi m), some (.o d), some (.o a)], [(a, .lst (txs (l1 ++ orS (z ∈ twN ∧ evI q = true ∧ evI m = true) "done"))), (d, .dic (cs.map kvF))]⟩) (hs_tryOnly0 (E2 := WE fun _ _ _ _ => False) (fun c s' => c = .ref C_NotAllowed ∧ ¬ (z ∈ twN ∧ evI q = true ∧ evI m = true) ∧ s' = ⟨[some (ws z), some (wi q), some (wi m), some (.o d), some (.o a)], [(a, .lst (txs l1)), (d, .dic (cs.map kvF))]⟩) (fun Wv => ?_) (fun c s' hx => ?_)) ?_
  · refine hs_dropR (evr_call (ea_cons (ev_var rfl) (ea_cons (ev_var rfl) (ea_cons (ev_var rfl) ea_nil))) ⟨rfl, z, q, m, rfl, fun h1 h2 h3 => ⟨rfl, ?_⟩, fun h => ⟨rfl, rfl, ?_, rfl⟩⟩)
    · show _ = _
      rw [orS_y ⟨h1, h2, h3⟩, List.append_nil]
    · rcases h with h | h | h
      · exact fun e => h e.1
      · exact fun e => by rw [h] at e; exact absurd e.2.1 (by decide)
      · exact fun e => by rw [h] at e; exact absurd e.2.2 (by decide)
  · obtain ⟨rfl, hn, rfl⟩ := hx
    refine ⟨m_NotAllowed_NotAllowed, fun _ => hs_app (n := 0) rfl (ev_var rfl) ev_cs (by rw [txs_len, sizeLine_eq]; omega) ?_⟩
    show _ = _
    rw [orS_n hn]
    simp [txs]
  rintro s' rfl
  generalize hg2 : orS (z ∈ twN ∧ evI q = true ∧ evI m = true) "done" = l2
  have hl2 : l2.length ≤ 1 := by rw [← hg2]; exact orS_l _ _
  refine hs_seq (M := fun s' => s' = ⟨[some (ws z), some (wi q), some (wi m), some (.o d), some (.o a)], [(a, .lst (txs ((l1 ++ l2) ++ orS (partOk z q m cs = true) "part"))), (d, .dic (cs.map kvF))]⟩) (hs_tryOnly0 (E2 := WE fun _ _ _ _ => False) (fun c s' => c = .ref C_NotAllowed ∧ partOk z q m cs = false ∧ s' = ⟨[some (ws z), some (wi q), some (wi m), some (.o d), some (.o a)], [(a, .lst (txs (l1 ++ l2))), (d, .dic (cs.map kvF))]⟩) (fun Wv => ?_) (fun c s' hx => ?_)) ?_
  · refine hs_dropG (evg_call [false, true] (EvA.toW (ea_cons (ev_var rfl) (ea_cons (ev_var rfl) (ea_cons (ev_var rfl) (ea_cons (ev_var rfl) ea_nil))))) ⟨d, cs, z, q, m, rfl, rfl, hF, fun h => ?_, fun h => ⟨rfl, h, rfl⟩⟩)
    show _ = _
    rw [orS_y h, List.append_nil]
    rfl
  · obtain ⟨rfl, hn, rfl⟩ := hx
    refine ⟨m_NotAllowed_NotAllowed, fun _ => hs_app (n := 0) rfl (ev_var rfl) ev_cs (by rw [txs_len, List.length_append, sizeLine_eq]; omega) ?_⟩
    show _ = _
    rw [orS_n (by rw [hn]; decide)]
    simp [txs]
  rintro s' rfl
  refine hs_retW (Ev.toW (ev_var rfl)) ?_
  have := hk a
  unfold dueS at this
  rw [hg1, hg2, ← List.append_assoc] at this
  exact this
abbrev s__law_odd_files : Stmt := topS 44
theorem sc__law_odd_files : FnScope ["twin", "question", "moment", "files", "number", "odd", "due", "refused"] ["twin", "question", "moment", "files", "number"] (defScope s__law_odd_files) := ⟨rfl, rfl, rfl, by decide +kernel, rfl, by decide +kernel, by decide +kernel⟩
set_option maxHeartbeats 4000000 in
theorem ok__law_odd_files {f : Addr} {fd : FuncData} (F : Fun K "_law_odd_files" "_law_odd_files" s__law_odd_files f fd) (hg : mg "_law_odd_files" = some (.ref f)) (hb : Binds K fd ["twin", "question", "moment", "files", "number"] []) {C_NotAllowed : Addr} (z_dict : mg "dict" = none) (x_NotAllowed : Exc K mg "NotAllowed" C_NotAllowed) (m_NotAllowed_NotAllowed : PySem.W.exmOne K (.ref C_NotAllowed) (.ref C_NotAllowed) = some true) (n_part_letters : Kn P w K mg base (L2.CX P w) 2 "part_letters" ["twin", "question", "moment", "files"] (t_plet C_NotAllowed)) : Kn P w K mg base CX0 3 "_law_odd_files" ["twin", "question", "moment", "files", "number"] t_lodd := by
  refine kn_of F hg hb sc__law_odd_files (fun xs Δ k ex h => (by obtain ⟨_, _, _, _, _, _, rfl, _⟩ := h; rfl)) (fun cdv A outer s H E hr => ⟨_, (pss_cons (ps_set (i := 5) sc__law_odd_files.nd rfl (.inl rfl) (pe_cT dictDK z_dict (by decide +kernel) (pa_cons (pv 3) pa_nil)))
      (pss_cons (ps_dput (hu_of hr) (pv 5) (pe_ix (ixK K) (pe_lst (pa_cons pe_str (pa_cons pe_str (pa_cons pe_str (pa_cons pe_str (pa_cons pe_str (pa_cons pe_str pa_nil))))))) (pe_op op_mod (pv 4) pe_int) (fun _ _ => rfl)) (pe_op op_mulS pe_str (pe_ix (ixK K) (pe_lst (pa_cons pe_int (pa_cons pe_int (pa_cons pe_int (pa_cons pe_int pa_nil))))) (pe_op op_mod (pe_op op_fdiv (pv 4) pe_int) pe_int) (fun _ _ => rfl))) rfl)
      (pss_cons (ps_set (i := 6) sc__law_odd_files.nd rfl (.inl rfl) (pe_or (pe_cmpR op_ltU (pe_op op_mod (pv 4) pe_int) pe_int (nomark _)) (pe_one (pe_cmpR (op_eqA K hr) (pe_op op_mod (pe_op op_fdiv (pv 4) pe_int) pe_int) pe_int (nomark _)))))
      (pss_cons (ps_set (i := 7) sc__law_odd_files.nd rfl (.inl rfl) pe_bl)
      (pss_cons (ps_try_onlyD rfl rfl ⟨rfl, by decide, .inl x_NotAllowed.g⟩ takes0 (fun W pn xe tk hp => (pss_one (ps_expr (pe_knS n_part_letters hr (by decide) (pa_cons (pv 0) (pa_cons (pv 1) (pa_cons (pv 2) (pa_cons (pv 5) pa_nil)))) tk)))) (fun a oe cls d pn hz hf => (pss_one (ps_set (i := 7) sc__law_odd_files.nd rfl (.inl rfl) pe_bl))))
      (pss_one (ps_ret (pe_cmpR (op_eqA K hr) (pv 7) (pv 6) (nomark _))))))))), ?_⟩)
  rintro xs Δ k ex ⟨d, cs, z, q, m, n, rfl, rfl, hF, hok, hl, hz, hq, hm, hk⟩
  walk_at "Dgo"
  obtain ⟨ky, sz, hka, hsa, hs4, hk13, hkA, hkF⟩ := odd_at n
  have hml : MulOk (Str.ofString "x") (sz : Int) := by rw [x_str6]; exact mulOk_one (by omega) (by omega)
  have hmv : Txt.mul (Str.ofString "x") (sz : Int) = mk (List.replicate sz 120) := by rw [x_str6]; exact mul_one (by omega)
  refine hq_asgGG (evg_dictD (ev_var rfl) (da_d 0 rfl) fun o _ => ?_)
  show HS K _ _ ⟨[some (ws z), some (wi q), some (wi m), some (.o d), some (wi n), some (.o o), none, none], [(o, .dic (cs.map kvF)), (d, .dic (cs.map kvF))]⟩ _
  refine hq_dput (n := 0) (kvs := cs.map kvF) (key := .inr ky) rfl (ev_is (ev_op ev_cs (ev_op (ev_is (y := wl (ODDS.map .int)) (ev_lst (ea_cons ev_ci (ea_cons ev_ci (ea_cons ev_ci (ea_cons ev_ci ea_nil)))) (by walk_at "Dsz")) rfl) (ev_op (ev_op (ev_var rfl) ev_ci (by walk_at "Drv")) ev_ci (by walk_at "Drv")) (rv_ixL lv_d hsa)) (rv_mulS hml)) (congrArg ws hmv)) (ev_var rfl) (ev_kS (ev_op (ev_is (y := wl (ODDN.map .str)) (ev_lst (ea_cons ev_cs (ea_cons ev_cs (ea_cons ev_cs (ea_cons ev_cs (ea_cons ev_cs (ea_cons ev_cs ea_nil)))))) (by walk_at "Dsz")) rfl) (ev_op (ev_var rfl) ev_ci (by walk_at "Drv")) (rv_ixL lv_d hka))) (by rw [List.length_map, sizeLine_eq]; omega) ?_
  rw [putF_K]
  show HS K _ _ ⟨[some (ws z), some (wi q), some (wi m), some (.o d), some (wi n), some (.o o), none, none], [(o, .dic ((putF cs ky (mk (List.replicate sz 120))).map kvF)), (d, .dic (cs.map kvF))]⟩ _
  have hF2 : FlA (putF cs ky (mk (List.replicate sz 120))) := hF.put (by omega) ⟨by omega, by rw [mk_len, List.length_replicate]; omega, hkA, by rw [tlmk]; exact fun c hc => by rw [(List.mem_replicate.mp hc).2]; decide⟩
  have hp : partOk z q m (putF cs ky (mk (List.replicate sz 120))) = !(decide (n % 6 < 5) || decide (n / 6 % 4 = 3)) := by
    unfold partOk
    rw [decide_eq_true hz, hq, hm, okFs_put hok hl hF.nd, hkF]
    rfl
  generalize putF cs ky (mk (List.replicate sz 120)) = co at hF2 hp
  refine hq_asg (ev_orV (ev_op (ev_op (ev_var rfl) ev_ci (by walk_at "Drv")) ev_ci (by walk_at "Drv")) (fun _ => (ev_op (ev_op (ev_op (ev_var rfl) ev_ci (by walk_at "Drv")) ev_ci (by walk_at "Drv")) ev_ci (by walk_at "Drv")))) ?_
  generalize (decide (n % 6 < 5) || decide (n / 6 % 4 = 3)) = due at hp
  refine hq_asg ev_cb ?_
  refine hs_seq (M := fun s' => s' = ⟨[some (ws z), some (wi q), some (wi m), some (.o d), some (wi n), some (.o o), some (wb due), some (wb due)], [(o, .dic (co.map kvF)), (d, .dic (cs.map kvF))]⟩) (hs_tryOnly0 (E2 := WE fun _ _ _ _ => False) (fun c s' => c = .ref C_NotAllowed ∧ due = true ∧ s' = ⟨[some (ws z), some (wi q), some (wi m), some (.o d), some (wi n), some (.o o), some (wb due), some (wb false)], [(o, .dic (co.map kvF)), (d, .dic (cs.map kvF))]⟩) (fun Wv => ?_) (fun c s' hx => ?_)) ?_
  · refine hs_dropG (evg_call [true] (EvA.toW (ea_cons (ev_var rfl) (ea_cons (ev_var rfl) (ea_cons (ev_var rfl) (ea_cons (ev_var rfl) ea_nil))))) ⟨o, co, z, q, m, rfl, rfl, hF2, fun h => ?_, fun h => ⟨rfl, ?_, rfl⟩⟩)
    · rw [hp] at h
      have : due = false := by simpa using h
      subst this
      rfl
    · rw [hp] at h
      simpa using h
  · obtain ⟨rfl, hd, rfl⟩ := hx
    refine ⟨m_NotAllowed_NotAllowed, fun _ => hs_asg ev_cb ?_⟩
    rw [hd]
    rfl
  rintro s' rfl
  refine hs_pick [false, true] ?_
  exact hs_retW (Ev.toW (ev_is (ev_op (ev_var rfl) (ev_var rfl) (by walk_at "Drv")) (show _ = wb true by simp))) hk
abbrev s__law_is_name : Stmt := topS 46
theorem sc__law_is_name : FnScope ["name", "signs", "sign"] ["name"] (defScope s__law_is_name) := ⟨rfl, rfl, rfl, by decide +kernel, rfl, by decide +kernel, by decide +kernel⟩
set_option maxHeartbeats 4000000 in
theorem ok__law_is_name {f : Addr} {fd : FuncData} (F : Fun K "_law_is_name" "_law_is_name" s__law_is_name f fd) (hg : mg "_law_is_name" = some (.ref f)) (hb : Binds K fd ["name"] []) (z_all : mg "all" = none) (z_len : mg "len" = none) : Kn P w K mg base CX0 1 "_law_is_name" ["name"] t_lisn := by
  refine kn_of F hg hb sc__law_is_name (fun xs Δ k ex h => (by obtain ⟨_, _, rfl, _⟩ := h; rfl)) (fun cdv A outer s H E hr => ⟨_, (pss_cons (ps_set (i := 1) sc__law_is_name.nd rfl (.inr rfl) pe_str)
      (pss_one (ps_ret (pe_and (pe_chain op_leU op_leU pe_int (pe_cB (lenK K) z_len (by decide +kernel) (pa_cons (pv 0) pa_nil)) pe_int) (pe_one (pe_cB (cr_all rfl) z_all (by decide +kernel) (pa_cons (pe_lc (own := [("sign", 2)]) (g := gName 2) (tt := tYes) rfl sc__law_is_name.nd (pi_str (pv 0)) (blkOk_by (own := [("sign", 2)]) (N := ["name", "signs", "sign"]) (sc := defScope s__law_is_name) (by decide +kernel)) (fun _ _ _ _ _ => pg_name (i := 2) sc__law_is_name.nd rfl (.inl rfl)) (fun _ _ _ _ _ => pts_nil) (fun _ _ _ _ _ => (pe_cmpR op_in_sign (pv 2) (pv 1) (by rfl)))) pa_nil))))))), ?_⟩)
  rintro xs Δ k ex ⟨rfl, z, rfl, hl, hk⟩
  walk_at "Dgo"
  have hz : z.length ≤ sizeLine := by rw [sizeLine_eq]; omega
  refine hq_asg ev_cs ?_
  have eN : okN z = ((decide ((1 : Int) ≤ (z.length : Int)) && decide ((z.length : Int) ≤ 12)) && ((tl z).map fun c => decide (c ∈ tl NS)).all id) := by
    unfold okN
    rw [List.all_map]
    have e1 : decide ((1 : Int) ≤ (z.length : Int)) = decide (1 ≤ z.length) := decide_eq_decide.mpr (by omega)
    have e2 : decide ((z.length : Int) ≤ 12) = decide (z.length ≤ 12) := decide_eq_decide.mpr (by omega)
    rw [e1, e2]
    rfl
  rw [eN] at hk
  refine hs_ret0 (ev_andV (ev_chain ev_ci (ev_cb' (ea_cons (ev_var rfl) ea_nil) (by walk_at "Drc")) ev_ci (by walk_at "Drv") (fun _ => by walk_at "Drv")) (fun _ => ev_cb' (ea_cons (x := wl (((tl z).map fun c => decide (c ∈ tl NS)).map .bool)) (EvF.ev (evf_is (evf_lcSM (fun c => .bool (decide (c ∈ tl NS))) (ev_var rfl) (by omega) (by decide) (fun c hc => ?_)) (by rw [List.map_map, List.map_map, List.map_map]; rfl))) ea_nil) rc_all)) hk
  exact ev_op (ev_var rfl) (ev_is (y := ws NS) (ev_var rfl) rfl) rv_inC
abbrev s__law_fits : Stmt := topS 47
theorem sc__law_fits : FnScope ["told", "number"] ["told"] (defScope s__law_fits) := ⟨rfl, rfl, rfl, by decide +kernel, rfl, by decide +kernel, by decide +kernel⟩
set_option maxHeartbeats 4000000 in
theorem ok__law_fits {f : Addr} {fd : FuncData} (F : Fun K "_law_fits" "_law_fits" s__law_fits f fd) (hg : mg "_law_fits" = some (.ref f)) (hb : Binds K fd ["told"] []) (z_len : mg "len" = none) (n__law_is_name : Kn P w K mg base CX0 1 "_law_is_name" ["name"] t_lisn) : Kn P w K mg base CX0 2 "_law_fits" ["told"] t_lfits := by
  refine kn_of F hg hb sc__law_fits (fun xs Δ k ex h => (by obtain ⟨_, _, _, rfl, _⟩ := h; rfl)) (fun cdv A outer s H E hr => ⟨_, (pss_cons (ps_if (pt_cmpR (op_ninT K) (pe_ix (ixK K) (pv 0) pe_int (fun _ _ => rfl)) (pe_lst (pa_cons pe_str (pa_cons pe_str (pa_cons pe_str pa_nil)))) (by rfl)) (pss_one (ps_ret pe_bl)) pss_nil)
      (pss_cons (ps_for PassesOwn.never rfl (pi_tupK K (pe_slice (slAK K) (pv 0) (po_some pe_int) (po_some pe_int))) (pg_name (i := 1) sc__law_fits.nd rfl (.inl rfl)) (pss_one (ps_if (PW.pt (pw_or (pt_cmpR op_ltU (pv 1) pe_int (nomark _)) (pw_or1 (pt_cmpR op_gtU (pv 1) pe_int (nomark _))))) (pss_one (ps_ret pe_bl)) pss_nil)))
      (pss_cons (ps_if (pt_cmpR (op_eqA K hr) (pe_ix (ixK K) (pv 0) pe_int (fun _ _ => rfl)) pe_str (nomark _)) (pss_cons (ps_if (pt_cmpR (op_eqA K hr) (pe_ix (ixK K) (pv 0) pe_int (fun _ _ => rfl)) pe_int (nomark _)) (pss_one (ps_ret (pe_and (pe_cmpR (op_eqA K hr) (pe_ix (ixK K) (pv 0) pe_int (fun _ _ => rfl)) pe_int (nomark _)) (pe_and (pe_cmpR (op_eqA K hr) (pe_ix (ixK K) (pv 0) pe_int (fun _ _ => rfl)) pe_str (nomark _)) (pe_one (pe_cmpR (op_eqA K hr) (pe_ix (ixK K) (pv 0) pe_int (fun _ _ => rfl)) pe_str (nomark _))))))) pss_nil)
      (pss_one (ps_ret (pe_and (pe_chain3 op_leU op_ltU op_leU pe_int (pe_ix (ixK K) (pv 0) pe_int (fun _ _ => rfl)) (pe_ix (ixK K) (pv 0) pe_int (fun _ _ => rfl)) pe_int) (pe_and (pe_kn n__law_is_name hr (by decide) (pa_cons (pe_ix (ixK K) (pv 0) pe_int (fun _ _ => rfl)) pa_nil) pass0) (pe_one (pe_cmpR op_leU (pe_cB (lenK K) z_len (by decide +kernel) (pa_cons (pe_ix (ixK K) (pv 0) pe_int (fun _ _ => rfl)) pa_nil)) pe_int (nomark _)))))))) pss_nil)
      (pss_one (ps_ret (pe_or (pe_and (pe_cmpR (op_eqA K hr) (pe_ix (ixK K) (pv 0) pe_int (fun _ _ => rfl)) pe_str (nomark _)) (pe_one (pe_cmpR (op_eqA K hr) (pe_cB (lenK K) z_len (by decide +kernel) (pa_cons (pv 0) pa_nil)) pe_int (nomark _)))) (pe_one (pe_and (pe_cmpR (op_eqA K hr) (pe_ix (ixK K) (pv 0) pe_int (fun _ _ => rfl)) pe_str (nomark _)) (pe_one (pe_cmpR (op_eqA K hr) (pe_cB (lenK K) z_len (by decide +kernel) (pa_cons (pv 0) pa_nil)) pe_int (nomark _))))))))))), ?_⟩)
  rintro xs Δ k ex ⟨rfl, z, ds, rfl, hl, hrd, hk⟩
  walk_at "Dgo"
  obtain ⟨w, t, es, row, hT⟩ := tld_of hrd
  have ed := hT.e
  have x0 : atI ds 0 = some (.str w) := by rw [ed]; exact atI_nat (j := 0) rfl
  have x1 : atI ds 1 = some (.str t) := by rw [ed]; exact atI_nat (j := 1) rfl
  refine hq_if (et_test (ev_op (ev_op (ev_var rfl) ev_ci (rv_ixT x1)) (ev_is (y := wl (twN.map .str)) (ev_lst (ea_cons ev_cs (ea_cons ev_cs (ea_cons ev_cs ea_nil))) (by walk_at "Dsz")) rfl) (rv_inSq (neg := true) (qv_l lv_d)))) (fun hb => ?_) (fun _ => hq_nil ?_)
  · refine absurd hb ?_
    simp [hT.tw]
  have hcut : cutW ds (some 2) (some 4) = evsD es ∧ ds.length = 2 + es.length + row.length := by
    rw [ed]
    rcases hT.sh with ⟨_, h1, rfl⟩ | ⟨_, h1, rfl⟩ | ⟨_, h1, a, b, c, d, rfl, h2⟩
    · obtain ⟨e, rfl⟩ := List.length_eq_one_iff.mp h1
      exact ⟨rfl, rfl⟩
    · obtain ⟨e, f, rfl⟩ := len_two h1
      exact ⟨rfl, rfl⟩
    · obtain ⟨e, f, rfl⟩ := len_two h1
      exact ⟨rfl, rfl⟩
  refine hs_seq (M := fun s' => ∃ g, s' = ⟨[some (wt ds), g], []⟩) (hs_forT (ds := evsD es) (ev_is (ev_slT (ev_var rfl) (eo_some ev_ci) (eo_some ev_ci)) (congrArg wt hcut.1)) (fun i s' => ∃ g, s' = ⟨[some (wt ds), g], []⟩) ⟨_, ⟨none, rfl⟩, by walk_at "Dle"⟩ ?_ (fun s' h => by obtain ⟨g, rfl⟩ := h; exact ⟨g, rfl⟩)) ?_
  · rintro i dd s' hd ⟨g, rfl⟩
    rw [List.getElem?_map] at hd
    cases hp : es[i]? with
    | none => rw [hp] at hd; cases hd
    | some e =>
      rw [hp] at hd
      have hd' : PyData.int (valN (tl e) : Nat) = dd := Option.some.inj hd
      subst hd'
      obtain ⟨b1, b2⟩ := evB (hT.ev e (List.mem_of_getElem? hp))
      refine ⟨_, gs_name, ?_⟩
      refine hs_if (et_or (et_test (ev_op (ev_var rfl) ev_ci (by walk_at "Drv"))) (fun _ => (et_test (ev_op (ev_var rfl) ev_ci (by walk_at "Drv"))))) (fun hb => ?_) (fun _ => hs_next (Le.refl _) ⟨_, ⟨_, rfl⟩, by walk_at "Dle"⟩)
      rw [Bool.or_eq_true] at hb
      rcases hb with hb | hb
      · have := of_decide_eq_true hb; omega
      · have := of_decide_eq_true hb; omega
  rintro s' ⟨g, rfl⟩
  have n1 : ¬ (("part" : Str) = "ask") := by decide +kernel
  have n2 : ¬ (("done" : Str) = "ask") := by decide +kernel
  have n3 : ¬ (("ask" : Str) = "done") := by decide +kernel
  have n4 : ¬ (("part" : Str) = "done") := by decide +kernel
  have n5 : ¬ (("ask" : Str) = "part") := by decide +kernel
  have n6 : ¬ (("done" : Str) = "part") := by decide +kernel
  have hlen : ((ds.map W.d).length : Int) = ((2 + es.length + row.length : Nat) : Int) := by rw [List.length_map, hcut.2]
  by_cases hw : w = "part"
  · subst hw
    rcases hT.sh with ⟨h, _⟩ | ⟨h, _⟩ | ⟨_, h1, a, b, c, d, rfl, h2⟩
    · exact absurd h n1
    · exact absurd h n4
    obtain ⟨e, f, rfl⟩ := len_two h1
    have x4 : atI ds 4 = some (.int (valN (tl a) : Nat)) := by rw [ed]; exact atI_nat (j := 4) rfl
    have x5 : atI ds 5 = some (.int (valN (tl b) : Nat)) := by rw [ed]; exact atI_nat (j := 5) rfl
    have x6 : atI ds 6 = some (.str c) := by rw [ed]; exact atI_nat (j := 6) rfl
    have x7 : atI ds 7 = some (.str d) := by rw [ed]; exact atI_nat (j := 7) rfl
    unfold rowOk at h2
    rw [Bool.and_eq_true, Bool.or_eq_true] at h2
    have hzl : ∀ p ∈ ([("part" : Str), t] ++ ([e, f] ++ [a, b, c, d]) : List Str), p.length ≤ 10000 := fun p hp => by
      have e0 : packL ("part" :: t :: ([e, f] ++ [a, b, c, d])) = tl z := by rw [← hT.p, tlmk]
      have := mem_pack (ps := ("part" :: t :: ([e, f] ++ [a, b, c, d]))) hp
      rw [e0, tl_len] at this
      omega
    have hcl := hzl c (by simp)
    have hdl := hzl d (by simp)
    have hds : d.length ≤ sizeLine := by rw [sizeLine_eq]; omega
    refine hq_if (b := true) (et_is (et_test (ev_op (ev_op (ev_var rfl) ev_ci (by walk_at "Drv")) ev_cs (by walk_at "Drv"))) (by simp)) (fun _ => hq_seq ?_) (fun hb => by cases hb)
    refine hq_if (et_test (ev_op (ev_op (ev_var rfl) ev_ci (by walk_at "Drv")) ev_ci (by walk_at "Drv"))) (fun hb => hq_ret ?_) (fun hb => hq_nil ?_)
    · have hb := of_decide_eq_true hb
      have h3 : valN (tl a) = 0 ∧ c = "" ∧ d = "" := by
        rcases h2.2 with h3 | h3
        · have := of_decide_eq_true h3
          exact ⟨this.1, this.2.2.1, this.2.2.2⟩
        · rw [Bool.and_eq_true] at h3
          have := of_decide_eq_true h3.1
          omega
      refine hs_ret0 (ev_is (ev_andV (ev_op (ev_op (ev_var rfl) ev_ci (by walk_at "Drv")) ev_ci (by walk_at "Drv")) (fun _ => (ev_andV (ev_op (ev_op (ev_var rfl) ev_ci (by walk_at "Drv")) ev_cs (by walk_at "Drv")) (fun _ => (ev_op (ev_op (ev_var rfl) ev_ci (by walk_at "Drv")) ev_cs (by walk_at "Drv")))))) (show _ = wb true by simp [h3])) hk
    · have hb := of_decide_eq_false hb
      have h3 : valN (tl a) < valN (tl b) ∧ valN (tl b) ≤ 30 ∧ okF c d = true := by
        rcases h2.2 with h3 | h3
        · have := of_decide_eq_true h3
          omega
        · rw [Bool.and_eq_true] at h3
          have := of_decide_eq_true h3.1
          exact ⟨this.1, this.2, h3.2⟩
      have h4 := h3.2.2
      unfold okF at h4
      rw [Bool.and_eq_true] at h4
      have h5 := of_decide_eq_true h4.2
      refine hq_ret (hs_ret0 (ev_is (ev_andV (ev_chain3 ev_ci (ev_op (ev_var rfl) ev_ci (by walk_at "Drv")) (ev_op (ev_var rfl) ev_ci (by walk_at "Drv")) ev_ci (by walk_at "Drv") (fun _ => by walk_at "Drv") (fun _ => by walk_at "Drv")) (fun _ => ev_andV (ev_call (w := wb (okN c)) (ea_cons (ev_op (ev_var rfl) ev_ci (by walk_at "Drv")) ea_nil) ⟨rfl, c, rfl, hcl, rfl, rfl⟩) (fun _ => (ev_op (ev_cb' (ea_cons (ev_op (ev_var rfl) ev_ci (by walk_at "Drv")) ea_nil) (by walk_at "Drc")) ev_ci (by walk_at "Drv"))))) (show _ = wb true from ?_)) hk)
      rw [h4.1, decide_eq_true (show ((d.length : Nat) : Int) ≤ 4000 by omega), decide_eq_true (show (0 : Int) ≤ ((valN (tl a) : Nat) : Int) by omega), decide_eq_true (show ((valN (tl a) : Nat) : Int) < ((valN (tl b) : Nat) : Int) by omega), decide_eq_true (show ((valN (tl b) : Nat) : Int) ≤ 30 by omega)]
      rfl
  · refine hq_if (b := false) (et_is (et_test (ev_op (ev_op (ev_var rfl) ev_ci (by walk_at "Drv")) ev_cs (by walk_at "Drv"))) (by simp [hw])) (fun hb => by cases hb) (fun _ => hq_nil ?_)
    rcases hT.sh with ⟨rfl, h1, rfl⟩ | ⟨rfl, h1, rfl⟩ | ⟨h, _⟩
    · have e3 : ((ds.map W.d).length : Int) = 3 := by rw [hlen, h1]; rfl
      refine hs_ret0 (ev_is (ev_orV (ev_andV (ev_op (ev_op (ev_var rfl) ev_ci (by walk_at "Drv")) ev_cs (by walk_at "Drv")) (fun _ => ev_op (ev_cb' (ea_cons (ev_var rfl) ea_nil) (rc_lenL qv_t)) ev_ci rv_eqI)) (fun _ => ev_andV (ev_op (ev_op (ev_var rfl) ev_ci (by walk_at "Drv")) ev_cs (by walk_at "Drv")) (fun _ => ev_op (ev_cb' (ea_cons (ev_var rfl) ea_nil) (rc_lenL qv_t)) ev_ci rv_eqI))) (show _ = wb true from ?_)) hk
      rw [e3]
      simp
    · have e3 : ((ds.map W.d).length : Int) = 4 := by rw [hlen, h1]; rfl
      refine hs_ret0 (ev_is (ev_orV (ev_andV (ev_op (ev_op (ev_var rfl) ev_ci (by walk_at "Drv")) ev_cs (by walk_at "Drv")) (fun _ => ev_op (ev_cb' (ea_cons (ev_var rfl) ea_nil) (rc_lenL qv_t)) ev_ci rv_eqI)) (fun _ => ev_andV (ev_op (ev_op (ev_var rfl) ev_ci (by walk_at "Drv")) ev_cs (by walk_at "Drv")) (fun _ => ev_op (ev_cb' (ea_cons (ev_var rfl) ea_nil) (rc_lenL qv_t)) ev_ci rv_eqI))) (show _ = wb true from ?_)) hk
      rw [e3]
      simp
    · exact absurd h hw
abbrev s__law_spoilt_read : Stmt := topS 48
theorem sc__law_spoilt_read : FnScope ["letter", "told", "texts", "part"] ["letter"] (defScope s__law_spoilt_read) := ⟨rfl, rfl, rfl, by decide +kernel, rfl, by decide +kernel, by decide +kernel⟩
set_option maxHeartbeats 4000000 in
theorem ok__law_spoilt_read {f : Addr} {fd : FuncData} (F : Fun K "_law_spoilt_read" "_law_spoilt_read" s__law_spoilt_read f fd) (hg : mg "_law_spoilt_read" = some (.ref f)) (hb : Binds K fd ["letter"] []) {C_BadForm : Addr} (z_len : mg "len" = none) (z_isinstance : mg "isinstance" = none) (z_tuple : mg "tuple" = none) (z_str : mg "str" = none) (x_BadForm : Exc K mg "BadForm" C_BadForm) (m_BadForm_BadForm : PySem.W.exmOne K (.ref C_BadForm) (.ref C_BadForm) = some true) (n_read_letter : Kn P w K mg base (L2.CX P w) 5 "read_letter" ["letter"] (t_rlet C_BadForm)) (n__law_fits : Kn P w K mg base CX0 2 "_law_fits" ["told"] t_lfits) (n__law_is_tuple : Kn P w K mg base CX0 2 "_law_is_tuple" ["told", "parts"] t_istup) (n__law_packed : Kn P w K mg base CX0 1 "_law_packed" ["parts"] t_lpackL) : Kn P w K mg base CX0 6 "_law_spoilt_read" ["letter"] t_lspr := by
  refine kn_of F hg hb sc__law_spoilt_read (fun xs Δ k ex h => (by obtain ⟨_, _, rfl, _⟩ := h; rfl)) (fun cdv A outer s H E hr => ⟨_, (pss_cons (ps_set (i := 1) sc__law_spoilt_read.nd rfl (.inl rfl) pe_non)
      (pss_cons (ps_try_onlyD rfl rfl ⟨rfl, by decide, .inl x_BadForm.g⟩ takes0 (fun W pn xe tk hp => (pss_one (ps_set (i := 1) sc__law_spoilt_read.nd rfl (.inl rfl) (pe_knS n_read_letter hr (by decide) (pa_cons (pv 0) pa_nil) tk)))) (fun a oe cls d pn hz hf => (pss_one (ps_ret pe_bl))))
      (pss_cons (ps_if (PW.pt (pw_or (pt_not (pt_truK K (pe_cB (isiK K) z_isinstance (by decide +kernel) (pa_cons (pv 1) (pa_cons (pe_ty z_tuple boot_tuple) pa_nil))) (by intro _; rfl))) (pw_or (pt_cmpR (op_notInA K hr) (pe_cB (lenK K) z_len (by decide +kernel) (pa_cons (pv 1) pa_nil)) (pe_lst (pa_cons pe_int (pa_cons pe_int (pa_cons pe_int pa_nil)))) (by rfl)) (pw_or1 (pt_not (pt_truK K (pe_kn n__law_fits hr (by decide) (pa_cons (pv 1) pa_nil) pass0) (by intro _; rfl))))))) (pss_one (ps_ret pe_bl)) pss_nil)
      (pss_cons (ps_set (i := 2) sc__law_spoilt_read.nd rfl (.inl rfl) (pe_lst pa_nil))
      (pss_cons (ps_for PassesOwn.never rfl (pi_tupK K (pv 1)) (pg_name (i := 3) sc__law_spoilt_read.nd rfl (.inl rfl)) (pss_one (ps_if (pt_truK K (pe_cB (isiK K) z_isinstance (by decide +kernel) (pa_cons (pv 3) (pa_cons (pe_ty z_str boot_str) pa_nil))) (by intro _; rfl)) (pss_one (ps_expr (bmK K PySem.F.plainAttrs_list PySem.F.slot_list_append PySem.F.type_list_append mt_append (pv 2) (pa_cons (pv 3) pa_nil)))) (pss_one (ps_expr (bmK K PySem.F.plainAttrs_list PySem.F.slot_list_append PySem.F.type_list_append mt_append (pv 2) (pa_cons (pe_cT call_strU z_str (by decide +kernel) (pa_cons (pv 3) pa_nil)) pa_nil)))))))
      (pss_one (ps_ret (pe_and (pe_cmpR (op_eqA K hr) (pe_kn n__law_packed hr (by decide) (pa_cons (pv 2) pa_nil) pass0) (pv 0) (nomark _)) (pe_one (pe_kn n__law_is_tuple hr (by decide) (pa_cons (pv 1) (pa_cons (pv 2) pa_nil)) pass0)))))))))), ?_⟩)
  rintro xs Δ k ex ⟨rfl, z, rfl, hA, hl, hk⟩
  walk_at "Dgo"
  refine hq_asg ev_cn ?_
  refine hs_seq (M := fun s' => ∃ ds, rdLet z = some ds ∧ s' = ⟨[some (ws z), some (wt ds), none, none], []⟩) (hs_tryOnly0 (E2 := WE fun _ _ _ _ => False) (fun c s' => c = .ref C_BadForm ∧ s' = ⟨[some (ws z), some wn, none, none], []⟩) (fun Wv => ?_) (fun c s' hx => ?_)) ?_
  · exact hs_asgR (evr_call (ea_cons (ev_var rfl) ea_nil) ⟨rfl, z, rfl, hA, by omega, fun ds h => ⟨rfl, ds, h, rfl⟩, fun h => ⟨rfl, rfl, rfl⟩⟩)
  · obtain ⟨rfl, rfl⟩ := hx
    exact ⟨m_BadForm_BadForm, fun a => hs_ret0 ev_cb hk⟩
  rintro s' ⟨ds, hd, rfl⟩
  obtain ⟨w, t, es, row, hT⟩ := tld_of hd
  have hL := hT.lng hA hl
  have htu := hT.tup
  have htx := htu.txt
  have hdl : ds.length = 3 ∨ ds.length = 4 ∨ ds.length = 8 := by
    rw [htu.len, List.length_cons, List.length_cons, List.length_append]
    rcases hT.sh with ⟨_, h1, rfl⟩ | ⟨_, h1, rfl⟩ | ⟨_, h1, a, b, c, d, rfl, _⟩
    all_goals simp; omega
  refine hq_if (b := false) (et_or (a := false) (b := false) (et_is (et_not (et_tb (ev_cb' (ea_cons (ev_var rfl) (ea_cons ev_cx ea_nil)) (by walk_at "Drc")))) (by simp [kt])) fun _ => et_or (a := false) (b := false) (et_is (et_test (ev_op (ev_cb' (ea_cons (ev_var rfl) ea_nil) (rc_lenL qv_t)) (ev_lst (ea_cons ev_ci (ea_cons ev_ci (ea_cons ev_ci ea_nil))) (by walk_at "Dsz")) (rv_ninD (d := .int (((ds.map W.d).length : Nat) : Int)) (ds := [.int 3, .int 4, .int 8]) dv_d dv_d rfl rfl))) (by rw [List.length_map]; rcases hdl with h | h | h <;> rw [h] <;> rfl)) fun _ => et_is (et_not (et_tb (ev_call (w := wb true) (ea_cons (ev_var rfl) ea_nil) ⟨rfl, z, ds, rfl, by omega, hd, rfl, rfl⟩))) rfl) (fun hb => by cases hb) (fun _ => hq_nil ?_)
  refine hq_new (evf_lst ea_nil (by walk_at "Dsz")) fun a _ => ?_
  refine hs_seq (M := fun s' => ∃ g, s' = ⟨[some (ws z), some (wt ds), some (.o a), g], [(a, .lst ((strD (ds.map txtD6)).map .d))]⟩) (hs_forT (ds := ds) (ev_var rfl) (fun i s' => ∃ g, s' = ⟨[some (ws z), some (wt ds), some (.o a), g], [(a, .lst ((strD ((ds.take i).map txtD6)).map .d))]⟩) ⟨_, ⟨none, rfl⟩, by walk_at "Dle"⟩ ?_ (fun s' h => by obtain ⟨g, rfl⟩ := h; exact ⟨g, by rw [List.take_length]⟩)) ?_
  · rintro i dd s' hdd ⟨g, rfl⟩
    have hil : i < ds.length := (List.getElem?_eq_some_iff.mp hdd).1
    have hsz : ((strD ((ds.take i).map txtD6)).map W.d).length < sizeLine := by simp [strD, sizeLine_eq]; omega
    obtain ⟨d', p, q1, q2, q3⟩ := htu.at hil
    rw [hdd] at q1
    cases q1
    have e1 : strD ((ds.take (i + 1)).map txtD6) = strD ((ds.take i).map txtD6) ++ [.str (txtD6 dd)] := by rw [List.take_add_one, hdd]; simp [strD]
    refine ⟨_, gs_name, ?_⟩
    unfold TupAt at q3
    split at q3
    · obtain ⟨n, hn, rfl, rfl⟩ := q3
      refine hs_if (b := false) (et_is (et_tb (ev_cb' (ea_cons (ev_var rfl) (ea_cons ev_cx ea_nil)) (rc_isiI (by decide)))) (by decide)) (fun hb => by cases hb) (fun _ => ?_)
      refine hs_app (n := 0) rfl (ev_var rfl) (ev_cb' (ea_cons (ev_var rfl) ea_nil) (rc_strUI (log_len hn))) hsz ⟨_, ⟨some (wi (n : Int)), by rw [e1, List.map_append]; rfl⟩, by walk_at "Dle"⟩
    · subst q3
      refine hs_if (b := true) (et_is (et_tb (ev_cb' (ea_cons (ev_var rfl) (ea_cons ev_cx ea_nil)) (rc_isiS (by decide)))) (by decide)) (fun _ => ?_) (fun hb => by cases hb)
      refine hs_app (n := 0) rfl (ev_var rfl) (ev_var rfl) hsz ⟨_, ⟨some (ws p), by rw [e1, List.map_append]; rfl⟩, by walk_at "Dle"⟩
  rintro s' ⟨g, rfl⟩
  rw [htx]
  refine hs_share rfl (G := [some (ws z), some (wt ds), some (wl (strD (w :: t :: (es ++ row)))), g]) ⟨rfl, fun i w hi => ?_⟩ ?_
  · rcases i with _ | _ | _ | _ | i
    · exact .inl hi
    · exact .inl hi
    · have : wl (strD (_ :: t :: (es ++ row))) = w := Option.some.inj (Option.some.inj hi)
      exact .inr ⟨this.symm, rfl⟩
    · exact .inl hi
    · exact .inl (by simpa using hi)
  refine hs_ret0 (ev_is (ev_andV (ev_op (ev_call (w := ws z) (ea_cons (ev_var rfl) ea_nil) ⟨rfl, _, rfl, hL, by rw [hT.p], rfl⟩) (ev_var rfl) rv_eqS) (fun _ => ev_call (w := wb true) (ea_cons (ev_var rfl) (ea_cons (ev_var rfl) ea_nil)) ⟨rfl, ds, _, rfl, htu, by omega, rfl, rfl⟩)) (show _ = wb true by simp)) hk
abbrev s__law_spoil : Stmt := topS 49
theorem sc__law_spoil : FnScope ["parts", "numbers", "rows", "at"] ["parts", "numbers"] (defScope s__law_spoil) := ⟨rfl, rfl, rfl, by decide +kernel, rfl, by decide +kernel, by decide +kernel⟩
set_option maxHeartbeats 4000000 in
theorem ok__law_spoil {f : Addr} {fd : FuncData} (F : Fun K "_law_spoil" "_law_spoil" s__law_spoil f fd) (hg : mg "_law_spoil" = some (.ref f)) (hb : Binds K fd ["parts", "numbers"] []) (z_list : mg "list" = none) (z_len : mg "len" = none) (n__law_packed : Kn P w K mg base CX0 1 "_law_packed" ["parts"] t_lpackL) : Kn P w K mg base CX0 2 "_law_spoil" ["parts", "numbers"] t_lspl := by
  refine kn_of F hg hb sc__law_spoil (fun xs Δ k ex h => (by obtain ⟨_, _, _, _, _, rfl, _⟩ := h; rfl)) (fun cdv A outer s H E hr => ⟨_, (pss_cons (ps_set (i := 2) sc__law_spoil.nd rfl (.inl rfl) (pe_cT (listK K) z_list (by decide +kernel) (pa_cons (pv 0) pa_nil)))
      (pss_cons (ps_set (i := 3) sc__law_spoil.nd rfl (.inl rfl) (pe_op op_mod (pe_ix (ixK K) (pv 1) pe_int (fun _ _ => rfl)) (pe_cB (lenK K) z_len (by decide +kernel) (pa_cons (pv 2) pa_nil))))
      (pss_cons (ps_if (pt_cmpR (op_eqA K hr) (pe_op op_mod (pe_ix (ixK K) (pv 1) pe_int (fun _ _ => rfl)) pe_int) pe_int (nomark _)) (pss_one (ps_expr (bmK K PySem.F.plainAttrs_list PySem.F.slot_list_pop PySem.F.type_list_pop mt_popAM (pv 2) (pa_cons (pv 3) pa_nil)))) (pss_one (ps_if (pt_cmpR (op_eqA K hr) (pe_op op_mod (pe_ix (ixK K) (pv 1) pe_int (fun _ _ => rfl)) pe_int) pe_int (nomark _)) (pss_one (ps_expr (bmK K PySem.F.plainAttrs_list PySem.F.slot_list_insert PySem.F.type_list_insert mt_insM (pv 2) (pa_cons (pv 3) (pa_cons (pe_ix (ixK K) (pv 2) (pe_op op_mod (pe_ix (ixK K) (pv 1) pe_int (fun _ _ => rfl)) (pe_cB (lenK K) z_len (by decide +kernel) (pa_cons (pv 2) pa_nil))) (fun _ _ => rfl)) pa_nil))))) (pss_one (ps_asg (pe_ix (ixK K) (pe_lst (pa_cons pe_str (pa_cons pe_str (pa_cons pe_str (pa_cons pe_str (pa_cons pe_str (pa_cons pe_str (pa_cons pe_str (pa_cons pe_str (pa_cons pe_str (pa_cons pe_str (pa_cons pe_str (pa_cons pe_str (pa_cons pe_str (pa_cons pe_str (pa_cons pe_str (pa_cons pe_str pa_nil))))))))))))))))) (pe_op op_mod (pe_ix (ixK K) (pv 1) pe_int (fun _ _ => rfl)) pe_int) (fun _ _ => rfl)) (pg_sub (pv 2) (pv 3) set_list))))))
      (pss_one (ps_ret (pe_kn n__law_packed hr (by decide) (pa_cons (pv 2) pa_nil) pass0)))))), ?_⟩)
  rintro xs Δ k ex ⟨rfl, ps, a, b, c, rfl, hM, hk⟩
  walk_at "Dgo"
  obtain ⟨i1, i2⟩ := emod_lt (a := a) hM.2.1
  obtain ⟨j1, j2⟩ := emod_lt (a := c) hM.2.1
  obtain ⟨s1, s2⟩ := emod_lt (a := c) (n := 16) (by decide)
  have hps := hM.1
  have hsp := spoil_ok hM a b c
  have hpk := med_pk hsp.1 hsp.2
  have y0 : atI ([PyData.int a, .int b, .int c].map W.d) 0 = some (wi a) := rfl
  have y1 : atI ([PyData.int a, .int b, .int c].map W.d) 1 = some (wi b) := rfl
  have y2 : atI ([PyData.int a, .int b, .int c].map W.d) 2 = some (wi c) := rfl
  refine hq_new (xs := txs ps) (evf_cb (ea_cons (ev_var rfl) ea_nil) (by walk_at "Drcf")) fun r _ => ?_
  have hL : (((txs ps).length : Nat) : Int) = (ps.length : Int) := by rw [txs_len]
  have hpos : (0 : Int) < (((txs ps).length : Nat) : Int) := by rw [hL]; have := hM.2.1; omega
  refine hq_asg (w := wi ((a % (ps.length : Int)).toNat : Int)) (ev_is (ev_op (ev_op (ev_var rfl) ev_ci (by walk_at "Drv")) (ev_cb' (ea_cons (ev_var rfl) ea_nil) (by walk_at "Drc")) (by walk_at "Drv")) (congrArg wi (by rw [hL]; exact i2))) ?_
  generalize hi : (a % (ps.length : Int)).toNat = i at i1
  refine hs_seq (M := fun s' => s' = ⟨[some (wl (strD ps)), some (wl [.int a, .int b, .int c]), some (.o r), some (wi (i : Int))], [(r, .lst (txs (spoilP ps a b c)))]⟩) ?_ ?_
  · refine hs_if (et_test (ev_op (ev_op (ev_op (ev_var rfl) ev_ci (by walk_at "Drv")) ev_ci (by walk_at "Drv")) ev_ci (by walk_at "Drv"))) (fun hb => ?_) (fun hb => ?_)
    · have e : spoilP ps a b c = ps.eraseIdx i := by unfold spoilP; rw [if_pos (of_decide_eq_true hb), hi]
      refine hs_dropG (evg_popA (n := 0) rfl (ev_var rfl) (ev_var rfl) (by rw [txs_len, sizeLine_eq]; omega) (txs_getI (getD_mem i1).1) ?_)
      show _ = _
      rw [e, ← txs_eraseI]
      rfl
    · refine hs_if (et_test (ev_op (ev_op (ev_op (ev_var rfl) ev_ci (by walk_at "Drv")) ev_ci (by walk_at "Drv")) ev_ci (by walk_at "Drv"))) (fun hb2 => ?_) (fun hb2 => ?_)
      · have e : spoilP ps a b c = ps.take i ++ [ps.getD (c % (ps.length : Int)).toNat Str.empty] ++ ps.drop i := by unfold spoilP; rw [if_neg (of_decide_eq_false hb), if_pos (of_decide_eq_true hb2), hi]
        have hx : atI (txs ps) (c % (((txs ps).length : Nat) : Int)) = some (ws (ps.getD (c % (ps.length : Int)).toNat Str.empty)) := by
          rw [hL, j2]
          exact atI_nat (txs_getI (getD_mem j1).1)
        refine hs_dropG (evg_ins (n := 0) rfl (ev_var rfl) (ev_var rfl) (ev_op (ev_var rfl) (ev_op (ev_op (ev_var rfl) ev_ci (by walk_at "Drv")) (ev_cb' (ea_cons (ev_var rfl) ea_nil) (by walk_at "Drc")) (by walk_at "Drv")) (rv_ixL (lv_o 0 rfl) hx)) (by rw [txs_len, sizeLine_eq]; omega) (by omega) ?_)
        show _ = _
        rw [e]
        simp only [txs, List.map_append, List.map_take, List.map_drop, List.map_cons, List.map_nil]
        rfl
      · have e : spoilP ps a b c = ps.set i (SPLs.getD (c % 16).toNat Str.empty) := by unfold spoilP; rw [if_neg (of_decide_eq_false hb), if_neg (of_decide_eq_false hb2), hi]
        have hx : atI ((SPLs.map PyData.str).map W.d) (c % 16) = some (ws (SPLs.getD (c % 16).toNat Str.empty)) := by
          rw [show c % 16 = ((c % ((16 : Nat) : Int)).toNat : Int) from s2]
          exact atI_nat (by rw [List.getElem?_map, List.getElem?_map, (getD_mem (l := SPLs) s1).1]; rfl)
        refine hs_asgG (ev_op (ev_is (y := wl (SPLs.map .str)) (ev_lst (ea_cons ev_cs (ea_cons ev_cs (ea_cons ev_cs (ea_cons ev_cs (ea_cons ev_cs (ea_cons ev_cs (ea_cons ev_cs (ea_cons ev_cs (ea_cons ev_cs (ea_cons ev_cs (ea_cons ev_cs (ea_cons ev_cs (ea_cons ev_cs (ea_cons ev_cs (ea_cons ev_cs (ea_cons ev_cs ea_nil)))))))))))))))) (by walk_at "Dsz")) rfl) (ev_op (ev_op (ev_var rfl) ev_ci (by walk_at "Drv")) ev_ci (by walk_at "Drv")) (rv_ixL lv_d hx)) (gs_set (n := 0) rfl (ev_var rfl) (ev_var rfl) (show ixN (txs ps).length (i : Int) = some i by rw [txs_len]; exact ix_nat i1)) ?_
        show _ = _
        rw [e]
        simp only [txs, List.map_set]
        rfl
  rintro s' rfl
  exact hs_ret0 (ev_callB (w := ws (mk (packL (spoilP ps a b c)))) (ea_cons (ev_var rfl) ea_nil) (.cons (vw_o 0 rfl) .nil) ⟨rfl, spoilP ps a b c, rfl, hpk.1, rfl, rfl⟩ rfl) hk
abbrev s_law : Stmt := topS 50
theorem sc_law : FnScope ["script", "numbers", "twin", "question", "moment", "files", "k", "due", "letters", "first", "second", "names", "at", "third", "parts", "letter", "place", "sign"] ["script"] (defScope s_law) := ⟨rfl, rfl, rfl, by decide +kernel, rfl, by decide +kernel, by decide +kernel⟩
set_option maxHeartbeats 4000000 in
theorem fn_law {f : Addr} {fd : FuncData} (F : Fun K "law" "law" s_law f fd) {C_BadForm : Addr} {C_NotAllowed : Addr} (z_range : mg "range" = none) (z_len : mg "len" = none) (z_str : mg "str" = none) (z_sorted : mg "sorted" = none) (n__law_numbers : Kn P w K mg base CX0 1 "_law_numbers" ["script", "many"] t_numbers) (n__law_event : Kn P w K mg base CX0 1 "_law_event" ["number"] t_levent) (n__law_files : Kn P w K mg base CX0 3 "_law_files" ["numbers", "at", "many"] t_lfiles) (n__law_refused : Kn P w K mg base CX0 3 "_law_refused" ["twin", "question", "moment", "files"] t_lrefu) (n__law_odd_files : Kn P w K mg base CX0 3 "_law_odd_files" ["twin", "question", "moment", "files", "number"] t_lodd) (n__law_expected : Kn P w K mg base CX0 2 "_law_expected" ["twin", "question", "moment", "files"] t_lexp) (n__law_texts : Kn P w K mg base CX0 1 "_law_texts" ["actual", "expected"] t_texts) (n_part_letters : Kn P w K mg base (L2.CX P w) 2 "part_letters" ["twin", "question", "moment", "files"] (t_plet C_NotAllowed)) (n_done_letter : Kn P w K mg base (L2.CX P w) 2 "done_letter" ["twin", "question", "moment"] (t_donel C_NotAllowed)) (n__law_packed : Kn P w K mg base CX0 1 "_law_packed" ["parts"] t_lpackL) (n_ask_letter : Kn P w K mg base (L2.CX P w) 2 "ask_letter" ["twin", "question"] (t_askl C_NotAllowed)) (n__law_spoilt_read : Kn P w K mg base CX0 6 "_law_spoilt_read" ["letter"] t_lspr) (n__law_spoil : Kn P w K mg base CX0 2 "_law_spoil" ["parts", "numbers"] t_lspl) (n__law_is_tuple : Kn P w K mg base CX0 2 "_law_is_tuple" ["told", "parts"] t_istup) (n_read_letter : Kn P w K mg base (L2.CX P w) 5 "read_letter" ["letter"] (t_rlet C_BadForm)) (n__law_signs : Kn P w K mg base CX0 1 "_law_signs" [] t_signs) : FnOk P w K mg base CX0 7 f fd ["script"] (spOf K lawT) := by
  refine fn_ok F sc_law (fun xs Δ k ex h => by obtain ⟨_, _, rfl, _⟩ := h; rfl) (fun cdv A outer s H E hr => ⟨_, (pss_cons (ps_set (i := 1) sc_law.nd rfl (.inl rfl) (pe_kn n__law_numbers hr (by decide) (pa_cons (pv 0) (pa_cons pe_int pa_nil)) pass0))
      (pss_cons (ps_set (i := 2) sc_law.nd rfl (.inl rfl) (pe_ix (ixK K) (pe_lst (pa_cons pe_str (pa_cons pe_str (pa_cons pe_str (pa_cons pe_str (pa_cons pe_str (pa_cons pe_str (pa_cons pe_str (pa_cons pe_str (pa_cons pe_str (pa_cons pe_str pa_nil))))))))))) (pe_op op_mod (pe_ix (ixK K) (pv 1) pe_int (fun _ _ => rfl)) pe_int) (fun _ _ => rfl)))
      (pss_cons (ps_set (i := 3) sc_law.nd rfl (.inl rfl) (pe_kn n__law_event hr (by decide) (pa_cons (pe_ix (ixK K) (pv 1) pe_int (fun _ _ => rfl)) pa_nil) pass0))
      (pss_cons (ps_set (i := 4) sc_law.nd rfl (.inl rfl) (pe_kn n__law_event hr (by decide) (pa_cons (pe_ix (ixK K) (pv 1) pe_int (fun _ _ => rfl)) pa_nil) pass0))
      (pss_cons (ps_set (i := 5) sc_law.nd rfl (.inl rfl) (pe_kn n__law_files hr (by decide) (pa_cons (pv 1) (pa_cons pe_int (pa_cons (pe_op op_mod (pe_ix (ixK K) (pv 1) pe_int (fun _ _ => rfl)) pe_int) pa_nil))) pass0))
      (pss_cons (ps_if (pt_cmpR (op_eqA K hr) (pe_op op_mod (pe_op op_fdiv (pe_ix (ixK K) (pv 1) pe_int (fun _ _ => rfl)) pe_int) pe_int) pe_int (nomark _)) (pss_one (ps_for PassesOwn.never rfl (pi_range1 (by rfl) z_range (pa_cons (pe_op op_sub (pe_op op_addU pe_int (pe_op op_mod (pe_ix (ixK K) (pv 1) pe_int (fun _ _ => rfl)) pe_int)) (pe_cB lenDK z_len (by decide +kernel) (pa_cons (pv 5) pa_nil))) pa_nil)) (pg_name (i := 6) sc_law.nd rfl (.inl rfl)) (pss_one (ps_dput (hu_of hr) (pv 5) (pe_op op_addU pe_str (pe_cT call_str_int z_str (by decide +kernel) (pa_cons (pv 6) pa_nil))) pe_str rfl)))) pss_nil)
      (pss_cons (ps_set (i := 7) sc_law.nd rfl (.inl rfl) (pe_lst pa_nil))
      (pss_cons (ps_if (PW.pt (pw_or (pt_cmpR (op_ninT K) (pv 2) (pe_lst (pa_cons pe_str (pa_cons pe_str (pa_cons pe_str pa_nil)))) (by rfl)) (pw_or (pt_cmpR op_ltU (pv 3) pe_int (nomark _)) (pw_or1 (pt_cmpR op_gtU (pv 3) pe_int (nomark _)))))) (pss_one (ps_set (i := 7) sc_law.nd rfl (.inl rfl) (pe_lst (pa_cons pe_str (pa_cons pe_str (pa_cons pe_str pa_nil)))))) (pss_one (ps_if (PW.pt (pw_or (pt_cmpR op_ltU (pv 4) pe_int (nomark _)) (pw_or1 (pt_cmpR op_gtU (pv 4) pe_int (nomark _))))) (pss_one (ps_set (i := 7) sc_law.nd rfl (.inl rfl) (pe_lst (pa_cons pe_str (pa_cons pe_str pa_nil))))) (pss_one (ps_if (pt_cmpR op_gtU (pe_cB lenDK z_len (by decide +kernel) (pa_cons (pv 5) pa_nil)) pe_int (nomark _)) (pss_one (ps_set (i := 7) sc_law.nd rfl (.inl rfl) (pe_lst (pa_cons pe_str pa_nil)))) pss_nil)))))
      (pss_cons (ps_if (pt_cmpR (op_neA K hr) (pe_kn n__law_refused hr (by decide) (pa_cons (pv 2) (pa_cons (pv 3) (pa_cons (pv 4) (pa_cons (pv 5) pa_nil)))) pass0) (pv 7) (nomark _)) (pss_one (ps_ret pe_bl)) pss_nil)
      (pss_cons (ps_if (pt_cmpR op_gtU (pe_cB (lenK K) z_len (by decide +kernel) (pa_cons (pv 7) pa_nil)) pe_int (nomark _)) (pss_one (ps_ret pe_bl)) pss_nil)
      (pss_cons (ps_if (PW.pt (pw_and (pt_cmpR op_ltU (pe_cB lenDK z_len (by decide +kernel) (pa_cons (pv 5) pa_nil)) pe_int (nomark _)) (pw_and1 (pt_not (pt_truK K (pe_kn n__law_odd_files hr (by decide) (pa_cons (pv 2) (pa_cons (pv 3) (pa_cons (pv 4) (pa_cons (pv 5) (pa_cons (pe_ix (ixK K) (pv 1) pe_int (fun _ _ => rfl)) pa_nil))))) pass0) (by intro _; rfl)))))) (pss_one (ps_ret pe_bl)) pss_nil)
      (pss_cons (ps_set (i := 8) sc_law.nd rfl (.inl rfl) (pe_kn n__law_expected hr (by decide) (pa_cons (pv 2) (pa_cons (pv 3) (pa_cons (pv 4) (pa_cons (pv 5) pa_nil)))) pass0))
      (pss_cons (ps_if (pt_not (pt_truK K (pe_kn n__law_texts hr (by decide) (pa_cons (pe_knS n_part_letters hr (by decide) (pa_cons (pv 2) (pa_cons (pv 3) (pa_cons (pv 4) (pa_cons (pv 5) pa_nil)))) takes0) (pa_cons (pv 8) pa_nil)) pass0) (by intro _; rfl))) (pss_one (ps_ret pe_bl)) pss_nil)
      (pss_cons (ps_set (i := 9) sc_law.nd rfl (.inl rfl) (pe_lst (pa_cons pe_str (pa_cons (pv 2) (pa_cons (pe_cT call_str_int z_str (by decide +kernel) (pa_cons (pv 3) pa_nil)) pa_nil)))))
      (pss_cons (ps_set (i := 10) sc_law.nd rfl (.inl rfl) (pe_lst (pa_cons pe_str (pa_cons (pv 2) (pa_cons (pe_cT call_str_int z_str (by decide +kernel) (pa_cons (pv 3) pa_nil)) (pa_cons (pe_cT call_str_int z_str (by decide +kernel) (pa_cons (pv 4) pa_nil)) pa_nil))))))
      (pss_cons (ps_if (PW.pt (pw_or (pt_cmpR (op_neA K hr) (pe_knS n_ask_letter hr (by decide) (pa_cons (pv 2) (pa_cons (pv 3) pa_nil)) takes0) (pe_kn n__law_packed hr (by decide) (pa_cons (pv 9) pa_nil) pass0) (nomark _)) (pw_or1 (pt_cmpR (op_neA K hr) (pe_knS n_done_letter hr (by decide) (pa_cons (pv 2) (pa_cons (pv 3) (pa_cons (pv 4) pa_nil))) takes0) (pe_kn n__law_packed hr (by decide) (pa_cons (pv 10) pa_nil) pass0) (nomark _))))) (pss_one (ps_ret pe_bl)) pss_nil)
      (pss_cons (ps_set (i := 11) sc_law.nd rfl (.inl rfl) (pe_cB (sortedDuK rfl hr) z_sorted (by decide +kernel) (pa_cons (pv 5) pa_nil)))
      (pss_cons (ps_set (i := 12) sc_law.nd rfl (.inl rfl) (pe_op op_mod (pe_ix (ixK K) (pv 1) pe_int (fun _ _ => rfl)) (pe_cB (lenK K) z_len (by decide +kernel) (pa_cons (pv 8) pa_nil))))
      (pss_cons (ps_set (i := 13) sc_law.nd rfl (.inl rfl) (pe_lst (pa_cons pe_str (pa_cons (pv 2) (pa_cons (pe_cT call_str_int z_str (by decide +kernel) (pa_cons (pv 3) pa_nil)) (pa_cons (pe_cT call_str_int z_str (by decide +kernel) (pa_cons (pv 4) pa_nil)) (pa_cons pe_str (pa_cons pe_str (pa_cons pe_str (pa_cons pe_str pa_nil))))))))))
      (pss_cons (ps_if (pt_cmpR op_gtU (pe_cB (lenK K) z_len (by decide +kernel) (pa_cons (pv 11) pa_nil)) pe_int (nomark _)) (pss_one (ps_set (i := 13) sc_law.nd rfl (.inl rfl) (pe_op op_addU (pe_slice (slK K) (pv 13) po_none (po_some pe_int)) (pe_lst (pa_cons (pe_cT call_str_int z_str (by decide +kernel) (pa_cons (pv 12) pa_nil)) (pa_cons (pe_cT call_str_int z_str (by decide +kernel) (pa_cons (pe_cB (lenK K) z_len (by decide +kernel) (pa_cons (pv 11) pa_nil)) pa_nil)) (pa_cons (pe_ix (ixK K) (pv 11) (pv 12) (fun _ _ => rfl)) (pa_cons (pe_dget (hu_of hr) (pv 5) (pe_ix (ixK K) (pv 11) (pv 12) (fun _ _ => rfl)) (fun _ _ => rfl)) pa_nil)))))))) pss_nil)
      (pss_cons (ps_for PassesOwn.never rfl (pi_listK K (pe_lst (pa_cons (pv 9) (pa_cons (pv 10) (pa_cons (pv 13) pa_nil))))) (pg_name (i := 14) sc_law.nd rfl (.inl rfl)) (pss_cons (ps_set (i := 15) sc_law.nd rfl (.inl rfl) (pe_kn n__law_packed hr (by decide) (pa_cons (pv 14) pa_nil) pass0))
      (pss_cons (ps_if (PW.pt (pw_or (pt_not (pt_truK K (pe_kn n__law_is_tuple hr (by decide) (pa_cons (pe_knS n_read_letter hr (by decide) (pa_cons (pv 15) pa_nil) takes0) (pa_cons (pv 14) pa_nil)) pass0) (by intro _; rfl))) (pw_or1 (pt_not (pt_truK K (pe_kn n__law_spoilt_read hr (by decide) (pa_cons (pe_kn n__law_spoil hr (by decide) (pa_cons (pv 14) (pa_cons (pe_slice (slK K) (pv 1) (po_some pe_int) (po_some pe_int)) pa_nil)) pass0) pa_nil) pass0) (by intro _; rfl)))))) (pss_one (ps_ret pe_bl)) pss_nil)
      (pss_cons (ps_set (i := 16) sc_law.nd rfl (.inl rfl) (pe_op op_mod (pe_ix (ixK K) (pv 1) pe_int (fun _ _ => rfl)) (pe_cB (lenK K) z_len (by decide +kernel) (pa_cons (pv 15) pa_nil))))
      (pss_cons (ps_set (i := 17) sc_law.nd rfl (.inl rfl) (pe_ix (ixK K) (pe_kn0 n__law_signs hr (by decide) pass0) (pe_op op_mod (pe_ix (ixK K) (pv 1) pe_int (fun _ _ => rfl)) pe_int) (fun _ _ => rfl)))
      (pss_one (ps_if (pt_not (pt_truK K (pe_kn n__law_spoilt_read hr (by decide) (pa_cons (pe_op op_addU (pe_op op_addU (pe_slice (slK K) (pv 15) po_none (po_some (pv 16))) (pv 17)) (pe_slice (slK K) (pv 15) (po_some (pe_op op_addU (pv 16) pe_int)) po_none)) pa_nil) pass0) (by intro _; rfl))) (pss_one (ps_ret pe_bl)) pss_nil)))))))
      (pss_one (ps_ret pe_bl))))))))))))))))))))))), ?_⟩)
  rintro xs Δ k ex ⟨rfl, sc, rfl, hsc, hk⟩
  walk_at "Dgo"
  refine hq_asgT (ea_cons (ev_var rfl) (ea_cons ev_ci ea_nil)) ⟨rfl, sc, 30, rfl, hsc, by decide, fun ns hn hg => ⟨rfl, ?_⟩⟩
  have nx : ∀ j : Nat, j < 30 → atI ((ns.map PyData.int).map W.d) (j : Int) = some (wi (ns.getD j 0)) := fun j hj => ranges30 hn j hj
  have x0 : atI ((ns.map PyData.int).map W.d) 0 = some (wi (ns.getD 0 0)) := nx 0 (by decide)
  have x1 : atI ((ns.map PyData.int).map W.d) 1 = some (wi (ns.getD 1 0)) := nx 1 (by decide)
  have x2 : atI ((ns.map PyData.int).map W.d) 2 = some (wi (ns.getD 2 0)) := nx 2 (by decide)
  have x3 : atI ((ns.map PyData.int).map W.d) 3 = some (wi (ns.getD 3 0)) := nx 3 (by decide)
  have x4 : atI ((ns.map PyData.int).map W.d) 4 = some (wi (ns.getD 4 0)) := nx 4 (by decide)
  have x5 : atI ((ns.map PyData.int).map W.d) 5 = some (wi (ns.getD 5 0)) := nx 5 (by decide)
  have x9 : atI ((ns.map PyData.int).map W.d) 9 = some (wi (ns.getD 9 0)) := nx 9 (by decide)
  have x10 : atI ((ns.map PyData.int).map W.d) 10 = some (wi (ns.getD 10 0)) := nx 10 (by decide)
  have x11 : atI ((ns.map PyData.int).map W.d) 11 = some (wi (ns.getD 11 0)) := nx 11 (by decide)
  have hsl := slice3 hn
  generalize ns.getD 1 0 = v1 at x1
  generalize ns.getD 2 0 = v2 at x2
  generalize ns.getD 5 0 = v5 at x5
  generalize ns.getD 6 0 = v6 at hsl
  generalize ns.getD 7 0 = v7 at hsl
  generalize ns.getD 8 0 = v8 at hsl
  generalize ns.getD 9 0 = v9 at x9
  generalize ns.getD 10 0 = v10 at x10
  generalize ns.getD 11 0 = v11 at x11
  obtain ⟨z, hzx, hzm⟩ : ∃ z, atI ((TWL.map PyData.str).map W.d) (ns.getD 0 0 % 10) = some (ws z) ∧ z ∈ TWL := by
    obtain ⟨h1, h2⟩ := emod_lt (a := ns.getD 0 0) (n := 10) (by decide)
    obtain ⟨h3, h4⟩ := getD_mem (l := TWL) (i := (ns.getD 0 0 % ((10 : Nat) : Int)).toNat) h1
    refine ⟨_, ?_, h4⟩
    rw [show ns.getD 0 0 % 10 = ((ns.getD 0 0 % ((10 : Nat) : Int)).toNat : Int) from h2]
    exact atI_nat (by rw [List.getElem?_map, List.getElem?_map, h3]; rfl)
  refine hq_asg (ev_op (ev_is (y := wl (TWL.map .str)) (ev_lst (ea_cons ev_cs (ea_cons ev_cs (ea_cons ev_cs (ea_cons ev_cs (ea_cons ev_cs (ea_cons ev_cs (ea_cons ev_cs (ea_cons ev_cs (ea_cons ev_cs (ea_cons ev_cs ea_nil)))))))))) (by walk_at "Dsz")) rfl) (ev_op (ev_op (ev_var rfl) ev_ci (by walk_at "Drv")) ev_ci (by walk_at "Drv")) (rv_ixL lv_d hzx)) ?_
  refine hq_asg (ev_call (w := wi (levF v1)) (ea_cons (ev_op (ev_var rfl) ev_ci (by walk_at "Drv")) ea_nil) ⟨rfl, _, rfl, rfl, rfl⟩) ?_
  refine hq_asg (ev_call (w := wi (levF v2)) (ea_cons (ev_op (ev_var rfl) ev_ci (by walk_at "Drv")) ea_nil) ⟨rfl, _, rfl, rfl, rfl⟩) ?_
  generalize levF v1 = q
  generalize levF v2 = m
  obtain ⟨f1, f2⟩ := emod_lt (a := ns.getD 3 0) (n := 6) (by decide)
  refine hq_asgC (ea_is (ys := [wl (ns.map .int), wi ((12 : Nat) : Int), wi ((ns.getD 3 0 % ((6 : Nat) : Int)).toNat : Int)]) (ea_cons (ev_var rfl) (ea_cons ev_ci (ea_cons (ev_op (ev_op (ev_var rfl) ev_ci (by walk_at "Drv")) ev_ci (by walk_at "Drv")) ea_nil))) (by rw [← f2]; rfl)) ⟨rfl, ns, 12, _, rfl, by omega, by omega, fun d cs hFew => ?_⟩
  have hB0 := hFew.b
  generalize (ns.getD 3 0 % ((6 : Nat) : Int)).toNat = c5 at f1 hB0
  clear hFew
  show HS K _ _ ⟨[some (.sc sc), some (wl (ns.map .int)), some (ws z), some (wi q), some (wi m), some (.o d), none, none, none, none, none, none, none, none, none, none, none, none], [(d, .dic (cs.map kvF))]⟩ _
  refine hs_seq (M := fun s' => ∃ (cs : List Fl) (g : Option W), FlB cs 40 ∧ s' = ⟨[some (.sc sc), some (wl (ns.map .int)), some (ws z), some (wi q), some (wi m), some (.o d), g, none, none, none, none, none, none, none, none, none, none, none], [(d, .dic (cs.map kvF))]⟩) (hs_if (et_test (ev_op (ev_op (ev_op (ev_op (ev_var rfl) ev_ci (by walk_at "Drv")) ev_ci (by walk_at "Drv")) ev_ci (by walk_at "Drv")) ev_ci (by walk_at "Drv"))) (fun _ => ?_) (fun _ => hs_next (Le.refl _) ⟨cs, none, ⟨hB0.nd, by have := hB0.ln; omega, hB0.ok⟩, rfl⟩)) ?_
  · have hcl := hB0.ln
    refine hl_forR (n := 30 + ns.getD 4 0 % 2 - (cs.length : Int)) (ea_cons (ev_is (ev_op (ev_op ev_ci (ev_op (ev_op (ev_var rfl) ev_ci (by walk_at "Drv")) ev_ci (by walk_at "Drv")) (by walk_at "Drv")) (ev_cb' (ea_cons (ev_var rfl) ea_nil) (rc_lenD (da_d 0 rfl))) rv_sub) (by rw [List.length_map])) ea_nil) (by omega) (fun i s' => ∃ (cs' : List Fl) (g : Option W), FlB cs' (cs.length + i) ∧ s' = ⟨[some (.sc sc), some (wl (ns.map .int)), some (ws z), some (wi q), some (wi m), some (.o d), g, none, none, none, none, none, none, none, none, none, none, none], [(d, .dic (cs'.map kvF))]⟩) ⟨_, ⟨cs, none, ⟨hB0.nd, Nat.le_refl _, hB0.ok⟩, rfl⟩, by walk_at "Dle"⟩ ?_ ?_
    · rintro i s' hi ⟨cs', g, hB, rfl⟩
      have hi31 : i < 31 := by omega
      have hnk := n_ok i (List.mem_range.mpr (by omega))
      have hln := hB.ln
      have hz1 : (Str.ofString "n").length + (Str.ofString (toString ((i : Nat) : Int))).length ≤ sizeLine := by rw [num_mk i]; exact Nat.le_trans hnk.2 (by rw [sizeLine_eq]; omega)
      have hlg : ((i : Nat) : Int).natAbs.log2 < 1920 := log_len (by omega)
      refine ⟨_, gs_name, ?_⟩
      refine hs_dput (n := 0) (kvs := cs'.map kvF) (key := .inr (Str.ofString "n" ++ nm i)) rfl ev_cs (ev_var rfl) (ev_kS (ev_is (ev_op ev_cs (ev_cb' (ea_cons (ev_var rfl) ea_nil) (by walk_at "Drc")) (by walk_at "Drv")) (congrArg ws (by rw [num_mk])))) (by rw [List.length_map, sizeLine_eq]; omega) ?_
      have e1 : (Str.ofString "x").length ≤ 400 ∧ ∀ c ∈ tl (Str.ofString "x"), c < 128 := by decide +kernel
      exact ⟨_, ⟨_, some (wi (i : Int)), hB.put hnk.1 (v := "x") e1.1 e1.2, by rw [putF_K]; rfl⟩, by walk_at "Dle"⟩
    · rintro s' ⟨cs', g, hB, rfl⟩
      exact ⟨cs', g, ⟨hB.nd, by have := hB.ln; omega, hB.ok⟩, rfl⟩
  clear hB0
  rintro s' ⟨cs, g, hB, rfl⟩
  have hF := hB.a (by decide)
  have hln := hB.ln
  refine hq_asg (w := wl []) (EvF.ev (ds := []) (evf_lst ea_nil (by walk_at "Dsz"))) ?_
  refine hs_seq (M := fun s' => s' = ⟨[some (.sc sc), some (wl (ns.map .int)), some (ws z), some (wi q), some (wi m), some (.o d), g, some (wl (strD (dueL z q m cs))), none, none, none, none, none, none, none, none, none, none], [(d, .dic (cs.map kvF))]⟩) ?_ ?_
  · have e1 : (!decide (z ∈ twN) || (decide (q < 1) || decide (999999999 < q))) = !decide (z ∈ twN ∧ evI q = true) := by
      unfold evI
      by_cases h1 : z ∈ twN <;> by_cases h2 : q < 1 <;> by_cases h3 : 999999999 < q <;> simp [h1, h2, h3] <;> omega
    have e2 : (decide (m < 1) || decide (999999999 < m)) = !decide (evI m = true) := by
      unfold evI
      by_cases h2 : m < 1 <;> by_cases h3 : 999999999 < m <;> simp [h2, h3] <;> omega
    refine hs_if (et_is (et_or (a := !decide (z ∈ twN)) (et_test (ev_op (ev_var rfl) (ev_is (y := wl (twN.map .str)) (ev_lst (ea_cons ev_cs (ea_cons ev_cs (ea_cons ev_cs ea_nil))) (by walk_at "Dsz")) rfl) (rv_inSq (neg := true) (qv_l lv_d)))) (fun _ => (et_or (et_test (ev_op (ev_var rfl) ev_ci (by walk_at "Drv"))) (fun _ => (et_test (ev_op (ev_var rfl) ev_ci (by walk_at "Drv"))))))) e1) (fun hb => ?_) (fun hb => ?_)
    · have h : ¬ (z ∈ twN ∧ evI q = true) := by rw [Bool.not_eq_true'] at hb; exact of_decide_eq_false hb
      have e : dueL z q m cs = (["ask", "done", "part"] : List Str) := by unfold dueL; rw [if_pos h]
      refine hs_asg (w := wl (strD ["ask", "done", "part"])) (ev_lst (ea_cons ev_cs (ea_cons ev_cs (ea_cons ev_cs ea_nil))) (by walk_at "Dsz")) ?_
      show _ = _
      rw [e]
      rfl
    have h : z ∈ twN ∧ evI q = true := by rw [Bool.not_eq_false'] at hb; exact of_decide_eq_true hb
    refine hs_if (et_is (et_or (et_test (ev_op (ev_var rfl) ev_ci (by walk_at "Drv"))) (fun _ => (et_test (ev_op (ev_var rfl) ev_ci (by walk_at "Drv"))))) e2) (fun hb => ?_) (fun hb => ?_)
    · have h2 : ¬ evI m = true := by rw [Bool.not_eq_true'] at hb; exact of_decide_eq_false hb
      have e : dueL z q m cs = (["done", "part"] : List Str) := by unfold dueL; rw [if_neg (not_not_intro h), if_pos h2]
      refine hs_asg (w := wl (strD ["done", "part"])) (ev_lst (ea_cons ev_cs (ea_cons ev_cs ea_nil)) (by walk_at "Dsz")) ?_
      show _ = _
      rw [e]
      rfl
    have h2 : evI m = true := by rw [Bool.not_eq_false'] at hb; exact of_decide_eq_true hb
    refine hs_if (b := decide (30 < cs.length)) (et_is (et_test (ev_op (ev_cb' (ea_cons (ev_var rfl) ea_nil) (rc_lenD (da_d 0 rfl))) ev_ci rv_gtI)) (by rw [List.length_map]; exact decide_eq_decide.mpr (by omega))) (fun hb => ?_) (fun hb => ?_)
    · have e : dueL z q m cs = (["part"] : List Str) := by unfold dueL; rw [if_neg (not_not_intro h), if_neg (not_not_intro h2), if_pos (of_decide_eq_true hb)]
      refine hs_asg (w := wl (strD ["part"])) (ev_lst (ea_cons ev_cs ea_nil) (by walk_at "Dsz")) ?_
      show _ = _
      rw [e]
      rfl
    · have e : dueL z q m cs = [] := by unfold dueL; rw [if_neg (not_not_intro h), if_neg (not_not_intro h2), if_neg (of_decide_eq_false hb)]
      refine hs_next (Le.refl _) ?_
      show _ = _
      rw [e]
      rfl
  rintro s' rfl
  have shd := shaped_txs (dueL_ok z q m cs)
  refine hq_ifW (b := false) (etw_test (evw_is (evw_op (x := wl (strD (dueL z q m cs))) (evw_gF (ds := strD (dueL z q m cs)) (evg_call0 [true] (EvA.toW (ea_cons (ev_var rfl) (ea_cons (ev_var rfl) (ea_cons (ev_var rfl) (ea_cons (ev_var rfl) ea_nil))))) ⟨d, cs, z, q, m, rfl, rfl, hF, fun a => ⟨a, rfl, by rw [due_eq hB]; exact List.Perm.refl _⟩⟩)) (Ev.toW (ev_var rfl)) (rv_neD dv_d dv_d shd shd)) (by rw [eqv_txs]; simp))) (fun hb => by cases hb) (fun _ => hq_nil ?_)
  have hL : (((strD (dueL z q m cs)).map W.d).length : Int) = ((dueL z q m cs).length : Int) := by rw [List.length_map, strD, List.length_map]
  refine hq_if (et_is (et_test (ev_op (ev_cb' (ea_cons (ev_var rfl) ea_nil) (by walk_at "Drc")) ev_ci (by walk_at "Drv"))) (congrArg (fun i : Int => decide ((0 : Int) < i)) hL)) (fun hb => hq_ret (hs_ret0 ev_cb hk)) (fun hb => hq_nil ?_)
  have hdn : dueL z q m cs = [] := List.eq_nil_of_length_eq_zero (by have := of_decide_eq_false hb; omega)
  obtain ⟨hz, hq, hm, h30⟩ := dueL_nil hdn
  rw [hdn]
  clear hb shd hL hdn
  refine hq_ifW (b := decide (cs.length < 30) && !true) (etw_and (a := decide (cs.length < 30)) (EvT.toW (et_is (et_test (ev_op (ev_cb' (ea_cons (ev_var rfl) ea_nil) (rc_lenD (da_d 0 rfl))) ev_ci rv_ltI)) (by rw [List.length_map]; exact decide_eq_decide.mpr (by omega)))) (fun h => etw_not (a := true) (etw_tb (evw_call [true] (EvA.toW (ea_cons (ev_var rfl) (ea_cons (ev_var rfl) (ea_cons (ev_var rfl) (ea_cons (ev_var rfl) (ea_cons (ev_op (ev_var rfl) ev_ci (by walk_at "Drv")) ea_nil)))))) ⟨d, cs, z, q, m, v11, rfl, rfl, hF, by rw [hB.fs]; exact decide_eq_true h30, of_decide_eq_true h, hz, hq, hm, rfl, rfl⟩)))) (fun hb => by rw [Bool.not_true, Bool.and_false] at hb; cases hb) (fun _ => hq_nil ?_)
  refine hq_asgW (evw_call (w := wl (strD (pletS z q m cs))) [true] (EvA.toW (ea_cons (ev_var rfl) (ea_cons (ev_var rfl) (ea_cons (ev_var rfl) (ea_cons (ev_var rfl) ea_nil))))) ⟨d, cs, z, q, m, rfl, rfl, hF, hz, hq, hm, rfl, rfl⟩) ?_
  have hpl : (ptsF cs).length = max 1 cs.length := by
    unfold ptsF
    by_cases h : cs = []
    · subst h; rfl
    · rw [if_neg h, List.length_map, List.length_range]
      have : 0 < cs.length := List.length_pos_iff.mpr h
      omega
  have hpL : (pletS z q m cs).length = max 1 cs.length := by rw [pletS, List.length_map, hpl]
  have hpo : partOk z q m cs = true := by unfold partOk; rw [decide_eq_true hz, hq, hm, hB.fs, decide_eq_true h30]; rfl
  refine hq_ifW (b := false) (etw_not (a := true) (etw_tb (evw_call [] (eaw_cons (evw_callS (w := wl (strD (pletS z q m cs))) [true] (EvA.toW (ea_cons (ev_var rfl) (ea_cons (ev_var rfl) (ea_cons (ev_var rfl) (ea_cons (ev_var rfl) ea_nil))))) ⟨d, cs, z, q, m, rfl, rfl, hF, fun _ => ⟨rfl, rfl⟩, fun h => by rw [hpo] at h; cases h⟩) (EvA.toW (ea_cons (ev_var rfl) ea_nil))) ⟨rfl, pletS z q m cs, rfl, by omega, rfl, rfl⟩))) (fun hb => by cases hb) (fun _ => hq_nil ?_)
  have hpL' : (((strD (pletS z q m cs)).map W.d).length : Int) = ((max 1 cs.length : Nat) : Int) := by rw [List.length_map, strD, List.length_map, hpL]
  generalize hle : wl (strD (pletS z q m cs)) = wle
  have hlv : ∀ s, LV s wle ((strD (pletS z q m cs)).map W.d) := fun s => by rw [← hle]; exact lv_d
  obtain ⟨n, rfl, n1, n9⟩ := evI_nat hq
  obtain ⟨o, rfl, o1, o9⟩ := evI_nat hm
  refine hq_asg (w := wl (strD ["ask", z, nm n])) (ev_lst (xs := [ws "ask", ws z, ws (nm n)]) (ea_cons ev_cs (ea_cons (ev_var rfl) (ea_cons (ev_cb' (ea_cons (ev_var rfl) ea_nil) (rc_strN n9)) ea_nil))) (by rw [sizeLine_eq]; simp)) ?_
  refine hq_asg (w := wl (strD ["done", z, nm n, nm o])) (ev_lst (xs := [ws "done", ws z, ws (nm n), ws (nm o)]) (ea_cons ev_cs (ea_cons (ev_var rfl) (ea_cons (ev_cb' (ea_cons (ev_var rfl) ea_nil) (rc_strN n9)) (ea_cons (ev_cb' (ea_cons (ev_var rfl) ea_nil) (rc_strN o9)) ea_nil)))) (by rw [sizeLine_eq]; simp)) ?_
  have p1 := pk_first hz n1 n9
  have p2 := pk_second hz n1 n9 o1 o9
  have l1 := (med_pk (by have := p1.m.1; omega) p1.m.2.2).1
  have l2 := (med_pk (by have := p2.m.1; omega) p2.m.2.2).1
  have no1 : ¬ (z ∉ twN ∨ evI (n : Int) = false) := fun h => h.elim (fun h => h hz) (fun h => by rw [hq] at h; cases h)
  have no2 : ¬ (z ∉ twN ∨ evI (n : Int) = false ∨ evI (o : Int) = false) := fun h => h.elim (fun h => h hz) (fun h => h.elim (fun h => by rw [hq] at h; cases h) (fun h => by rw [hm] at h; cases h))
  refine hq_if (b := false) (et_or (a := false) (et_is (et_test (ev_op (ev_callS (w := ws (askS z n)) (ea_cons (ev_var rfl) (ea_cons (ev_var rfl) ea_nil)) ⟨rfl, z, (n : Int), rfl, fun _ _ => ⟨rfl, rfl⟩, fun h => no1 h⟩) (ev_call (w := ws (mk (packL ["ask", z, nm n]))) (ea_cons (ev_var rfl) ea_nil) ⟨rfl, _, rfl, l1, rfl, rfl⟩) rv_neS)) (by show (!decide (askS z (n : Int) = mk (packL ["ask", z, nm n]))) = false; rw [decide_eq_true (show askS z (n : Int) = mk (packL ["ask", z, nm n]) from rfl)]; rfl)) (fun _ => et_is (et_test (ev_op (ev_callS (w := ws (doneS z n o)) (ea_cons (ev_var rfl) (ea_cons (ev_var rfl) (ea_cons (ev_var rfl) ea_nil))) ⟨rfl, z, (n : Int), (o : Int), rfl, fun _ _ _ => ⟨rfl, rfl⟩, fun h => no2 h⟩) (ev_call (w := ws (mk (packL ["done", z, nm n, nm o]))) (ea_cons (ev_var rfl) ea_nil) ⟨rfl, _, rfl, l2, rfl, rfl⟩) rv_neS)) (by show (!decide (doneS z (n : Int) (o : Int) = mk (packL ["done", z, nm n, nm o]))) = false; rw [decide_eq_true (show doneS z (n : Int) (o : Int) = mk (packL ["done", z, nm n, nm o]) from rfl)]; rfl))) (fun hb => by cases hb) (fun _ => hq_nil ?_)
  have hkeys : (cs.map kvF).map (·.1) = (cs.map (·.1)).map Sum.inr := by rw [List.map_map, List.map_map]; rfl
  refine hq_asg (w := wl ((namesF cs).map .str)) (EvF.ev (evf_cb (ea_cons (ev_var rfl) ea_nil) (rcf_sortDu (da_d 0 rfl) hkeys (by rw [List.length_map]; omega)))) ?_
  have hLn : ((((namesF cs).map PyData.str).map W.d).length : Int) = (cs.length : Int) := by rw [List.length_map, List.length_map, namesF_len]
  obtain ⟨t1, t2⟩ := emod_lt (a := v5) (n := max 1 cs.length) (by omega)
  have hpos : (0 : Int) < (((strD (pletS z n o cs)).map W.d).length : Int) := by rw [hpL']; omega
  refine hq_asg (w := wi ((v5 % ((max 1 cs.length : Nat) : Int)).toNat : Int)) (ev_is (ev_op (ev_op (ev_var rfl) ev_ci (by walk_at "Drv")) (ev_cb' (ea_cons (ev_var rfl) ea_nil) (rc_lenL (qv_l (hlv _)))) (rv_mod hpos)) (congrArg wi (by rw [hpL']; exact t2))) ?_
  generalize (v5 % ((max 1 cs.length : Nat) : Int)).toNat = j at t1
  clear t2 hpos
  refine hq_asg (w := wl (strD ["part", z, nm n, nm o, "0", "0", "", ""])) (ev_lst (xs := [ws "part", ws z, ws (nm n), ws (nm o), ws "0", ws "0", ws "", ws ""]) (ea_cons ev_cs (ea_cons (ev_var rfl) (ea_cons (ev_cb' (ea_cons (ev_var rfl) ea_nil) (rc_strN n9)) (ea_cons (ev_cb' (ea_cons (ev_var rfl) ea_nil) (rc_strN o9)) (ea_cons ev_cs (ea_cons ev_cs (ea_cons ev_cs (ea_cons ev_cs ea_nil)))))))) (by rw [sizeLine_eq]; simp)) ?_
  have lit4 : ∀ p ∈ (["0", "0", "", ""] : List Str), p.length ≤ 400 ∧ Asc (tl p) := by
    have h : ∀ p ∈ (["0", "0", "", ""] : List Str), p.length ≤ 400 ∧ ∀ c ∈ tl p, c < 128 := by decide +kernel
    exact h
  refine hs_seq (M := fun s' => ∃ p3, PkL p3 ∧ s' = ⟨[some (.sc sc), some (wl (ns.map .int)), some (ws z), some (wi (n : Int)), some (wi (o : Int)), some (.o d), g, some (wl []), some wle, some (wl (strD ["ask", z, nm n])), some (wl (strD ["done", z, nm n, nm o])), some (wl ((namesF cs).map .str)), some (wi (j : Int)), some (wl (strD p3)), none, none, none, none], [(d, .dic (cs.map kvF))]⟩) ?_ ?_
  · refine hs_if (et_is (et_test (ev_op (ev_cb' (ea_cons (ev_var rfl) ea_nil) (by walk_at "Drc")) ev_ci (by walk_at "Drv"))) (congrArg (fun i : Int => decide ((0 : Int) < i)) hLn)) (fun hb => ?_) (fun _ => hs_next (Le.refl _) ⟨_, pk_third hz n1 n9 o1 o9 lit4 row_zero, rfl⟩)
    have hcp := of_decide_eq_true hb
    have hj : j < cs.length := by omega
    obtain ⟨h1, h2, h3⟩ := hF.at hj
    have hbk := hB.ok _ h1
    have y0 : atI (((namesF cs).map PyData.str).map W.d) (j : Int) = some (ws ((namesF cs).getD j Str.empty)) := atI_nat (by rw [List.getElem?_map, List.getElem?_map, h2]; rfl)
    have hnj := nm_ok (n := j) (by omega)
    have hnc := nm_ok (n := cs.length) (by omega)
    have ecut : cutW ((strD ["part", z, nm n, nm o, "0", "0", "", ""]).map W.d) none (some 4) = (strD ["part", z, nm n, nm o]).map W.d := rfl
    refine hs_asg (w := wl (strD ["part", z, nm n, nm o, nm j, nm cs.length, (namesF cs).getD j Str.empty, lookF cs ((namesF cs).getD j Str.empty)])) (ev_cat (xs := strD ["part", z, nm n, nm o]) (ys := strD [nm j, nm cs.length, (namesF cs).getD j Str.empty, lookF cs ((namesF cs).getD j Str.empty)]) (EvF.ev (evf_is (evf_slL (ev_var rfl) lv_d eo_none (eo_some ev_ci)) ecut)) (ev_lst (xs := [ws (nm j), ws (nm cs.length), ws ((namesF cs).getD j Str.empty), ws (lookF cs ((namesF cs).getD j Str.empty))]) (ea_cons (ev_cb' (ea_cons (ev_var rfl) ea_nil) (rc_strN (by omega))) (ea_cons (ev_cb' (ea_is (ys := [wi (cs.length : Int)]) (ea_cons (ev_cb' (ea_cons (ev_var rfl) ea_nil) (by walk_at "Drc")) ea_nil) (by rw [hLn])) (rc_strN (by omega))) (ea_cons (ev_op (ev_var rfl) (ev_var rfl) (by walk_at "Drv")) (ea_cons (ev_dget (ev_var rfl) (ev_kS (ev_op (ev_var rfl) (ev_var rfl) (by walk_at "Drv"))) (da_d 0 rfl) h3) ea_nil)))) (by rw [sizeLine_eq]; simp)) (by rw [sizeLine_eq]; simp)) ?_
    refine ⟨_, pk_third hz n1 n9 o1 o9 (all_cons ⟨by omega, hnj.2⟩ (all_cons ⟨by omega, hnc.2⟩ (all_cons ⟨by have := hbk.2.1; show ((namesF cs).getD j Str.empty).length ≤ 400; exact Nat.le_trans this (by decide), hbk.2.2.2.1⟩ (all_cons ⟨hbk.2.2.1, hbk.2.2.2.2⟩ all_nil)))) (row_nm hj h30 hbk.1), rfl⟩
  rintro s' ⟨p3, hp3, rfl⟩
  have hall : ∀ p ∈ [[("ask" : Str), z, nm n], [("done" : Str), z, nm n, nm o], p3], PkL p := fun p hp => by
    rcases List.mem_cons.mp hp with rfl | hp
    · exact p1
    rcases List.mem_cons.mp hp with rfl | hp
    · exact p2
    · rw [List.mem_singleton.mp hp]; exact hp3
  refine hq_forL (x := wl ([[("ask" : Str), z, nm n], [("done" : Str), z, nm n, nm o], p3].map fun p => .list (strD p))) (ev_lst (xs := [wl (strD [("ask" : Str), z, nm n]), wl (strD [("done" : Str), z, nm n, nm o]), wl (strD p3)]) (ea_cons (ev_var rfl) (ea_cons (ev_var rfl) (ea_cons (ev_var rfl) ea_nil))) (by rw [sizeLine_eq]; simp)) (fun i s' => ∃ g1 g2 g3 g4, s' = ⟨[some (.sc sc), some (wl (ns.map .int)), some (ws z), some (wi (n : Int)), some (wi (o : Int)), some (.o d), g, some (wl []), some wle, some (wl (strD ["ask", z, nm n])), some (wl (strD ["done", z, nm n, nm o])), some (wl ((namesF cs).map .str)), some (wi (j : Int)), some (wl (strD p3)), g1, g2, g3, g4], [(d, .dic (cs.map kvF))]⟩) ⟨_, ⟨none, none, none, none, rfl⟩, by walk_at "Dle"⟩ (fun i s' h => by obtain ⟨_, _, _, _, rfl⟩ := h; exact lv_d) ?_ ?_
  · rintro i u s' hu ⟨g1, g2, g3, g4, rfl⟩
    rw [List.getElem?_map, List.getElem?_map] at hu
    cases hp : ([[("ask" : Str), z, nm n], [("done" : Str), z, nm n, nm o], p3] : List (List Str))[i]? with
    | none => rw [hp] at hu; cases hu
    | some ps =>
      rw [hp] at hu
      have hu' : wl (strD ps) = u := Option.some.inj hu
      subst hu'
      have hP := hall ps (List.mem_of_getElem? hp)
      obtain ⟨ds, hds⟩ := hP.r
      obtain ⟨hL, hA, hl4⟩ := med_pk (by have := hP.m.1; omega) hP.m.2.2
      have hA' : Asc (tl (mk (packL ps))) := by rw [tlmk]; exact hA
      have hl' : (mk (packL ps)).length ≤ 4000 := by rw [mk_len]; exact hl4
      have htu := tup_pack hL hA (by omega) hds
      have hdl : ds.length ≤ 100 := by rw [htu.len]; have := hP.m.1; omega
      have hsp := spoil_ok hP.m v6 v7 v8
      obtain ⟨hL2, hA2, hl2⟩ := med_pk hsp.1 hsp.2
      refine ⟨_, gs_name, ?_⟩
      refine hq_asg (ev_call (w := ws (mk (packL ps))) (ea_cons (ev_var rfl) ea_nil) ⟨rfl, ps, rfl, hL, rfl, rfl⟩) ?_
      refine hq_if (b := false) (et_or (a := false) (et_is (et_not (a := true) (et_tb (ev_call (w := wb true) (ea_cons (ev_callS (w := wt ds) (ea_cons (ev_var rfl) ea_nil) ⟨rfl, mk (packL ps), rfl, hA', by omega, fun ds' h => by rw [hds] at h; cases h; exact ⟨rfl, rfl⟩, fun h => by rw [hds] at h; cases h⟩) (ea_cons (ev_var rfl) ea_nil)) ⟨rfl, ds, ps, rfl, htu, hdl, rfl, rfl⟩))) rfl) (fun _ => et_is (et_not (a := true) (et_tb (ev_call (w := wb true) (ea_cons (ev_call (w := ws (mk (packL (spoilP ps v6 v7 v8)))) (ea_cons (ev_var rfl) (ea_cons (x := wl [.int v6, .int v7, .int v8]) (EvF.ev (evf_is (evf_slL (ev_var rfl) lv_d (eo_some ev_ci) (eo_some ev_ci)) hsl)) ea_nil)) ⟨rfl, ps, v6, v7, v8, rfl, hP.m, rfl, rfl⟩) ea_nil) ⟨rfl, _, rfl, by rw [tlmk]; exact hA2, by rw [mk_len]; omega, rfl, rfl⟩))) rfl)) (fun hb => by cases hb) (fun _ => hq_nil ?_)
      generalize hz0 : mk (packL ps) = lt at hA' hl'
      have hlp : 0 < lt.length := by
        rw [← hz0, mk_len]
        have := pack_cnt ps
        have := hP.m.2.1
        omega
      have hzs : lt.length ≤ sizeLine := by rw [sizeLine_eq]; omega
      obtain ⟨e1, e2⟩ := emod_lt (a := v9) hlp
      have hposL : (0 : Int) < ((lt.length : Nat) : Int) := by omega
      refine hq_asg (w := wi ((v9 % (lt.length : Int)).toNat : Int)) (ev_is (ev_op (ev_op (ev_var rfl) ev_ci (by walk_at "Drv")) (ev_cb' (ea_cons (ev_var rfl) ea_nil) (by walk_at "Drc")) (by walk_at "Drv")) (congrArg wi e2)) ?_
      generalize (v9 % (lt.length : Int)).toNat = pl at e1
      obtain ⟨c1, c2⟩ := emod_lt (a := v10) (n := 94) (by decide)
      have hZ : (SA ++ SB).length ≤ sizeLine := by rw [SAB_len, sizeLine_eq]; omega
      have hcx : atI (SA ++ SB).cps.toList (v10 % 94) = some (signs94 (v10 % 94)) := atI_signs (SA ++ SB) (i := v10 % 94) (Int.emod_nonneg _ (by decide)) (by rw [SAB_len]; exact Int.emod_lt_of_pos _ (by decide))
      refine hq_asg (w := ws ⟨#[signs94 (v10 % 94)]⟩) (ev_op (ev_call ea_nil (by walk_at "Dcall")) (ev_op (ev_op (ev_var rfl) ev_ci (by walk_at "Drv")) ev_ci (by walk_at "Drv")) (rv_ixS hZ hcx)) ?_
      have hsg := signs_lt (v10 % 94)
      generalize signs94 (v10 % 94) = sg at hsg
      have ez : cutS lt none (some (pl : Int)) ++ (⟨#[sg]⟩ : Str) ++ cutS lt (some ((pl : Int) + 1)) none = mk ((tl lt).take pl ++ [sg] ++ (tl lt).drop (pl + 1)) := by
        rw [cut_to, show ((pl : Int) + 1) = ((pl + 1 : Nat) : Int) by omega, cut_from6]
        refine str_ext ?_
        rw [tl_append, tl_append, tlmk, tlmk, tlmk]
      have hln1 : (cutS lt none (some (pl : Int))).length ≤ 4000 := by rw [cut_to, mk_len, List.length_take, tl_len]; omega
      have hln2 : (cutS lt (some ((pl : Int) + 1)) none).length ≤ 4000 := by rw [show ((pl : Int) + 1) = ((pl + 1 : Nat) : Int) by omega, cut_from6, mk_len, List.length_drop, tl_len]; omega
      have q1 : (cutS lt none (some (pl : Int))).length + (⟨#[sg]⟩ : Str).length ≤ sizeLine := by rw [sizeLine_eq]; show _ + 1 ≤ _; omega
      have q2 : (cutS lt none (some (pl : Int)) ++ (⟨#[sg]⟩ : Str)).length + (cutS lt (some ((pl : Int) + 1)) none).length ≤ sizeLine := by rw [len_apL, sizeLine_eq]; show _ + 1 + _ ≤ _; omega
      refine hs_if (b := false) (et_is (et_not (a := true) (et_tb (ev_call (w := wb true) (ea_cons (ev_is (y := ws (mk ((tl lt).take pl ++ [sg] ++ (tl lt).drop (pl + 1)))) (ev_op (ev_op (ev_slS (ev_var rfl) eo_none (eo_some (ev_var rfl)) (by walk_at "Dsz")) (ev_var rfl) (by walk_at "Drv")) (ev_slS (ev_var rfl) (eo_some (ev_op (ev_var rfl) ev_ci (by walk_at "Drv"))) eo_none (by walk_at "Dsz")) (by walk_at "Drv")) (congrArg ws ez)) ea_nil) ⟨rfl, _, rfl, ?_, ?_, rfl, rfl⟩))) rfl) (fun hb => by cases hb) (fun _ => hs_next (Le.refl _) ⟨_, ⟨_, _, _, _, rfl⟩, by walk_at "Dle"⟩)
      · rw [tlmk]
        intro c hc
        rcases List.mem_append.mp hc with hc | hc
        · rcases List.mem_append.mp hc with hc | hc
          · exact hA' c (List.mem_of_mem_take hc)
          · rw [List.mem_singleton.mp hc]; exact hsg
        · exact hA' c (List.mem_of_mem_drop hc)
      · rw [mk_len, List.length_append, List.length_append, List.length_take, List.length_drop, tl_len, List.length_singleton]
        omega
  rintro s' ⟨g1, g2, g3, g4, rfl⟩
  exact hs_ret0 ev_cb hk
end
/-! ### the end -/
theorem all_mk {l : PySem.W.OpenLaw} {w : World} {K : PySem.W.Frag} {h : Heap} {mg : Str → Option Value} {fa : Addr} {f__law_numbers : Addr} {od0 an0 : Option Addr} {sl0 : Array (Option Value)} {oc0 kV0 dc0 pm0 cd0 ct0 : Value} {f_check_file : Addr} {od1 an1 : Option Addr} {sl1 : Array (Option Value)} {oc1 kV1 dc1 pm1 cd1 ct1 : Value} {f__law_signs : Addr} {od2 an2 : Option Addr} {sl2 : Array (Option Value)} {oc2 kV2 dc2 pm2 cd2 ct2 : Value} {f__law_text : Addr} {od3 an3 : Option Addr} {sl3 : Array (Option Value)} {oc3 kV3 dc3 pm3 cd3 ct3 : Value} {f__law_texts : Addr} {od4 an4 : Option Addr} {sl4 : Array (Option Value)} {oc4 kV4 dc4 pm4 cd4 ct4 : Value} {f__law_is_integer : Addr} {od5 an5 : Option Addr} {sl5 : Array (Option Value)} {oc5 kV5 dc5 pm5 cd5 ct5 : Value} {f__law_name : Addr} {od6 an6 : Option Addr} {sl6 : Array (Option Value)} {oc6 kV6 dc6 pm6 cd6 ct6 : Value} {f_digits_number : Addr} {od7 an7 : Option Addr} {sl7 : Array (Option Value)} {oc7 kV7 dc7 pm7 cd7 ct7 : Value} {f_number_of : Addr} {od8 an8 : Option Addr} {sl8 : Array (Option Value)} {oc8 kV8 dc8 pm8 cd8 ct8 : Value} {f_part_at : Addr} {od9 an9 : Option Addr} {sl9 : Array (Option Value)} {oc9 kV9 dc9 pm9 cd9 ct9 : Value} {f_unpack : Addr} {od10 an10 : Option Addr} {sl10 : Array (Option Value)} {oc10 kV10 dc10 pm10 cd10 ct10 : Value} {f_pack : Addr} {od11 an11 : Option Addr} {sl11 : Array (Option Value)} {oc11 kV11 dc11 pm11 cd11 ct11 : Value} {f_read_event_number : Addr} {od12 an12 : Option Addr} {sl12 : Array (Option Value)} {oc12 kV12 dc12 pm12 cd12 ct12 : Value} {f_read_file_row : Addr} {od13 an13 : Option Addr} {sl13 : Array (Option Value)} {oc13 kV13 dc13 pm13 cd13 ct13 : Value} {f_read_letter : Addr} {od14 an14 : Option Addr} {sl14 : Array (Option Value)} {oc14 kV14 dc14 pm14 cd14 ct14 : Value} {f_check_twin : Addr} {od15 an15 : Option Addr} {sl15 : Array (Option Value)} {oc15 kV15 dc15 pm15 cd15 ct15 : Value} {f_check_event : Addr} {od16 an16 : Option Addr} {sl16 : Array (Option Value)} {oc16 kV16 dc16 pm16 cd16 ct16 : Value} {f_ask_letter : Addr} {od17 an17 : Option Addr} {sl17 : Array (Option Value)} {oc17 kV17 dc17 pm17 cd17 ct17 : Value} {f_done_letter : Addr} {od18 an18 : Option Addr} {sl18 : Array (Option Value)} {oc18 kV18 dc18 pm18 cd18 ct18 : Value} {f_file_rows : Addr} {od19 an19 : Option Addr} {sl19 : Array (Option Value)} {oc19 kV19 dc19 pm19 cd19 ct19 : Value} {f_part_letters : Addr} {od20 an20 : Option Addr} {sl20 : Array (Option Value)} {oc20 kV20 dc20 pm20 cd20 ct20 : Value} {f__law_packed : Addr} {od21 an21 : Option Addr} {sl21 : Array (Option Value)} {oc21 kV21 dc21 pm21 cd21 ct21 : Value} {f__law_is_tuple : Addr} {od22 an22 : Option Addr} {sl22 : Array (Option Value)} {oc22 kV22 dc22 pm22 cd22 ct22 : Value} {f__law_size : Addr} {od23 an23 : Option Addr} {sl23 : Array (Option Value)} {oc23 kV23 dc23 pm23 cd23 ct23 : Value} {f__law_files : Addr} {od24 an24 : Option Addr} {sl24 : Array (Option Value)} {oc24 kV24 dc24 pm24 cd24 ct24 : Value} {f__law_event : Addr} {od25 an25 : Option Addr} {sl25 : Array (Option Value)} {oc25 kV25 dc25 pm25 cd25 ct25 : Value} {f__law_expected : Addr} {od26 an26 : Option Addr} {sl26 : Array (Option Value)} {oc26 kV26 dc26 pm26 cd26 ct26 : Value} {f__law_refused : Addr} {od27 an27 : Option Addr} {sl27 : Array (Option Value)} {oc27 kV27 dc27 pm27 cd27 ct27 : Value} {f__law_odd_files : Addr} {od28 an28 : Option Addr} {sl28 : Array (Option Value)} {oc28 kV28 dc28 pm28 cd28 ct28 : Value} {f__law_is_name : Addr} {od29 an29 : Option Addr} {sl29 : Array (Option Value)} {oc29 kV29 dc29 pm29 cd29 ct29 : Value} {f__law_fits : Addr} {od30 an30 : Option Addr} {sl30 : Array (Option Value)} {oc30 kV30 dc30 pm30 cd30 ct30 : Value} {f__law_spoilt_read : Addr} {od31 an31 : Option Addr} {sl31 : Array (Option Value)} {oc31 kV31 dc31 pm31 cd31 ct31 : Value} {f__law_spoil : Addr} {od32 an32 : Option Addr} {sl32 : Array (Option Value)} {oc32 kV32 dc32 pm32 cd32 ct32 : Value} {f_law : Addr} {od33 an33 : Option Addr} {sl33 : Array (Option Value)} {oc33 kV33 dc33 pm33 cd33 ct33 : Value} {t_MAX_DATA : Tok} {t_MAX_DIGITS : Tok} {t_MAX_EVENT : Tok} {t_MAX_FILES : Tok} {t_MAX_FILE_NAME : Tok} {t_NAME_SIGNS : Tok} {A_NO_FILE : Addr} {t_NO_FILE_0 : Tok} {t_NO_FILE_1 : Tok} {t_NO_FILE_2 : Tok} {t_NO_FILE_3 : Tok} {n_NO_FILE : Nat} {dd_NO_FILE : Option Addr} {sl_NO_FILE : Array (Option Value)} {A_PART_COUNTS : Addr} {es_PART_COUNTS : Array DictEntry} {n_PART_COUNTS : Nat} {A_TWIN_NAMES : Addr} {t_TWIN_NAMES_0 : Tok} {t_TWIN_NAMES_1 : Tok} {t_TWIN_NAMES_2 : Tok} {n_TWIN_NAMES : Nat} {dd_TWIN_NAMES : Option Addr} {sl_TWIN_NAMES : Array (Option Value)} {C_BadForm : Addr} {C_NotAllowed : Addr} (X : K.In h) (G : h.Ns mainGlobals mg) (hfa : mg "law" = some (.ref fa))
    (a0 : PySem.W.nsIn K mainGlobals "_law_numbers" = some (some (.ref f__law_numbers)))
    (l0 : K.lookup f__law_numbers = some ⟨oc0, od0, .func (PySem.W.fnOf "_law_numbers" "_law_numbers" (defArgs s__law_numbers) (defBody s__law_numbers) (defScope s__law_numbers) .none kV0 dc0 pm0 an0 cd0 ct0), sl0⟩)
    (e0 : PySem.W.codeIn K cd0 "_law_numbers" = true)
    (k0 : PySem.W.keepIn K (.ref f__law_numbers) = true)
    (a1 : PySem.W.nsIn K mainGlobals "check_file" = some (some (.ref f_check_file)))
    (l1 : K.lookup f_check_file = some ⟨oc1, od1, .func (PySem.W.fnOf "check_file" "check_file" (defArgs s_check_file) (defBody s_check_file) (defScope s_check_file) .none kV1 dc1 pm1 an1 cd1 ct1), sl1⟩)
    (e1 : PySem.W.codeIn K cd1 "check_file" = true)
    (k1 : PySem.W.keepIn K (.ref f_check_file) = true)
    (a2 : PySem.W.nsIn K mainGlobals "_law_signs" = some (some (.ref f__law_signs)))
    (l2 : K.lookup f__law_signs = some ⟨oc2, od2, .func (PySem.W.fnOf "_law_signs" "_law_signs" (defArgs s__law_signs) (defBody s__law_signs) (defScope s__law_signs) .none kV2 dc2 pm2 an2 cd2 ct2), sl2⟩)
    (e2 : PySem.W.codeIn K cd2 "_law_signs" = true)
    (k2 : PySem.W.keepIn K (.ref f__law_signs) = true)
    (a3 : PySem.W.nsIn K mainGlobals "_law_text" = some (some (.ref f__law_text)))
    (l3 : K.lookup f__law_text = some ⟨oc3, od3, .func (PySem.W.fnOf "_law_text" "_law_text" (defArgs s__law_text) (defBody s__law_text) (defScope s__law_text) .none kV3 dc3 pm3 an3 cd3 ct3), sl3⟩)
    (e3 : PySem.W.codeIn K cd3 "_law_text" = true)
    (k3 : PySem.W.keepIn K (.ref f__law_text) = true)
    (a4 : PySem.W.nsIn K mainGlobals "_law_texts" = some (some (.ref f__law_texts)))
    (l4 : K.lookup f__law_texts = some ⟨oc4, od4, .func (PySem.W.fnOf "_law_texts" "_law_texts" (defArgs s__law_texts) (defBody s__law_texts) (defScope s__law_texts) .none kV4 dc4 pm4 an4 cd4 ct4), sl4⟩)
    (e4 : PySem.W.codeIn K cd4 "_law_texts" = true)
    (k4 : PySem.W.keepIn K (.ref f__law_texts) = true)
    (a5 : PySem.W.nsIn K mainGlobals "_law_is_integer" = some (some (.ref f__law_is_integer)))
    (l5 : K.lookup f__law_is_integer = some ⟨oc5, od5, .func (PySem.W.fnOf "_law_is_integer" "_law_is_integer" (defArgs s__law_is_integer) (defBody s__law_is_integer) (defScope s__law_is_integer) .none kV5 dc5 pm5 an5 cd5 ct5), sl5⟩)
    (e5 : PySem.W.codeIn K cd5 "_law_is_integer" = true)
    (k5 : PySem.W.keepIn K (.ref f__law_is_integer) = true)
    (a6 : PySem.W.nsIn K mainGlobals "_law_name" = some (some (.ref f__law_name)))
    (l6 : K.lookup f__law_name = some ⟨oc6, od6, .func (PySem.W.fnOf "_law_name" "_law_name" (defArgs s__law_name) (defBody s__law_name) (defScope s__law_name) .none kV6 dc6 pm6 an6 cd6 ct6), sl6⟩)
    (e6 : PySem.W.codeIn K cd6 "_law_name" = true)
    (k6 : PySem.W.keepIn K (.ref f__law_name) = true)
    (a7 : PySem.W.nsIn K mainGlobals "digits_number" = some (some (.ref f_digits_number)))
    (l7 : K.lookup f_digits_number = some ⟨oc7, od7, .func (PySem.W.fnOf "digits_number" "digits_number" (defArgs s_digits_number) (defBody s_digits_number) (defScope s_digits_number) .none kV7 dc7 pm7 an7 cd7 ct7), sl7⟩)
    (e7 : PySem.W.codeIn K cd7 "digits_number" = true)
    (k7 : PySem.W.keepIn K (.ref f_digits_number) = true)
    (a8 : PySem.W.nsIn K mainGlobals "number_of" = some (some (.ref f_number_of)))
    (l8 : K.lookup f_number_of = some ⟨oc8, od8, .func (PySem.W.fnOf "number_of" "number_of" (defArgs s_number_of) (defBody s_number_of) (defScope s_number_of) .none kV8 dc8 pm8 an8 cd8 ct8), sl8⟩)
    (e8 : PySem.W.codeIn K cd8 "number_of" = true)
    (k8 : PySem.W.keepIn K (.ref f_number_of) = true)
    (a9 : PySem.W.nsIn K mainGlobals "part_at" = some (some (.ref f_part_at)))
    (l9 : K.lookup f_part_at = some ⟨oc9, od9, .func (PySem.W.fnOf "part_at" "part_at" (defArgs s_part_at) (defBody s_part_at) (defScope s_part_at) .none kV9 dc9 pm9 an9 cd9 ct9), sl9⟩)
    (e9 : PySem.W.codeIn K cd9 "part_at" = true)
    (k9 : PySem.W.keepIn K (.ref f_part_at) = true)
    (a10 : PySem.W.nsIn K mainGlobals "unpack" = some (some (.ref f_unpack)))
    (l10 : K.lookup f_unpack = some ⟨oc10, od10, .func (PySem.W.fnOf "unpack" "unpack" (defArgs s_unpack) (defBody s_unpack) (defScope s_unpack) .none kV10 dc10 pm10 an10 cd10 ct10), sl10⟩)
    (e10 : PySem.W.codeIn K cd10 "unpack" = true)
    (k10 : PySem.W.keepIn K (.ref f_unpack) = true)
    (a11 : PySem.W.nsIn K mainGlobals "pack" = some (some (.ref f_pack)))
    (l11 : K.lookup f_pack = some ⟨oc11, od11, .func (PySem.W.fnOf "pack" "pack" (defArgs s_pack) (defBody s_pack) (defScope s_pack) .none kV11 dc11 pm11 an11 cd11 ct11), sl11⟩)
    (e11 : PySem.W.codeIn K cd11 "pack" = true)
    (k11 : PySem.W.keepIn K (.ref f_pack) = true)
    (a12 : PySem.W.nsIn K mainGlobals "read_event_number" = some (some (.ref f_read_event_number)))
    (l12 : K.lookup f_read_event_number = some ⟨oc12, od12, .func (PySem.W.fnOf "read_event_number" "read_event_number" (defArgs s_read_event_number) (defBody s_read_event_number) (defScope s_read_event_number) .none kV12 dc12 pm12 an12 cd12 ct12), sl12⟩)
    (e12 : PySem.W.codeIn K cd12 "read_event_number" = true)
    (k12 : PySem.W.keepIn K (.ref f_read_event_number) = true)
    (a13 : PySem.W.nsIn K mainGlobals "read_file_row" = some (some (.ref f_read_file_row)))
    (l13 : K.lookup f_read_file_row = some ⟨oc13, od13, .func (PySem.W.fnOf "read_file_row" "read_file_row" (defArgs s_read_file_row) (defBody s_read_file_row) (defScope s_read_file_row) .none kV13 dc13 pm13 an13 cd13 ct13), sl13⟩)
    (e13 : PySem.W.codeIn K cd13 "read_file_row" = true)
    (k13 : PySem.W.keepIn K (.ref f_read_file_row) = true)
    (a14 : PySem.W.nsIn K mainGlobals "read_letter" = some (some (.ref f_read_letter)))
    (l14 : K.lookup f_read_letter = some ⟨oc14, od14, .func (PySem.W.fnOf "read_letter" "read_letter" (defArgs s_read_letter) (defBody s_read_letter) (defScope s_read_letter) .none kV14 dc14 pm14 an14 cd14 ct14), sl14⟩)
    (e14 : PySem.W.codeIn K cd14 "read_letter" = true)
    (k14 : PySem.W.keepIn K (.ref f_read_letter) = true)
    (a15 : PySem.W.nsIn K mainGlobals "check_twin" = some (some (.ref f_check_twin)))
    (l15 : K.lookup f_check_twin = some ⟨oc15, od15, .func (PySem.W.fnOf "check_twin" "check_twin" (defArgs s_check_twin) (defBody s_check_twin) (defScope s_check_twin) .none kV15 dc15 pm15 an15 cd15 ct15), sl15⟩)
    (e15 : PySem.W.codeIn K cd15 "check_twin" = true)
    (k15 : PySem.W.keepIn K (.ref f_check_twin) = true)
    (a16 : PySem.W.nsIn K mainGlobals "check_event" = some (some (.ref f_check_event)))
    (l16 : K.lookup f_check_event = some ⟨oc16, od16, .func (PySem.W.fnOf "check_event" "check_event" (defArgs s_check_event) (defBody s_check_event) (defScope s_check_event) .none kV16 dc16 pm16 an16 cd16 ct16), sl16⟩)
    (e16 : PySem.W.codeIn K cd16 "check_event" = true)
    (k16 : PySem.W.keepIn K (.ref f_check_event) = true)
    (a17 : PySem.W.nsIn K mainGlobals "ask_letter" = some (some (.ref f_ask_letter)))
    (l17 : K.lookup f_ask_letter = some ⟨oc17, od17, .func (PySem.W.fnOf "ask_letter" "ask_letter" (defArgs s_ask_letter) (defBody s_ask_letter) (defScope s_ask_letter) .none kV17 dc17 pm17 an17 cd17 ct17), sl17⟩)
    (e17 : PySem.W.codeIn K cd17 "ask_letter" = true)
    (k17 : PySem.W.keepIn K (.ref f_ask_letter) = true)
    (a18 : PySem.W.nsIn K mainGlobals "done_letter" = some (some (.ref f_done_letter)))
    (l18 : K.lookup f_done_letter = some ⟨oc18, od18, .func (PySem.W.fnOf "done_letter" "done_letter" (defArgs s_done_letter) (defBody s_done_letter) (defScope s_done_letter) .none kV18 dc18 pm18 an18 cd18 ct18), sl18⟩)
    (e18 : PySem.W.codeIn K cd18 "done_letter" = true)
    (k18 : PySem.W.keepIn K (.ref f_done_letter) = true)
    (a19 : PySem.W.nsIn K mainGlobals "file_rows" = some (some (.ref f_file_rows)))
    (l19 : K.lookup f_file_rows = some ⟨oc19, od19, .func (PySem.W.fnOf "file_rows" "file_rows" (defArgs s_file_rows) (defBody s_file_rows) (defScope s_file_rows) .none kV19 dc19 pm19 an19 cd19 ct19), sl19⟩)
    (e19 : PySem.W.codeIn K cd19 "file_rows" = true)
    (k19 : PySem.W.keepIn K (.ref f_file_rows) = true)
    (a20 : PySem.W.nsIn K mainGlobals "part_letters" = some (some (.ref f_part_letters)))
    (l20 : K.lookup f_part_letters = some ⟨oc20, od20, .func (PySem.W.fnOf "part_letters" "part_letters" (defArgs s_part_letters) (defBody s_part_letters) (defScope s_part_letters) .none kV20 dc20 pm20 an20 cd20 ct20), sl20⟩)
    (e20 : PySem.W.codeIn K cd20 "part_letters" = true)
    (k20 : PySem.W.keepIn K (.ref f_part_letters) = true)
    (a21 : PySem.W.nsIn K mainGlobals "_law_packed" = some (some (.ref f__law_packed)))
    (l21 : K.lookup f__law_packed = some ⟨oc21, od21, .func (PySem.W.fnOf "_law_packed" "_law_packed" (defArgs s__law_packed) (defBody s__law_packed) (defScope s__law_packed) .none kV21 dc21 pm21 an21 cd21 ct21), sl21⟩)
    (e21 : PySem.W.codeIn K cd21 "_law_packed" = true)
    (k21 : PySem.W.keepIn K (.ref f__law_packed) = true)
    (a22 : PySem.W.nsIn K mainGlobals "_law_is_tuple" = some (some (.ref f__law_is_tuple)))
    (l22 : K.lookup f__law_is_tuple = some ⟨oc22, od22, .func (PySem.W.fnOf "_law_is_tuple" "_law_is_tuple" (defArgs s__law_is_tuple) (defBody s__law_is_tuple) (defScope s__law_is_tuple) .none kV22 dc22 pm22 an22 cd22 ct22), sl22⟩)
    (e22 : PySem.W.codeIn K cd22 "_law_is_tuple" = true)
    (k22 : PySem.W.keepIn K (.ref f__law_is_tuple) = true)
    (a23 : PySem.W.nsIn K mainGlobals "_law_size" = some (some (.ref f__law_size)))
    (l23 : K.lookup f__law_size = some ⟨oc23, od23, .func (PySem.W.fnOf "_law_size" "_law_size" (defArgs s__law_size) (defBody s__law_size) (defScope s__law_size) .none kV23 dc23 pm23 an23 cd23 ct23), sl23⟩)
    (e23 : PySem.W.codeIn K cd23 "_law_size" = true)
    (k23 : PySem.W.keepIn K (.ref f__law_size) = true)
    (a24 : PySem.W.nsIn K mainGlobals "_law_files" = some (some (.ref f__law_files)))
    (l24 : K.lookup f__law_files = some ⟨oc24, od24, .func (PySem.W.fnOf "_law_files" "_law_files" (defArgs s__law_files) (defBody s__law_files) (defScope s__law_files) .none kV24 dc24 pm24 an24 cd24 ct24), sl24⟩)
    (e24 : PySem.W.codeIn K cd24 "_law_files" = true)
    (k24 : PySem.W.keepIn K (.ref f__law_files) = true)
    (a25 : PySem.W.nsIn K mainGlobals "_law_event" = some (some (.ref f__law_event)))
    (l25 : K.lookup f__law_event = some ⟨oc25, od25, .func (PySem.W.fnOf "_law_event" "_law_event" (defArgs s__law_event) (defBody s__law_event) (defScope s__law_event) .none kV25 dc25 pm25 an25 cd25 ct25), sl25⟩)
    (e25 : PySem.W.codeIn K cd25 "_law_event" = true)
    (k25 : PySem.W.keepIn K (.ref f__law_event) = true)
    (a26 : PySem.W.nsIn K mainGlobals "_law_expected" = some (some (.ref f__law_expected)))
    (l26 : K.lookup f__law_expected = some ⟨oc26, od26, .func (PySem.W.fnOf "_law_expected" "_law_expected" (defArgs s__law_expected) (defBody s__law_expected) (defScope s__law_expected) .none kV26 dc26 pm26 an26 cd26 ct26), sl26⟩)
    (e26 : PySem.W.codeIn K cd26 "_law_expected" = true)
    (k26 : PySem.W.keepIn K (.ref f__law_expected) = true)
    (a27 : PySem.W.nsIn K mainGlobals "_law_refused" = some (some (.ref f__law_refused)))
    (l27 : K.lookup f__law_refused = some ⟨oc27, od27, .func (PySem.W.fnOf "_law_refused" "_law_refused" (defArgs s__law_refused) (defBody s__law_refused) (defScope s__law_refused) .none kV27 dc27 pm27 an27 cd27 ct27), sl27⟩)
    (e27 : PySem.W.codeIn K cd27 "_law_refused" = true)
    (k27 : PySem.W.keepIn K (.ref f__law_refused) = true)
    (a28 : PySem.W.nsIn K mainGlobals "_law_odd_files" = some (some (.ref f__law_odd_files)))
    (l28 : K.lookup f__law_odd_files = some ⟨oc28, od28, .func (PySem.W.fnOf "_law_odd_files" "_law_odd_files" (defArgs s__law_odd_files) (defBody s__law_odd_files) (defScope s__law_odd_files) .none kV28 dc28 pm28 an28 cd28 ct28), sl28⟩)
    (e28 : PySem.W.codeIn K cd28 "_law_odd_files" = true)
    (k28 : PySem.W.keepIn K (.ref f__law_odd_files) = true)
    (a29 : PySem.W.nsIn K mainGlobals "_law_is_name" = some (some (.ref f__law_is_name)))
    (l29 : K.lookup f__law_is_name = some ⟨oc29, od29, .func (PySem.W.fnOf "_law_is_name" "_law_is_name" (defArgs s__law_is_name) (defBody s__law_is_name) (defScope s__law_is_name) .none kV29 dc29 pm29 an29 cd29 ct29), sl29⟩)
    (e29 : PySem.W.codeIn K cd29 "_law_is_name" = true)
    (k29 : PySem.W.keepIn K (.ref f__law_is_name) = true)
    (a30 : PySem.W.nsIn K mainGlobals "_law_fits" = some (some (.ref f__law_fits)))
    (l30 : K.lookup f__law_fits = some ⟨oc30, od30, .func (PySem.W.fnOf "_law_fits" "_law_fits" (defArgs s__law_fits) (defBody s__law_fits) (defScope s__law_fits) .none kV30 dc30 pm30 an30 cd30 ct30), sl30⟩)
    (e30 : PySem.W.codeIn K cd30 "_law_fits" = true)
    (k30 : PySem.W.keepIn K (.ref f__law_fits) = true)
    (a31 : PySem.W.nsIn K mainGlobals "_law_spoilt_read" = some (some (.ref f__law_spoilt_read)))
    (l31 : K.lookup f__law_spoilt_read = some ⟨oc31, od31, .func (PySem.W.fnOf "_law_spoilt_read" "_law_spoilt_read" (defArgs s__law_spoilt_read) (defBody s__law_spoilt_read) (defScope s__law_spoilt_read) .none kV31 dc31 pm31 an31 cd31 ct31), sl31⟩)
    (e31 : PySem.W.codeIn K cd31 "_law_spoilt_read" = true)
    (k31 : PySem.W.keepIn K (.ref f__law_spoilt_read) = true)
    (a32 : PySem.W.nsIn K mainGlobals "_law_spoil" = some (some (.ref f__law_spoil)))
    (l32 : K.lookup f__law_spoil = some ⟨oc32, od32, .func (PySem.W.fnOf "_law_spoil" "_law_spoil" (defArgs s__law_spoil) (defBody s__law_spoil) (defScope s__law_spoil) .none kV32 dc32 pm32 an32 cd32 ct32), sl32⟩)
    (e32 : PySem.W.codeIn K cd32 "_law_spoil" = true)
    (k32 : PySem.W.keepIn K (.ref f__law_spoil) = true)
    (a33 : PySem.W.nsIn K mainGlobals "law" = some (some (.ref f_law)))
    (l33 : K.lookup f_law = some ⟨oc33, od33, .func (PySem.W.fnOf "law" "law" (defArgs s_law) (defBody s_law) (defScope s_law) .none kV33 dc33 pm33 an33 cd33 ct33), sl33⟩)
    (e33 : PySem.W.codeIn K cd33 "law" = true)
    (k33 : PySem.W.keepIn K (.ref f_law) = true)
    (y_MAX_DATA : PySem.W.nsIn K mainGlobals "MAX_DATA" = some (some (.int 4000 t_MAX_DATA)))
    (y_MAX_DIGITS : PySem.W.nsIn K mainGlobals "MAX_DIGITS" = some (some (.int 9 t_MAX_DIGITS)))
    (y_MAX_EVENT : PySem.W.nsIn K mainGlobals "MAX_EVENT" = some (some (.int 999999999 t_MAX_EVENT)))
    (y_MAX_FILES : PySem.W.nsIn K mainGlobals "MAX_FILES" = some (some (.int 30 t_MAX_FILES)))
    (y_MAX_FILE_NAME : PySem.W.nsIn K mainGlobals "MAX_FILE_NAME" = some (some (.int 12 t_MAX_FILE_NAME)))
    (y_NAME_SIGNS : PySem.W.nsIn K mainGlobals "NAME_SIGNS" = some (some (.str "abcdefghijklmnopqrstuvwxyz0123456789-" t_NAME_SIGNS)))
    (y_NO_FILE : PySem.W.nsIn K mainGlobals "NO_FILE" = some (some (.ref A_NO_FILE)))
    (l_NO_FILE : K.lookup A_NO_FILE = some ⟨.type "tuple", dd_NO_FILE, .seq [.int 0 t_NO_FILE_0, .int 0 t_NO_FILE_1, .str "" t_NO_FILE_2, .str "" t_NO_FILE_3].toArray n_NO_FILE, sl_NO_FILE⟩)
    (y_PART_COUNTS : PySem.W.nsIn K mainGlobals "PART_COUNTS" = some (some (.ref A_PART_COUNTS)))
    (l_PART_COUNTS : K.lookup A_PART_COUNTS = some ⟨.type "dict", none, .dict es_PART_COUNTS n_PART_COUNTS, #[]⟩)
    (low_PART_COUNTS : (A_PART_COUNTS == sysModules) = false)
    (e_PART_COUNTS : EntD K w.params es_PART_COUNTS.toList [("ask", (.int 3)), ("part", (.int 8)), ("done", (.int 4))])
    (y_TWIN_NAMES : PySem.W.nsIn K mainGlobals "TWIN_NAMES" = some (some (.ref A_TWIN_NAMES)))
    (l_TWIN_NAMES : K.lookup A_TWIN_NAMES = some ⟨.type "tuple", dd_TWIN_NAMES, .seq [.str "t1" t_TWIN_NAMES_0, .str "t2" t_TWIN_NAMES_1, .str "t3" t_TWIN_NAMES_2].toArray n_TWIN_NAMES, sl_TWIN_NAMES⟩)
    (u_BadForm : PySem.W.nsIn K mainGlobals "BadForm" = some (some (.ref C_BadForm)))
    (v_BadForm : PySem.W.excIn K C_BadForm [.type "ValueError", .type "Exception", .type "BaseException", .type "object"] "ValueError.__new__" = true)
    (w_BadForm : PySem.W.keepIn K (.ref C_BadForm) = true)
    (xb_BadForm : PySem.W.subIn K (.ref C_BadForm) (.type "BaseException") = some true)
    (xt_BadForm : PySem.W.typeIn K (.ref C_BadForm) = some (.type "type"))
    (u_NotAllowed : PySem.W.nsIn K mainGlobals "NotAllowed" = some (some (.ref C_NotAllowed)))
    (v_NotAllowed : PySem.W.excIn K C_NotAllowed [.type "ValueError", .type "Exception", .type "BaseException", .type "object"] "ValueError.__new__" = true)
    (w_NotAllowed : PySem.W.keepIn K (.ref C_NotAllowed) = true)
    (xb_NotAllowed : PySem.W.subIn K (.ref C_NotAllowed) (.type "BaseException") = some true)
    (xt_NotAllowed : PySem.W.typeIn K (.ref C_NotAllowed) = some (.type "type"))
    (ms_NotAllowed_NotAllowed : PySem.W.subIn K (.ref C_NotAllowed) (.ref C_NotAllowed) = some true)
    (mh_NotAllowed : PySem.W.hasDictIn K C_NotAllowed = true)
    (ms_BadForm_BadForm : PySem.W.subIn K (.ref C_BadForm) (.ref C_BadForm) = some true)
    (mh_BadForm : PySem.W.hasDictIn K C_BadForm = true)
    (q_abs : PySem.W.nsIn K mainGlobals "abs" = some none)
    (q_all : PySem.W.nsIn K mainGlobals "all" = some none)
    (q_bool : PySem.W.nsIn K mainGlobals "bool" = some none)
    (q_dict : PySem.W.nsIn K mainGlobals "dict" = some none)
    (q_int : PySem.W.nsIn K mainGlobals "int" = some none)
    (q_isinstance : PySem.W.nsIn K mainGlobals "isinstance" = some none)
    (q_len : PySem.W.nsIn K mainGlobals "len" = some none)
    (q_list : PySem.W.nsIn K mainGlobals "list" = some none)
    (q_max : PySem.W.nsIn K mainGlobals "max" = some none)
    (q_range : PySem.W.nsIn K mainGlobals "range" = some none)
    (q_sorted : PySem.W.nsIn K mainGlobals "sorted" = some none)
    (q_str : PySem.W.nsIn K mainGlobals "str" = some none)
    (q_tuple : PySem.W.nsIn K mainGlobals "tuple" = some none) :
    ∃ fd : FuncData, (∀ (s : Shared) (v : Value), BindsTo s fd ⟨[v], []⟩ [("script", v)]) ∧ ∀ base : Heap, K.In base → base.Ns mainGlobals mg → FnOk l.prog w K mg base CX0 7 fa fd ["script"] (spOf K lawT) := by
  have e := hfa.symm.trans (PySem.W.mg_of X G a33)
  cases e
  have F0 := fun_mk (st := s__law_numbers) l0 e0 k0
  have b0 := F0.binds (ps := ["script", "many"]) fun _ _ _ _ _ _ us hl => match us, hl with | [_, _], _ => rfl
  have F1 := fun_mk (st := s_check_file) l1 e1 k1
  have b1 := F1.binds (ps := ["name", "data"]) fun _ _ _ _ _ _ us hl => match us, hl with | [_, _], _ => rfl
  have F2 := fun_mk (st := s__law_signs) l2 e2 k2
  have b2 := F2.binds (ps := []) fun _ _ _ _ _ _ us hl => match us, hl with | [], _ => rfl
  have F3 := fun_mk (st := s__law_text) l3 e3 k3
  have b3 := F3.binds (ps := ["number", "size"]) fun _ _ _ _ _ _ us hl => match us, hl with | [_, _], _ => rfl
  have F4 := fun_mk (st := s__law_texts) l4 e4 k4
  have b4 := F4.binds (ps := ["actual", "expected"]) fun _ _ _ _ _ _ us hl => match us, hl with | [_, _], _ => rfl
  have F5 := fun_mk (st := s__law_is_integer) l5 e5 k5
  have b5 := F5.binds (ps := ["actual"]) fun _ _ _ _ _ _ us hl => match us, hl with | [_], _ => rfl
  have F6 := fun_mk (st := s__law_name) l6 e6 k6
  have b6 := F6.binds (ps := ["number"]) fun _ _ _ _ _ _ us hl => match us, hl with | [_], _ => rfl
  have F7 := fun_mk (st := s_digits_number) l7 e7 k7
  have b7 := F7.binds (ps := ["text"]) fun _ _ _ _ _ _ us hl => match us, hl with | [_], _ => rfl
  have F8 := fun_mk (st := s_number_of) l8 e8 k8
  have b8 := F8.binds (ps := ["text"]) fun _ _ _ _ _ _ us hl => match us, hl with | [_], _ => rfl
  have F9 := fun_mk (st := s_part_at) l9 e9 k9
  have b9 := F9.binds (ps := ["text", "at"]) fun _ _ _ _ _ _ us hl => match us, hl with | [_, _], _ => rfl
  have F10 := fun_mk (st := s_unpack) l10 e10 k10
  have b10 := F10.binds (ps := ["text"]) fun _ _ _ _ _ _ us hl => match us, hl with | [_], _ => rfl
  have F11 := fun_mk (st := s_pack) l11 e11 k11
  have b11 := F11.binds (ps := ["parts"]) fun _ _ _ _ _ _ us hl => match us, hl with | [_], _ => rfl
  have F12 := fun_mk (st := s_read_event_number) l12 e12 k12
  have b12 := F12.binds (ps := ["text"]) fun _ _ _ _ _ _ us hl => match us, hl with | [_], _ => rfl
  have F13 := fun_mk (st := s_read_file_row) l13 e13 k13
  have b13 := F13.binds (ps := ["parts"]) fun _ _ _ _ _ _ us hl => match us, hl with | [_], _ => rfl
  have F14 := fun_mk (st := s_read_letter) l14 e14 k14
  have b14 := F14.binds (ps := ["letter"]) fun _ _ _ _ _ _ us hl => match us, hl with | [_], _ => rfl
  have F15 := fun_mk (st := s_check_twin) l15 e15 k15
  have b15 := F15.binds (ps := ["twin"]) fun _ _ _ _ _ _ us hl => match us, hl with | [_], _ => rfl
  have F16 := fun_mk (st := s_check_event) l16 e16 k16
  have b16 := F16.binds (ps := ["number"]) fun _ _ _ _ _ _ us hl => match us, hl with | [_], _ => rfl
  have F17 := fun_mk (st := s_ask_letter) l17 e17 k17
  have b17 := F17.binds (ps := ["twin", "question"]) fun _ _ _ _ _ _ us hl => match us, hl with | [_, _], _ => rfl
  have F18 := fun_mk (st := s_done_letter) l18 e18 k18
  have b18 := F18.binds (ps := ["twin", "question", "moment"]) fun _ _ _ _ _ _ us hl => match us, hl with | [_, _, _], _ => rfl
  have F19 := fun_mk (st := s_file_rows) l19 e19 k19
  have b19 := F19.binds (ps := ["files"]) fun _ _ _ _ _ _ us hl => match us, hl with | [_], _ => rfl
  have F20 := fun_mk (st := s_part_letters) l20 e20 k20
  have b20 := F20.binds (ps := ["twin", "question", "moment", "files"]) fun _ _ _ _ _ _ us hl => match us, hl with | [_, _, _, _], _ => rfl
  have F21 := fun_mk (st := s__law_packed) l21 e21 k21
  have b21 := F21.binds (ps := ["parts"]) fun _ _ _ _ _ _ us hl => match us, hl with | [_], _ => rfl
  have F22 := fun_mk (st := s__law_is_tuple) l22 e22 k22
  have b22 := F22.binds (ps := ["told", "parts"]) fun _ _ _ _ _ _ us hl => match us, hl with | [_, _], _ => rfl
  have F23 := fun_mk (st := s__law_size) l23 e23 k23
  have b23 := F23.binds (ps := ["number"]) fun _ _ _ _ _ _ us hl => match us, hl with | [_], _ => rfl
  have F24 := fun_mk (st := s__law_files) l24 e24 k24
  have b24 := F24.binds (ps := ["numbers", "at", "many"]) fun _ _ _ _ _ _ us hl => match us, hl with | [_, _, _], _ => rfl
  have F25 := fun_mk (st := s__law_event) l25 e25 k25
  have b25 := F25.binds (ps := ["number"]) fun _ _ _ _ _ _ us hl => match us, hl with | [_], _ => rfl
  have F26 := fun_mk (st := s__law_expected) l26 e26 k26
  have b26 := F26.binds (ps := ["twin", "question", "moment", "files"]) fun _ _ _ _ _ _ us hl => match us, hl with | [_, _, _, _], _ => rfl
  have F27 := fun_mk (st := s__law_refused) l27 e27 k27
  have b27 := F27.binds (ps := ["twin", "question", "moment", "files"]) fun _ _ _ _ _ _ us hl => match us, hl with | [_, _, _, _], _ => rfl
  have F28 := fun_mk (st := s__law_odd_files) l28 e28 k28
  have b28 := F28.binds (ps := ["twin", "question", "moment", "files", "number"]) fun _ _ _ _ _ _ us hl => match us, hl with | [_, _, _, _, _], _ => rfl
  have F29 := fun_mk (st := s__law_is_name) l29 e29 k29
  have b29 := F29.binds (ps := ["name"]) fun _ _ _ _ _ _ us hl => match us, hl with | [_], _ => rfl
  have F30 := fun_mk (st := s__law_fits) l30 e30 k30
  have b30 := F30.binds (ps := ["told"]) fun _ _ _ _ _ _ us hl => match us, hl with | [_], _ => rfl
  have F31 := fun_mk (st := s__law_spoilt_read) l31 e31 k31
  have b31 := F31.binds (ps := ["letter"]) fun _ _ _ _ _ _ us hl => match us, hl with | [_], _ => rfl
  have F32 := fun_mk (st := s__law_spoil) l32 e32 k32
  have b32 := F32.binds (ps := ["parts", "numbers"]) fun _ _ _ _ _ _ us hl => match us, hl with | [_, _], _ => rfl
  have F33 := fun_mk (st := s_law) l33 e33 k33
  have c_MAX_DATA : Cst mg "MAX_DATA" (.int 4000) := ⟨_, PySem.W.mg_of X G y_MAX_DATA, ⟨_, rfl⟩⟩
  have c_MAX_DIGITS : Cst mg "MAX_DIGITS" (.int 9) := ⟨_, PySem.W.mg_of X G y_MAX_DIGITS, ⟨_, rfl⟩⟩
  have c_MAX_EVENT : Cst mg "MAX_EVENT" (.int 999999999) := ⟨_, PySem.W.mg_of X G y_MAX_EVENT, ⟨_, rfl⟩⟩
  have c_MAX_FILES : Cst mg "MAX_FILES" (.int 30) := ⟨_, PySem.W.mg_of X G y_MAX_FILES, ⟨_, rfl⟩⟩
  have c_MAX_FILE_NAME : Cst mg "MAX_FILE_NAME" (.int 12) := ⟨_, PySem.W.mg_of X G y_MAX_FILE_NAME, ⟨_, rfl⟩⟩
  have c_NAME_SIGNS : Cst mg "NAME_SIGNS" (.str "abcdefghijklmnopqrstuvwxyz0123456789-") := ⟨_, PySem.W.mg_of X G y_NAME_SIGNS, ⟨_, rfl⟩⟩
  have c_NO_FILE : Cst mg "NO_FILE" (.ref A_NO_FILE) := ⟨_, PySem.W.mg_of X G y_NO_FILE, rfl⟩
  have c_PART_COUNTS : Cst mg "PART_COUNTS" (.ref A_PART_COUNTS) := ⟨_, PySem.W.mg_of X G y_PART_COUNTS, rfl⟩
  have c_TWIN_NAMES : Cst mg "TWIN_NAMES" (.ref A_TWIN_NAMES) := ⟨_, PySem.W.mg_of X G y_TWIN_NAMES, rfl⟩
  have d_TWIN_NAMES : KDat K (.ref A_TWIN_NAMES) (.tuple [(.str "t1"), (.str "t2"), (.str "t3")]) := kdat_tup l_TWIN_NAMES (.cons (.str _ _) (.cons (.str _ _) (.cons (.str _ _) .nil))) (by first | decide | simp)
  have d_NO_FILE : KDat K (.ref A_NO_FILE) (.tuple [(.int 0), (.int 0), (.str ""), (.str "")]) := kdat_tup l_NO_FILE (.cons (.int _ _) (.cons (.int _ _) (.cons (.str _ _) (.cons (.str _ _) .nil)))) (by first | decide | simp)
  have d_PART_COUNTS : KDicD K w A_PART_COUNTS [("ask", (.int 3)), ("part", (.int 8)), ("done", (.int 4))] := ⟨es_PART_COUNTS, n_PART_COUNTS, l_PART_COUNTS, low_PART_COUNTS, e_PART_COUNTS⟩
  have x_BadForm : Exc K mg "BadForm" C_BadForm := ⟨PySem.W.mg_of X G u_BadForm, v_BadForm, w_BadForm, xb_BadForm, xt_BadForm⟩
  have x_NotAllowed : Exc K mg "NotAllowed" C_NotAllowed := ⟨PySem.W.mg_of X G u_NotAllowed, v_NotAllowed, w_NotAllowed, xb_NotAllowed, xt_NotAllowed⟩
  have m_NotAllowed_NotAllowed : PySem.W.exmOne K (.ref C_NotAllowed) (.ref C_NotAllowed) = some true := exm_of2 xb_NotAllowed mh_NotAllowed xt_NotAllowed ms_NotAllowed_NotAllowed
  have m_BadForm_BadForm : PySem.W.exmOne K (.ref C_BadForm) (.ref C_BadForm) = some true := exm_of2 xb_BadForm mh_BadForm xt_BadForm ms_BadForm_BadForm
  have z_abs := PySem.W.mg_none_of X G q_abs
  have z_all := PySem.W.mg_none_of X G q_all
  have z_bool := PySem.W.mg_none_of X G q_bool
  have z_dict := PySem.W.mg_none_of X G q_dict
  have z_int := PySem.W.mg_none_of X G q_int
  have z_isinstance := PySem.W.mg_none_of X G q_isinstance
  have z_len := PySem.W.mg_none_of X G q_len
  have z_list := PySem.W.mg_none_of X G q_list
  have z_max := PySem.W.mg_none_of X G q_max
  have z_range := PySem.W.mg_none_of X G q_range
  have z_sorted := PySem.W.mg_none_of X G q_sorted
  have z_str := PySem.W.mg_none_of X G q_str
  have z_tuple := PySem.W.mg_none_of X G q_tuple
  refine ⟨PySem.W.fnOf "law" "law" (defArgs s_law) (defBody s_law) (defScope s_law) .none kV33 dc33 pm33 an33 cd33 ct33, fun s v => .of_eq rfl, fun base _ _ => ?_⟩
  have n__law_numbers := ok__law_numbers (P := l.prog) (w := w) (base := base) F0 (PySem.W.mg_of X G a0) b0 z_range z_len z_abs z_int z_max
  have n_check_file := ok_check_file (P := l.prog) (w := w) (base := base) F1 (PySem.W.mg_of X G a1) b1 z_len c_MAX_FILE_NAME c_NAME_SIGNS c_MAX_DATA x_NotAllowed
  have n__law_signs := ok__law_signs (P := l.prog) (w := w) (base := base) F2 (PySem.W.mg_of X G a2) b2 
  have n__law_text := ok__law_text (P := l.prog) (w := w) (base := base) F3 (PySem.W.mg_of X G a3) b3 z_range z_int n__law_signs
  have n__law_texts := ok__law_texts (P := l.prog) (w := w) (base := base) F4 (PySem.W.mg_of X G a4) b4 z_len z_isinstance z_list z_range z_str
  have n__law_is_integer := ok__law_is_integer (P := l.prog) (w := w) (base := base) F5 (PySem.W.mg_of X G a5) b5 z_isinstance z_bool z_int
  have n__law_name := ok__law_name (P := l.prog) (w := w) (base := base) F6 (PySem.W.mg_of X G a6) b6 
  have n_digits_number := ok_digits_number (P := l.prog) (w := w) (base := base) F7 (PySem.W.mg_of X G a7) b7 z_len z_int c_MAX_DIGITS x_BadForm
  have n_number_of := ok_number_of (P := l.prog) (w := w) (base := base) F8 (PySem.W.mg_of X G a8) b8 x_BadForm n_digits_number
  have n_part_at := ok_part_at (P := l.prog) (w := w) (base := base) F9 (PySem.W.mg_of X G a9) b9 z_len c_MAX_DIGITS x_BadForm n_number_of
  have n_unpack := ok_unpack (P := l.prog) (w := w) (base := base) F10 (PySem.W.mg_of X G a10) b10 z_len n_part_at
  have n_pack := ok_pack (P := l.prog) (w := w) (base := base) F11 (PySem.W.mg_of X G a11) b11 z_len
  have n_read_event_number := ok_read_event_number (P := l.prog) (w := w) (base := base) F12 (PySem.W.mg_of X G a12) b12 x_BadForm n_number_of
  have n_read_file_row := ok_read_file_row (P := l.prog) (w := w) (base := base) F13 (PySem.W.mg_of X G a13) b13 c_NO_FILE d_NO_FILE c_MAX_FILES x_NotAllowed x_BadForm m_NotAllowed_NotAllowed n_number_of n_check_file
  have n_read_letter := ok_read_letter (P := l.prog) (w := w) (base := base) F14 (PySem.W.mg_of X G a14) b14 z_len z_tuple c_PART_COUNTS d_PART_COUNTS c_TWIN_NAMES d_TWIN_NAMES x_BadForm n_unpack n_read_event_number n_read_file_row
  have n_check_twin := ok_check_twin (P := l.prog) (w := w) (base := base) F15 (PySem.W.mg_of X G a15) b15 c_TWIN_NAMES d_TWIN_NAMES x_NotAllowed
  have n_check_event := ok_check_event (P := l.prog) (w := w) (base := base) F16 (PySem.W.mg_of X G a16) b16 c_MAX_EVENT x_NotAllowed
  have n_ask_letter := ok_ask_letter (P := l.prog) (w := w) (base := base) F17 (PySem.W.mg_of X G a17) b17 z_str n_check_twin n_check_event n_pack
  have n_done_letter := ok_done_letter (P := l.prog) (w := w) (base := base) F18 (PySem.W.mg_of X G a18) b18 z_str n_check_twin n_check_event n_pack
  have n_file_rows := ok_file_rows (P := l.prog) (w := w) (base := base) F19 (PySem.W.mg_of X G a19) b19 z_sorted z_range z_len c_NO_FILE d_NO_FILE
  have n_part_letters := ok_part_letters (P := l.prog) (w := w) (base := base) F20 (PySem.W.mg_of X G a20) b20 z_len z_sorted z_str c_MAX_FILES x_NotAllowed n_check_twin n_check_event n_check_file n_file_rows n_pack
  have n__law_packed := ok__law_packed (P := l.prog) (w := w) (base := base) F21 (PySem.W.mg_of X G a21) b21 z_str z_len
  have n__law_is_tuple := ok__law_is_tuple (P := l.prog) (w := w) (base := base) F22 (PySem.W.mg_of X G a22) b22 z_len z_isinstance z_tuple z_range z_str n__law_is_integer
  have n__law_size := ok__law_size (P := l.prog) (w := w) (base := base) F23 (PySem.W.mg_of X G a23) b23 
  have n__law_files := ok__law_files (P := l.prog) (w := w) (base := base) F24 (PySem.W.mg_of X G a24) b24 z_range n__law_name n__law_text n__law_size
  have n__law_event := ok__law_event (P := l.prog) (w := w) (base := base) F25 (PySem.W.mg_of X G a25) b25 
  have n__law_expected := ok__law_expected (P := l.prog) (w := w) (base := base) F26 (PySem.W.mg_of X G a26) b26 z_str z_len z_sorted z_range n__law_packed
  have n__law_refused := ok__law_refused (P := l.prog) (w := w) (base := base) F27 (PySem.W.mg_of X G a27) b27 x_NotAllowed m_NotAllowed_NotAllowed n_ask_letter n_done_letter n_part_letters
  have n__law_odd_files := ok__law_odd_files (P := l.prog) (w := w) (base := base) F28 (PySem.W.mg_of X G a28) b28 z_dict x_NotAllowed m_NotAllowed_NotAllowed n_part_letters
  have n__law_is_name := ok__law_is_name (P := l.prog) (w := w) (base := base) F29 (PySem.W.mg_of X G a29) b29 z_all z_len
  have n__law_fits := ok__law_fits (P := l.prog) (w := w) (base := base) F30 (PySem.W.mg_of X G a30) b30 z_len n__law_is_name
  have n__law_spoilt_read := ok__law_spoilt_read (P := l.prog) (w := w) (base := base) F31 (PySem.W.mg_of X G a31) b31 z_len z_isinstance z_tuple z_str x_BadForm m_BadForm_BadForm n_read_letter n__law_fits n__law_is_tuple n__law_packed
  have n__law_spoil := ok__law_spoil (P := l.prog) (w := w) (base := base) F32 (PySem.W.mg_of X G a32) b32 z_list z_len n__law_packed
  exact fn_law (P := l.prog) (w := w) (base := base) F33 z_range z_len z_str z_sorted n__law_numbers n__law_event n__law_files n__law_refused n__law_odd_files n__law_expected n__law_texts n_part_letters n_done_letter n__law_packed n_ask_letter n__law_spoilt_read n__law_spoil n__law_is_tuple n_read_letter n__law_signs
end Lw
open PySem PySem.W PyProof.Rows
set_option maxHeartbeats 0 in
theorem PySem.Challenge.cw_lethe_k60_letters_read_back_holds : PySem.Challenge.rw_lethe_k60_letters_read_back.Holds := by
  w_on; o_law; k_head; (case hw => w_witness2)
  k_fill
  refine L2.walk_ofK (l := PySem.Challenge.rw_lethe_k60_letters_read_back) (n := 63) (k := 7) (x := "script") (CX := L2.CX0) (sp := fun K => DL.spOf K DL.lawT) rfl (by decide) rfl ⟨rfl, by decide, by decide⟩ (fun w h Y => PySem.W.kIn_of Y) ?F (fun _ _ a ns hl _ hS => DL.law_sp hl hS) (fun _ _ _ _ h => h)
  case F =>
    intro w mg fa h KX G hmg
    refine' Lw.all_mk KX G hmg ?a0 ?l0 ?e0 ?k0 ?a1 ?l1 ?e1 ?k1 ?a2 ?l2 ?e2 ?k2 ?a3 ?l3 ?e3 ?k3 ?a4 ?l4 ?e4 ?k4 ?a5 ?l5 ?e5 ?k5 ?a6 ?l6 ?e6 ?k6 ?a7 ?l7 ?e7 ?k7 ?a8 ?l8 ?e8 ?k8 ?a9 ?l9 ?e9 ?k9 ?a10 ?l10 ?e10 ?k10 ?a11 ?l11 ?e11 ?k11 ?a12 ?l12 ?e12 ?k12 ?a13 ?l13 ?e13 ?k13 ?a14 ?l14 ?e14 ?k14 ?a15 ?l15 ?e15 ?k15 ?a16 ?l16 ?e16 ?k16 ?a17 ?l17 ?e17 ?k17 ?a18 ?l18 ?e18 ?k18 ?a19 ?l19 ?e19 ?k19 ?a20 ?l20 ?e20 ?k20 ?a21 ?l21 ?e21 ?k21 ?a22 ?l22 ?e22 ?k22 ?a23 ?l23 ?e23 ?k23 ?a24 ?l24 ?e24 ?k24 ?a25 ?l25 ?e25 ?k25 ?a26 ?l26 ?e26 ?k26 ?a27 ?l27 ?e27 ?k27 ?a28 ?l28 ?e28 ?k28 ?a29 ?l29 ?e29 ?k29 ?a30 ?l30 ?e30 ?k30 ?a31 ?l31 ?e31 ?k31 ?a32 ?l32 ?e32 ?k32 ?a33 ?l33 ?e33 ?k33 ?y_MAX_DATA ?y_MAX_DIGITS ?y_MAX_EVENT ?y_MAX_FILES ?y_MAX_FILE_NAME ?y_NAME_SIGNS ?y_NO_FILE ?l_NO_FILE ?y_PART_COUNTS ?l_PART_COUNTS ?low_PART_COUNTS ?e_PART_COUNTS ?y_TWIN_NAMES ?l_TWIN_NAMES ?u_BadForm ?v_BadForm ?w_BadForm ?xb_BadForm ?xt_BadForm ?u_NotAllowed ?v_NotAllowed ?w_NotAllowed ?xb_NotAllowed ?xt_NotAllowed ?ms_NotAllowed_NotAllowed ?mh_NotAllowed ?ms_BadForm_BadForm ?mh_BadForm ?q_abs ?q_all ?q_bool ?q_dict ?q_int ?q_isinstance ?q_len ?q_list ?q_max ?q_range ?q_sorted ?q_str ?q_tuple
    (case a0 => k_is); (case l0 => k_is); (case e0 => k_is); (case k0 => k_is); (case a1 => k_is); (case l1 => k_is); (case e1 => k_is); (case k1 => k_is); (case a2 => k_is); (case l2 => k_is); (case e2 => k_is); (case k2 => k_is); (case a3 => k_is); (case l3 => k_is); (case e3 => k_is); (case k3 => k_is); (case a4 => k_is); (case l4 => k_is); (case e4 => k_is); (case k4 => k_is); (case a5 => k_is); (case l5 => k_is); (case e5 => k_is); (case k5 => k_is); (case a6 => k_is); (case l6 => k_is); (case e6 => k_is); (case k6 => k_is); (case a7 => k_is); (case l7 => k_is); (case e7 => k_is); (case k7 => k_is); (case a8 => k_is); (case l8 => k_is); (case e8 => k_is); (case k8 => k_is); (case a9 => k_is); (case l9 => k_is); (case e9 => k_is); (case k9 => k_is); (case a10 => k_is); (case l10 => k_is); (case e10 => k_is); (case k10 => k_is); (case a11 => k_is); (case l11 => k_is); (case e11 => k_is); (case k11 => k_is); (case a12 => k_is); (case l12 => k_is); (case e12 => k_is); (case k12 => k_is); (case a13 => k_is); (case l13 => k_is); (case e13 => k_is); (case k13 => k_is); (case a14 => k_is); (case l14 => k_is); (case e14 => k_is); (case k14 => k_is); (case a15 => k_is); (case l15 => k_is); (case e15 => k_is); (case k15 => k_is); (case a16 => k_is); (case l16 => k_is); (case e16 => k_is); (case k16 => k_is); (case a17 => k_is); (case l17 => k_is); (case e17 => k_is); (case k17 => k_is); (case a18 => k_is); (case l18 => k_is); (case e18 => k_is); (case k18 => k_is); (case a19 => k_is); (case l19 => k_is); (case e19 => k_is); (case k19 => k_is); (case a20 => k_is); (case l20 => k_is); (case e20 => k_is); (case k20 => k_is); (case a21 => k_is); (case l21 => k_is); (case e21 => k_is); (case k21 => k_is); (case a22 => k_is); (case l22 => k_is); (case e22 => k_is); (case k22 => k_is); (case a23 => k_is); (case l23 => k_is); (case e23 => k_is); (case k23 => k_is); (case a24 => k_is); (case l24 => k_is); (case e24 => k_is); (case k24 => k_is); (case a25 => k_is); (case l25 => k_is); (case e25 => k_is); (case k25 => k_is); (case a26 => k_is); (case l26 => k_is); (case e26 => k_is); (case k26 => k_is); (case a27 => k_is); (case l27 => k_is); (case e27 => k_is); (case k27 => k_is); (case a28 => k_is); (case l28 => k_is); (case e28 => k_is); (case k28 => k_is); (case a29 => k_is); (case l29 => k_is); (case e29 => k_is); (case k29 => k_is); (case a30 => k_is); (case l30 => k_is); (case e30 => k_is); (case k30 => k_is); (case a31 => k_is); (case l31 => k_is); (case e31 => k_is); (case k31 => k_is); (case a32 => k_is); (case l32 => k_is); (case e32 => k_is); (case k32 => k_is); (case a33 => k_is); (case l33 => k_is); (case e33 => k_is); (case k33 => k_is); (case y_MAX_DATA => k_is); (case y_MAX_DIGITS => k_is); (case y_MAX_EVENT => k_is); (case y_MAX_FILES => k_is); (case y_MAX_FILE_NAME => k_is); (case y_NAME_SIGNS => k_is); (case y_NO_FILE => k_is); (case l_NO_FILE => k_is); (case y_PART_COUNTS => k_is); (case l_PART_COUNTS => k_is); (case low_PART_COUNTS => decide); (case e_PART_COUNTS => exact (.cons rfl rfl (.int _ _) (.cons rfl rfl (.int _ _) (.cons rfl rfl (.int _ _) .nil)))); (case y_TWIN_NAMES => k_is); (case l_TWIN_NAMES => k_is); (case u_BadForm => k_is); (case v_BadForm => k_exc); (case w_BadForm => k_is); (case xb_BadForm => k_is); (case xt_BadForm => k_is); (case u_NotAllowed => k_is); (case v_NotAllowed => k_exc); (case w_NotAllowed => k_is); (case xb_NotAllowed => k_is); (case xt_NotAllowed => k_is); (case ms_NotAllowed_NotAllowed => k_is); (case mh_NotAllowed => k_is); (case ms_BadForm_BadForm => k_is); (case mh_BadForm => k_is); (case q_abs => k_is); (case q_all => k_is); (case q_bool => k_is); (case q_dict => k_is); (case q_int => k_is); (case q_isinstance => k_is); (case q_len => k_is); (case q_list => k_is); (case q_max => k_is); (case q_range => k_is); (case q_sorted => k_is); (case q_str => k_is); (case q_tuple => k_is)
