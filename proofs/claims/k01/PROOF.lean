import PyProof.Rows.All
import Wide.All
import OpenK.AllK
import Wide.FinOn
import HandS.ForMost
import HandS.IsInst
import HandS.Wide
import HandS.EndBits
import HandS.RevRange
import HandS.TupLe
import HandS.TupAny
import HandS.Style
import PyProof.ReprRoads
import PyProof.ReprBulk
import HandS.Zip
import PyProof.FitsInt
import HandS.Small
import HandS.More
import HandS.SortInts
import HandS.WideBits
import PySem.Challenge.RW_nearadds_k01_rules_put_together
set_option linter.all false
set_option Elab.async false
set_option maxRecDepth 100000
set_option maxHeartbeats 4000000
/-! DL: data as a whole. The slots of a def hold plain data (PyData) or mutable cells; the abstract heap is hidden. -/
namespace DL
open PySem PySem.Spec PyProof.Rows L2

/-- what a slot holds: data, or the address of a mutable cell -/
inductive DV where
  | d (x : PyData)
  | cell (a : Addr)
/-- what stands in a mutable cell -/
inductive Cell where
  | lst (xs : List PyData)
  | dct (kvs : List (Key × PyData))
abbrev Mu := Addr → Option Cell
def put (μ : Mu) (a : Addr) (c : Cell) : Mu := fun b => if b = a then some c else μ b
def del (μ : Mu) (a : Addr) : Mu := fun b => if b = a then none else μ b
theorem put_same {μ : Mu} {a : Addr} {c : Cell} : put μ a c a = some c := by simp [put]
theorem put_ne {μ : Mu} {a b : Addr} {c : Cell} (h : b ≠ a) : put μ a c b = μ b := by simp [put, h]
theorem del_same {μ : Mu} {a : Addr} : del μ a a = none := by simp [del]
theorem del_ne {μ : Mu} {a b : Addr} (h : b ≠ a) : del μ a b = μ b := by simp [del, h]
theorem put_put {μ : Mu} {a : Addr} {c e : Cell} : put (put μ a c) a e = put μ a e := by
  funext b; simp only [put]; split <;> rfl
theorem del_put {μ : Mu} {a : Addr} {c : Cell} (h : μ a = none) : del (put μ a c) a = μ := by
  funext b; simp only [put, del]; split
  · next e => rw [e, h]
  · rfl

/-- the heap without the cells -/
def hid (μ : Mu) (H : Hp) : Hp := fun b => if (μ b).isSome = true then none else H b
theorem hid_of {μ : Mu} {H : Hp} {b : Addr} (h : μ b = none) : hid μ H b = H b := by simp [hid, h]
theorem hid_some {μ : Mu} {H : Hp} {b : Addr} {o : HO} (h : hid μ H b = some o) : H b = some o ∧ μ b = none := by
  unfold hid at h
  cases e : μ b with
  | none => rw [e] at h; exact ⟨by simpa using h, rfl⟩
  | some c => rw [e] at h; simp at h

def kD : Key → PyData
  | .inl i => .int i
  | .inr x => .str x

mutual
/-- the value v is the data d in the heap H -/
inductive Da (K : PySem.W.Frag) (H : Hp) : V → PyData → Prop
  | non : Da K H .non .none
  | bl (b : Bool) : Da K H (.bl b) (.bool b)
  | int (i : Int) : Da K H (.int i) (.int i)
  | str (x : Str) : Da K H (.str x) (.str x)
  | lst {a : Addr} {xs : List V} {ds : List PyData} : SqL K H a xs → DaAll K H xs ds → Da K H (.ref a) (.list ds)
  | tup {a : Addr} {xs : List V} {ds : List PyData} : SqT K H a xs → DaAll K H xs ds → Da K H (.ref a) (.tuple ds)
  | dct {a : Addr} {kvs : List (Key × V)} {ds : List PyData} : H a = some (.dK kvs) → DaAll K H (kvs.map (·.2)) ds → Da K H (.ref a) (.dict ((kvs.map fun p => kD p.1).zip ds))
inductive DaAll (K : PySem.W.Frag) (H : Hp) : List V → List PyData → Prop
  | nil : DaAll K H [] []
  | cons {v : V} {vs : List V} {d : PyData} {ds : List PyData} : Da K H v d → DaAll K H vs ds → DaAll K H (v :: vs) (d :: ds)
end

theorem same_seqT {K : PySem.W.Frag} {H H' : Hp} {a : Addr} {xs : List V} (e : Same H H') (h : SqT K H a xs) : SqT K H' a xs := by
  rcases h with (h | ⟨o, h⟩) | h
  · exact .inl (.inl (e _ _ h))
  · exact .inl (.inr ⟨o, e _ _ h⟩)
  · exact .inr h

mutual
theorem Da.mono {K : PySem.W.Frag} {H H' : Hp} (e : Same H H') : ∀ {v : V} {d : PyData}, Da K H v d → Da K H' v d
  | _, _, .non => .non
  | _, _, .bl b => .bl b
  | _, _, .int i => .int i
  | _, _, .str x => .str x
  | _, _, .lst h a => .lst (e.seq h) (DaAll.mono e a)
  | _, _, .tup h a => .tup (same_seqT e h) (DaAll.mono e a)
  | _, _, .dct h a => .dct (e _ _ h) (DaAll.mono e a)
theorem DaAll.mono {K : PySem.W.Frag} {H H' : Hp} (e : Same H H') : ∀ {vs : List V} {ds : List PyData}, DaAll K H vs ds → DaAll K H' vs ds
  | _, _, .nil => .nil
  | _, _, .cons h t => .cons (Da.mono e h) (DaAll.mono e t)
end
theorem DaAll.length {K : PySem.W.Frag} {H : Hp} : ∀ {vs : List V} {ds : List PyData}, DaAll K H vs ds → vs.length = ds.length
  | _, _, .nil => rfl
  | _, _, .cons _ t => by simp [DaAll.length t]
theorem DaAll.get {K : PySem.W.Frag} {H : Hp} : ∀ {vs : List V} {ds : List PyData}, DaAll K H vs ds → ∀ {i : Nat} {d : PyData}, ds[i]? = some d → ∃ v, vs[i]? = some v ∧ Da K H v d
  | _, _, .nil, i, d, h => by simp at h
  | _, _, .cons h t, 0, d, e => by simp at e; subst e; exact ⟨_, rfl, h⟩
  | _, _, .cons h t, i + 1, d, e => by
    obtain ⟨v, h1, h2⟩ := DaAll.get t (i := i) (by simpa using e)
    exact ⟨v, by simpa using h1, h2⟩
theorem DaAll.getV {K : PySem.W.Frag} {H : Hp} : ∀ {vs : List V} {ds : List PyData}, DaAll K H vs ds → ∀ {i : Nat} {v : V}, vs[i]? = some v → ∃ d, ds[i]? = some d ∧ Da K H v d
  | _, _, .nil, i, d, h => by simp at h
  | _, _, .cons h t, 0, d, e => by simp at e; subst e; exact ⟨_, rfl, h⟩
  | _, _, .cons h t, i + 1, d, e => by
    obtain ⟨v, h1, h2⟩ := DaAll.getV t (i := i) (by simpa using e)
    exact ⟨v, by simpa using h1, h2⟩
theorem DaAll.append {K : PySem.W.Frag} {H : Hp} : ∀ {vs ws : List V} {ds es : List PyData}, DaAll K H vs ds → DaAll K H ws es → DaAll K H (vs ++ ws) (ds ++ es)
  | _, _, _, _, .nil, h => h
  | _, _, _, _, .cons a t, h => .cons a (DaAll.append t h)
theorem DaAll.take {K : PySem.W.Frag} {H : Hp} : ∀ {vs : List V} {ds : List PyData} (n : Nat), DaAll K H vs ds → DaAll K H (vs.take n) (ds.take n)
  | _, _, 0, _ => by simpa using DaAll.nil
  | _, _, n + 1, .nil => by simpa using DaAll.nil
  | _, _, n + 1, .cons a t => by simpa using DaAll.cons a (DaAll.take n t)
theorem DaAll.drop {K : PySem.W.Frag} {H : Hp} : ∀ {vs : List V} {ds : List PyData} (n : Nat), DaAll K H vs ds → DaAll K H (vs.drop n) (ds.drop n)
  | _, _, 0, h => by simpa using h
  | _, _, n + 1, .nil => by simpa using DaAll.nil
  | _, _, n + 1, .cons a t => by simpa using DaAll.drop n t
theorem DaAll.rev {K : PySem.W.Frag} {H : Hp} : ∀ {vs : List V} {ds : List PyData}, DaAll K H vs ds → DaAll K H vs.reverse ds.reverse
  | _, _, .nil => by simpa using DaAll.nil
  | _, _, .cons a t => by
    rw [List.reverse_cons, List.reverse_cons]
    exact (DaAll.rev t).append (.cons a .nil)
theorem DaAll.ints {K : PySem.W.Frag} {H : Hp} : ∀ (ns : List Int), DaAll K H (ns.map V.int) (ns.map PyData.int)
  | [] => .nil
  | n :: ns => .cons (.int n) (DaAll.ints ns)
theorem DaAll.ints_inv {K : PySem.W.Frag} {H : Hp} : ∀ {ns : List Int} {vs : List V}, DaAll K H vs (ns.map PyData.int) → vs = ns.map V.int
  | [], _, h => by cases h; rfl
  | n :: ns, _, h => by
    cases h with
    | cons a t => cases a; rw [DaAll.ints_inv t]; rfl

/-- a slot's (or a result's) value -/
def RV (K : PySem.W.Frag) (μ : Mu) (H : Hp) (v : V) : DV → Prop
  | .d x => Da K (hid μ H) v x
  | .cell a => v = .ref a
def RVs (K : PySem.W.Frag) (μ : Mu) (H : Hp) : List V → List DV → Prop := Paired fun v d => RV K μ H v d
def RO (K : PySem.W.Frag) (μ : Mu) (H : Hp) : Option V → Option DV → Prop
  | some v, some d => RV K μ H v d
  | _, none => True
  | none, some _ => False
abbrev DSt := List (Option DV)
def RS (K : PySem.W.Frag) (μ : Mu) (H : Hp) (σ : L2.St) (δ : DSt) : Prop := σ.length = δ.length ∧ ∀ (i : Nat) (d : DV), δ[i]? = some (some d) → ∃ v, σ[i]? = some (some v) ∧ RV K μ H v d
/-- a cell stands in the heap -/
def CellOk (K : PySem.W.Frag) (μ : Mu) (H : Hp) (a : Addr) : Cell → Prop
  | .lst ds => ∃ xs, H a = some (.lst xs) ∧ DaAll K (hid μ H) xs ds
  | .dct kvs => ∃ ks : List (Key × V), H a = some (.dK ks) ∧ ks.map (·.1) = kvs.map (·.1) ∧ DaAll K (hid μ H) (ks.map (·.2)) (kvs.map (·.2))
def RM (K : PySem.W.Frag) (μ : Mu) (H : Hp) : Prop := ∀ a c, μ a = some c → CellOk K μ H a c
/-- what was tracked and is no cell stays -/
def Ext (μ : Mu) (H : Hp) (μ' : Mu) (H' : Hp) : Prop := Same (hid μ H) (hid μ' H')
theorem Ext.refl (μ : Mu) (H : Hp) : Ext μ H μ H := Same.refl _
theorem Ext.trans {μ μ1 μ2 : Mu} {H H1 H2 : Hp} (a : Ext μ H μ1 H1) (b : Ext μ1 H1 μ2 H2) : Ext μ H μ2 H2 := Same.trans a b
theorem RV.mono {K : PySem.W.Frag} {μ μ' : Mu} {H H' : Hp} (e : Ext μ H μ' H') {v : V} : ∀ {d : DV}, RV K μ H v d → RV K μ' H' v d
  | .d _, h => Da.mono e h
  | .cell _, h => h
theorem RVs.mono {K : PySem.W.Frag} {μ μ' : Mu} {H H' : Hp} (e : Ext μ H μ' H') : ∀ {vs : List V} {ds : List DV}, RVs K μ H vs ds → RVs K μ' H' vs ds
  | _, _, .nil => .nil
  | _, _, .cons h t => .cons (h.mono e) (RVs.mono e t)
theorem RS.mono {K : PySem.W.Frag} {μ μ' : Mu} {H H' : Hp} (e : Ext μ H μ' H') {σ : L2.St} {δ : DSt} (h : RS K μ H σ δ) : RS K μ' H' σ δ :=
  ⟨h.1, fun i d q => let ⟨v, a, b⟩ := h.2 i d q; ⟨v, a, b.mono e⟩⟩
theorem RS.set {K : PySem.W.Frag} {μ : Mu} {H : Hp} {σ : L2.St} {δ : DSt} (h : RS K μ H σ δ) {v : V} {d : DV} (r : RV K μ H v d) (i : Nat) : RS K μ H (σ.set i (some v)) (δ.set i (some d)) := by
  refine ⟨by simpa using h.1, fun j e q => ?_⟩
  by_cases hj : i = j
  · subst hj
    by_cases hl : i < δ.length
    · rw [List.getElem?_set_self hl] at q
      cases q
      exact ⟨v, by rw [List.getElem?_set_self (by rw [h.1]; exact hl)], r⟩
    · rw [List.getElem?_eq_none (by simpa using hl)] at q; cases q
  · rw [List.getElem?_set_ne hj] at q
    obtain ⟨v', a, b⟩ := h.2 j e q
    exact ⟨v', by rw [List.getElem?_set_ne hj]; exact a, b⟩
/-- slots forgotten -/
theorem RS.weak {K : PySem.W.Frag} {μ : Mu} {H : Hp} {σ σ' : L2.St} {δ δ' : DSt} (h : RS K μ H σ δ) (hl : σ'.length = δ'.length) (hw : ∀ (i : Nat) d, δ'[i]? = some (some d) → δ[i]? = some (some d) ∧ σ'[i]? = σ[i]?) : RS K μ H σ' δ' :=
  ⟨hl, fun i d q => let ⟨a, b⟩ := hw i d q; let ⟨v, c, e⟩ := h.2 i d a; ⟨v, b ▸ c, e⟩⟩
theorem RS.start {K : PySem.W.Frag} {μ : Mu} {H : Hp} {N : List Str} {vs : List V} {ds : List DV} (h : RVs K μ H vs ds) : RS K μ H (L2.start N vs) (ds.map some ++ List.replicate (N.length - ds.length) none) := by
  have hl : vs.length = ds.length := Paired.length h
  refine ⟨by simp [L2.start, hl], fun i d q => ?_⟩
  by_cases hi : i < ds.length
  · rw [List.getElem?_append_left (by simpa using hi), List.getElem?_map] at q
    have e : ds[i]? = some d := by
      cases e : ds[i]? with
      | none => rw [e] at q; cases q
      | some x => rw [e] at q; simp at q; rw [q]
    have g : ∀ {vs : List V} {ds : List DV} {i : Nat}, RVs K μ H vs ds → ds[i]? = some d → ∃ v, vs[i]? = some v ∧ RV K μ H v d := by
      intro vs ds i h
      induction h generalizing i with
      | nil => intro e; simp at e
      | cons a t ih =>
        intro e
        cases i with
        | zero => simp at e; subst e; exact ⟨_, rfl, a⟩
        | succ i => obtain ⟨v, h1, h2⟩ := ih (i := i) (by simpa using e); exact ⟨v, by simpa using h1, h2⟩
    obtain ⟨v, h1, h2⟩ := g h e
    refine ⟨v, ?_, h2⟩
    unfold L2.start
    rw [List.getElem?_append_left (by simpa [hl] using hi), List.getElem?_map, h1]
    rfl
  · rw [List.getElem?_append_right (by simpa using hi), List.getElem?_replicate] at q
    split at q <;> cases q

/-! ### new objects -/
theorem RM.free {K : PySem.W.Frag} {μ : Mu} {H : Hp} (m : RM K μ H) {p : Addr} (h : H p = none) : μ p = none := by
  cases e : μ p with
  | none => rfl
  | some c =>
    have q := m p c e
    cases c with
    | lst ds => obtain ⟨xs, a, _⟩ := q; rw [h] at a; cases a
    | dct kvs => obtain ⟨xs, a, _⟩ := q; rw [h] at a; cases a
theorem ext_new {μ : Mu} {H : Hp} {p : Addr} {o : HO} (h : H p = none) : Ext μ H μ (upd H p o) := fun b u e => by
  obtain ⟨e1, e2⟩ := hid_some e
  rw [hid_of e2, upd_ne (ne_of_none e1 h)]
  exact e1
theorem CellOk.mono {K : PySem.W.Frag} {μ μ' : Mu} {H H' : Hp} (e : Ext μ H μ' H') {a : Addr} : ∀ {c : Cell}, CellOk K μ H a c → H' a = H a → CellOk K μ' H' a c
  | .lst _, ⟨xs, h, r⟩, q => ⟨xs, by rw [q]; exact h, r.mono e⟩
  | .dct _, ⟨ks, h, k, r⟩, q => ⟨ks, by rw [q]; exact h, k, r.mono e⟩
theorem RM.new {K : PySem.W.Frag} {μ : Mu} {H : Hp} (m : RM K μ H) {p : Addr} {o : HO} (h : H p = none) : RM K μ (upd H p o) := fun a c e => by
  have hne : a ≠ p := fun z => by subst z; rw [m.free h] at e; cases e
  exact (m a c e).mono (ext_new h) (upd_ne hne)
theorem hid_new {K : PySem.W.Frag} {μ : Mu} {H : Hp} (m : RM K μ H) {p : Addr} {o : HO} (h : H p = none) : hid μ (upd H p o) p = some o := by
  rw [hid_of (m.free h), upd_same]
/-- a new cell -/
theorem ext_cell {μ : Mu} {H : Hp} {p : Addr} {o : HO} {c : Cell} (h : H p = none) : Ext μ H (put μ p c) (upd H p o) := fun b u e => by
  obtain ⟨e1, e2⟩ := hid_some e
  have hb : b ≠ p := ne_of_none e1 h
  rw [hid_of (by rw [put_ne hb]; exact e2), upd_ne hb]
  exact e1
theorem RM.cell {K : PySem.W.Frag} {μ : Mu} {H : Hp} (m : RM K μ H) {p : Addr} {o : HO} {c : Cell} (h : H p = none) (hc : CellOk K (put μ p c) (upd H p o) p c) : RM K (put μ p c) (upd H p o) := fun a e q => by
  by_cases ha : a = p
  · subst ha; rw [put_same] at q; cases q; exact hc
  · rw [put_ne ha] at q
    exact (m a e q).mono (ext_cell h) (upd_ne ha)
/-- a cell is written -/
theorem ext_write {μ : Mu} {H : Hp} {p : Addr} {o : HO} {c e : Cell} (h : μ p = some e) : Ext μ H (put μ p c) (upd H p o) := fun b u q => by
  obtain ⟨e1, e2⟩ := hid_some q
  have hb : b ≠ p := fun z => by subst z; rw [h] at e2; cases e2
  rw [hid_of (by rw [put_ne hb]; exact e2), upd_ne hb]
  exact e1
theorem RM.write {K : PySem.W.Frag} {μ : Mu} {H : Hp} (m : RM K μ H) {p : Addr} {o : HO} {c e : Cell} (h : μ p = some e) (hc : CellOk K (put μ p c) (upd H p o) p c) : RM K (put μ p c) (upd H p o) := fun a u q => by
  by_cases ha : a = p
  · subst ha; rw [put_same] at q; cases q; exact hc
  · rw [put_ne ha] at q
    exact (m a u q).mono (ext_write h) (upd_ne ha)
/-- a cell becomes data -/
theorem ext_freeze {μ : Mu} {H : Hp} {p : Addr} : Ext μ H (del μ p) H := fun b u q => by
  obtain ⟨e1, e2⟩ := hid_some q
  rw [hid_of (by unfold del; split <;> first | rfl | exact e2)]
  exact e1
theorem RM.freeze {K : PySem.W.Frag} {μ : Mu} {H : Hp} (m : RM K μ H) {p : Addr} : RM K (del μ p) H := fun a c q => by
  have ha : a ≠ p := fun z => by subst z; rw [del_same] at q; cases q
  rw [del_ne ha] at q
  exact (m a c q).mono ext_freeze rfl
theorem freeze_lst {K : PySem.W.Frag} {μ : Mu} {H : Hp} (m : RM K μ H) {p : Addr} {ds : List PyData} (h : μ p = some (.lst ds)) : Da K (hid (del μ p) H) (.ref p) (.list ds) := by
  obtain ⟨xs, h1, h2⟩ := m p _ h
  exact .lst (.of (by rw [hid_of del_same]; exact h1)) (h2.mono ext_freeze)
/-- what a sequence's data say of the heap itself -/
theorem unhid {μ : Mu} {H : Hp} : Same (hid μ H) H := fun _ _ h => (hid_some h).1
end DL

namespace DL
open PySem PySem.Spec PyProof.Rows L2

/-! ### readings over data -/
abbrev DK := DV → Mu → Prop
abbrev DT := DSt → Mu → DK → Prop
abbrev DTT := DSt → Mu → (Bool → Mu → Prop) → Prop
abbrev DTA := DSt → Mu → (List DV → Mu → Prop) → Prop
abbrev DTP := DSt → Mu → (Option Int → Mu → Prop) → Prop
structure DEnds where
  nx : DSt → Mu → Prop
  rt : DK
  bk : DSt → Mu → Prop := fun _ _ => False
  ct : DSt → Mu → Prop := fun _ _ => False
abbrev DTS := DEnds → DSt → Mu → Prop
abbrev DTG := DV → DSt → Mu → (DSt → Mu → Prop) → Prop
abbrev DTGs := List DV → DSt → Mu → (DSt → Mu → Prop) → Prop

/-- what a wish over data says of a wish over values -/
def Wk (K : PySem.W.Frag) (μ : Mu) (H : Hp) (Qd : DK) (Q : VK) : Prop := ∀ d μ' v H', Ext μ H μ' H' → RM K μ' H' → RV K μ' H' v d → Qd d μ' → Q v H'
def up (K : PySem.W.Frag) (t : DT) : TE := fun σ H Q => ∃ δ μ Qd, RS K μ H σ δ ∧ RM K μ H ∧ t δ μ Qd ∧ Wk K μ H Qd Q
def upT (K : PySem.W.Frag) (t : DTT) : TT := fun σ H Q => ∃ δ μ Qd, RS K μ H σ δ ∧ RM K μ H ∧ t δ μ Qd ∧ ∀ b μ' H', Ext μ H μ' H' → RM K μ' H' → Qd b μ' → Q b H'
def upA (K : PySem.W.Frag) (t : DTA) : TA := fun σ H Q => ∃ δ μ Qd, RS K μ H σ δ ∧ RM K μ H ∧ t δ μ Qd ∧ ∀ ds μ' vs H', Ext μ H μ' H' → RM K μ' H' → RVs K μ' H' vs ds → Qd ds μ' → Q vs H'
abbrev DE (X : Cx) (e : Expr) (t : DT) : Prop := PE X e (up X.K t)
abbrev DC (X : Cx) (e : Expr) (t : DTT) : Prop := PT X e (upT X.K t)
abbrev DCW (X : Cx) (e : Expr) (t : DTT) : Prop := PW X e (upT X.K t)
abbrev DA (X : Cx) (es : List Expr) (t : DTA) : Prop := PA X es (upA X.K t)

theorem pe_imp {X : Cx} {e : Expr} {t t' : TE} (h : PE X e t) (w : ∀ σ H Q, t' σ H Q → t σ H Q) : PE X e t' := ⟨fun pins s σ H Q I q => h.run pins s σ H Q I (w _ _ _ q)⟩
theorem pt_imp {X : Cx} {e : Expr} {t t' : TT} (h : PT X e t) (w : ∀ σ H Q, t' σ H Q → t σ H Q) : PT X e t' := ⟨fun pins s σ H Q I q => h.run pins s σ H Q I (w _ _ _ q)⟩
theorem pw_imp {X : Cx} {e : Expr} {t t' : TT} (h : PW X e t) (w : ∀ σ H Q, t' σ H Q → t σ H Q) : PW X e t' := ⟨fun wh pins s σ H Q I q => h.run wh pins s σ H Q I (w _ _ _ q)⟩
theorem pa_imp {X : Cx} {e : List Expr} {t t' : TA} (h : PA X e t) (w : ∀ σ H Q, t' σ H Q → t σ H Q) : PA X e t' := ⟨fun pos pins s σ H Q I q => h.run pos pins s σ H Q I (w _ _ _ q)⟩
theorem ps_imp {X : Cx} {e : Stmt} {t t' : TS} (h : PS X e t) (w : ∀ D σ H, t' D σ H → t D σ H) : PS X e t' := ⟨fun pins s σ H D I q => h.run pins s σ H D I (w _ _ _ q)⟩
theorem pss_imp {X : Cx} {e : List Stmt} {t t' : TS} (h : PSs X e t) (w : ∀ D σ H, t' D σ H → t D σ H) : PSs X e t' := ⟨fun pins s σ H D I q => h.run pins s σ H D I (w _ _ _ q)⟩

section
variable {K : PySem.W.Frag} {μ : Mu} {H : Hp} {σ : L2.St} {δ : DSt}
/-- a wish behind a further step -/
theorem Wk.step {Qd : DK} {Q : VK} {μ1 : Mu} {H1 : Hp} (w : Wk K μ H Qd Q) (e : Ext μ H μ1 H1) : Wk K μ1 H1 Qd Q := fun d μ' v H' e' m r q => w d μ' v H' (e.trans e') m r q
/-- use of a part -/
theorem up_use {t : DT} {Qd : DK} {Q : VK} (rs : RS K μ H σ δ) (rm : RM K μ H) (h : t δ μ Qd) (w : Wk K μ H Qd Q) : up K t σ H Q := ⟨δ, μ, Qd, rs, rm, h, w⟩
theorem upT_use {t : DTT} {Qd : Bool → Mu → Prop} {Q : Bool → Hp → Prop} (rs : RS K μ H σ δ) (rm : RM K μ H) (h : t δ μ Qd) (w : ∀ b μ' H', Ext μ H μ' H' → RM K μ' H' → Qd b μ' → Q b H') : upT K t σ H Q := ⟨δ, μ, Qd, rs, rm, h, w⟩
theorem upA_use {t : DTA} {Qd : List DV → Mu → Prop} {Q : List V → Hp → Prop} (rs : RS K μ H σ δ) (rm : RM K μ H) (h : t δ μ Qd) (w : ∀ ds μ' vs H', Ext μ H μ' H' → RM K μ' H' → RVs K μ' H' vs ds → Qd ds μ' → Q vs H') : upA K t σ H Q := ⟨δ, μ, Qd, rs, rm, h, w⟩
end

/-! ### names, constants -/
def dVar (i : Nat) : DT := fun δ μ Q => match δ[i]? with
  | some (some x) => Q x μ
  | _ => False
def dC (x : PyData) : DT := fun _ μ Q => Q (.d x) μ
section
variable {X : Cx} {pos : Pos} {a b c e : Expr} {ta tb tc te : DT}
theorem d_var (i : Nat) {x : Str} (hN : X.N[i]? = some x := by rfl) (hv : Vis X.env.scope x := by first | exact Or.inl rfl | exact Or.inr (Or.inl rfl) | exact Or.inr (Or.inr rfl)) (hd : (x == ("__debug__" : Str)) = false := by decide)
    (hcd : (x == ("__classdict__" : Str)) = false := by decide) : DE X (.Name x pos) (dVar i) := pe_imp (pe_var hN hv hd hcd) fun σ H Q h => by
  obtain ⟨δ, μ, Qd, rs, rm, q, w⟩ := h
  unfold dVar at q
  split at q
  · next x e =>
    obtain ⟨v, h1, h2⟩ := rs.2 i x e
    exact ⟨v, h1, w x μ v H (.refl _ _) rm h2 q⟩
  · exact q.elim
theorem d_const {v : V} {x : PyData} (h : PE X e (tC v)) (r : ∀ K H, Da K H v x) : DE X e (dC x) := pe_imp h fun σ H Q ⟨δ, μ, Qd, rs, rm, q, w⟩ => w (.d x) μ v H (.refl _ _) rm (r _ _) q
theorem d_int {i j} : DE X (.Constant (.int i) j pos) (dC (.int i)) := d_const pe_int fun _ _ => .int i
theorem d_bl {i j} : DE X (.Constant (.bool i) j pos) (dC (.bool i)) := d_const pe_bl fun _ _ => .bl i
theorem d_non {j} : DE X (.Constant .none j pos) (dC .none) := d_const pe_non fun _ _ => .non
theorem d_str {x j} : DE X (.Constant (.str x) j pos) (dC (.str x)) := d_const pe_str fun _ _ => .str x
/-- a module's constant: a number, a text, a tuple, a list, of the written part -/
theorem d_glob {x : Str} {v : V} {u : Value} {y : PyData} (hg : Gl X x) (hm : X.mg x = some u) (r : RelV v u) (hd : ∀ H, Da X.K H v y) (hdb : (x == ("__debug__" : Str)) = false := by decide) : DE X (.Name x pos) (dC y) :=
  pe_imp (pe_glob hg hm r hdb) fun σ H Q ⟨δ, μ, Qd, rs, rm, q, w⟩ => w (.d y) μ v H (.refl _ _) rm (hd _) q

/-! ### two-place operations -/
abbrev DR2 := DV → DV → Mu → DK → Prop
abbrev DR1 := DV → Mu → DK → Prop
def dOp (r : DR2) (ta tb : DT) : DT := fun δ μ Q => ta δ μ fun x μ1 => tb δ μ1 fun y μ2 => r x y μ2 Q
def dUn (r : DR1) (ta : DT) : DT := fun δ μ Q => ta δ μ fun x μ1 => r x μ1 Q
/-- rd over data leads to rv over values -/
def Up2 (K : PySem.W.Frag) (rd : DR2) (rv : R2) : Prop := ∀ x y μ Qd v u H Q, RM K μ H → RV K μ H v x → RV K μ H u y → rd x y μ Qd → Wk K μ H Qd Q → rv v u H Q
def Up1 (K : PySem.W.Frag) (rd : DR1) (rv : V → Hp → VK → Prop) : Prop := ∀ x μ Qd v H Q, RM K μ H → RV K μ H v x → rd x μ Qd → Wk K μ H Qd Q → rv v H Q
theorem up_op {rd : DR2} {rv : R2} (h : Up2 X.K rd rv) : ∀ σ H Q, up X.K (dOp rd ta tb) σ H Q → tOp rv (up X.K ta) (up X.K tb) σ H Q := fun σ H Q ⟨δ, μ, Qd, rs, rm, q, w⟩ =>
  up_use rs rm q fun x μ1 v H1 e1 m1 r1 q1 => up_use (rs.mono e1) m1 q1 fun y μ2 u H2 e2 m2 r2 q2 => h x y μ2 Qd v u H2 Q m2 (r1.mono e2) r2 q2 (w.step (e1.trans e2))
theorem d_op {op : Operator} {rd : DR2} {rv : R2} (ho : OpR X (binaryOp op) rv) (h : Up2 X.K rd rv) (ha : DE X a ta) (hb : DE X b tb) : DE X (.BinOp a op b pos) (dOp rd ta tb) := pe_imp (pe_op ho ha hb) (up_op h)
theorem d_cmp {op : CmpOp} {rd : DR2} {rv : R2} (ho : OpR X (compareOp op) rv) (h : Up2 X.K rd rv) (ha : DE X a ta) (hb : DE X b tb) (hm : behindInMarks op b = false) : DE X (.Compare a [op] [b] pos) (dOp rd ta tb) := pe_imp (pe_cmpR ho ha hb hm) (up_op h)
theorem d_ix {rd : DR2} {rv : R2} (ho : IxR X rv) (h : Up2 X.K rd rv) (ha : DE X a ta) (hb : DE X b tb) (hs : PlainIx b) : DE X (.Subscript a b pos) (dOp rd ta tb) := pe_imp (pe_ix ho ha hb hs) (up_op h)
theorem d_un {op : UnaryOp} {rd : DR1} {rv : V → Hp → VK → Prop} (ho : UnR X (unaryOp op) rv) (h : Up1 X.K rd rv) (ha : DE X a ta) : DE X (.UnaryOp op a pos) (dUn rd ta) :=
  pe_imp (pe_un ho ha) fun σ H Q ⟨δ, μ, Qd, rs, rm, q, w⟩ => up_use rs rm q fun x μ1 v H1 e1 m1 r1 q1 => h x μ1 Qd v H1 Q m1 r1 q1 (w.step e1)

/-- ints in, under C, data out -/
def rdI (C : Int → Int → Prop) (g : Int → Int → PyData) : DR2 := fun x y μ Q => match x, y with
  | .d (.int i), .d (.int j) => C i j ∧ Q (.d (g i j)) μ
  | _, _ => False
def rdI0 (g : Int → Int → PyData) : DR2 := fun x y μ Q => match x, y with
  | .d (.int i), .d (.int j) => Q (.d (g i j)) μ
  | _, _ => False
def rdU (g : Int → PyData) : DR1 := fun x μ Q => match x with
  | .d (.int i) => Q (.d (g i)) μ
  | _ => False
theorem up_I {K : PySem.W.Frag} {C : Int → Int → Prop} {g : Int → Int → PyData} {gv : Int → Int → V} (r : ∀ H i j, Da K H (gv i j) (g i j)) : Up2 K (rdI C g) (rI C gv) := fun x y μ Qd v u H Q m rx ry q w => by
  unfold rdI at q
  split at q
  · next i j =>
    cases rx; cases ry
    exact ⟨i, j, rfl, rfl, q.1, w (.d (g i j)) μ _ H (.refl _ _) m (r _ i j) q.2⟩
  · exact q.elim
theorem up_I0 {K : PySem.W.Frag} {g : Int → Int → PyData} {gv : Int → Int → V} (r : ∀ H i j, Da K H (gv i j) (g i j)) : Up2 K (rdI0 g) (rI0 gv) := fun x y μ Qd v u H Q m rx ry q w => by
  unfold rdI0 at q
  split at q
  · next i j =>
    cases rx; cases ry
    exact ⟨i, j, rfl, rfl, w (.d (g i j)) μ _ H (.refl _ _) m (r _ i j) q⟩
  · exact q.elim
theorem up_U {K : PySem.W.Frag} {g : Int → PyData} {gv : Int → V} (r : ∀ H i, Da K H (gv i) (g i)) : Up1 K (rdU g) (rU gv) := fun x μ Qd v H Q m rx q w => by
  unfold rdU at q
  split at q
  · next i =>
    cases rx
    exact ⟨i, rfl, w (.d (g i)) μ _ H (.refl _ _) m (r _ i) q⟩
  · exact q.elim
theorem d_add (ha : DE X a ta) (hb : DE X b tb) : DE X (.BinOp a .Add b pos) (dOp (rdI0 fun i j => .int (i + j)) ta tb) := d_op op_add (up_I0 fun _ _ _ => .int _) ha hb
theorem d_sub (ha : DE X a ta) (hb : DE X b tb) : DE X (.BinOp a .Sub b pos) (dOp (rdI0 fun i j => .int (i - j)) ta tb) := d_op op_sub (up_I0 fun _ _ _ => .int _) ha hb
/-- the bits together within the line -/
def Bits (i j : Int) : Prop := Builtin.Int.intBits i + Builtin.Int.intBits j < 100000000
theorem Bits.ok {i j : Int} (h : Bits i j) : IntMulOk i j := by
  unfold Bits at h
  have e : bitsLine = 134217728 := by decide
  unfold IntMulOk
  intro z
  rw [Bool.and_eq_true] at z
  have z2 := z.2
  unfold Builtin.Int.intTooBig at z2
  have z3 := of_decide_eq_true z2
  rw [e] at z3
  omega
theorem op_mulB : OpR X (binaryOp .Mult) (rI Bits fun i j => .int (i * j)) := opI fun _ _ _ _ _ _ _ hc q => mul_int q hc.ok
theorem d_mul (ha : DE X a ta) (hb : DE X b tb) : DE X (.BinOp a .Mult b pos) (dOp (rdI Bits fun i j => .int (i * j)) ta tb) := d_op op_mulB (up_I fun _ _ _ => .int _) ha hb
theorem d_mod (ha : DE X a ta) (hb : DE X b tb) : DE X (.BinOp a .Mod b pos) (dOp (rdI (fun _ j => 0 < j) fun i j => .int (i % j)) ta tb) := d_op op_mod (up_I fun _ _ _ => .int _) ha hb
theorem d_fdiv (ha : DE X a ta) (hb : DE X b tb) : DE X (.BinOp a .FloorDiv b pos) (dOp (rdI CDivW fun i j => .int (i / j)) ta tb) := d_op op_fdivW (up_I fun _ _ _ => .int _) ha hb
def CPowB (i j : Int) : Prop := 0 ≤ j ∧ (Builtin.Int.intBits i : Int) * j ≤ 2 ^ 27
theorem op_powB : OpR X (binaryOp .Pow) (rI CPowB fun i j => .int (i ^ j.toNat)) := opI fun _ _ _ _ _ _ _ hc q => pow_int hc.1 hc.2 q
theorem d_pow (ha : DE X a ta) (hb : DE X b tb) : DE X (.BinOp a .Pow b pos) (dOp (rdI CPowB fun i j => .int (i ^ j.toNat)) ta tb) := d_op op_powB (up_I fun _ _ _ => .int _) ha hb
theorem d_neg (ha : DE X a ta) : DE X (.UnaryOp .USub a pos) (dUn (rdU fun i => .int (-i)) ta) := d_un un_neg (up_U fun _ _ => .int _) ha
abbrev cLt : DR2 := rdI0 fun i j => .bool (decide (i < j))
abbrev cLe : DR2 := rdI0 fun i j => .bool (decide (i ≤ j))
abbrev cGt : DR2 := rdI0 fun i j => .bool (decide (j < i))
abbrev cGe : DR2 := rdI0 fun i j => .bool (decide (j ≤ i))
theorem u_lt : Up2 X.K cLt (rI0 fun i j => .bl (decide (i < j))) := up_I0 fun _ _ _ => .bl _
theorem u_le : Up2 X.K cLe (rI0 fun i j => .bl (decide (i ≤ j))) := up_I0 fun _ _ _ => .bl _
theorem u_gt : Up2 X.K cGt (rI0 fun i j => .bl (decide (j < i))) := up_I0 fun _ _ _ => .bl _
theorem u_ge : Up2 X.K cGe (rI0 fun i j => .bl (decide (j ≤ i))) := up_I0 fun _ _ _ => .bl _
theorem d_lt (ha : DE X a ta) (hb : DE X b tb) : DE X (.Compare a [.Lt] [b] pos) (dOp cLt ta tb) := d_cmp op_lt u_lt ha hb (nomark _)
theorem d_le (ha : DE X a ta) (hb : DE X b tb) : DE X (.Compare a [.LtE] [b] pos) (dOp cLe ta tb) := d_cmp op_le u_le ha hb (nomark _)
theorem d_gt (ha : DE X a ta) (hb : DE X b tb) : DE X (.Compare a [.Gt] [b] pos) (dOp cGt ta tb) := d_cmp op_gt u_gt ha hb (nomark _)
theorem d_ge (ha : DE X a ta) (hb : DE X b tb) : DE X (.Compare a [.GtE] [b] pos) (dOp cGe ta tb) := d_cmp op_ge u_ge ha hb (nomark _)
/-- a < b < c -/
def dChain (r r' : DR2) (ta tb tc : DT) : DT := fun δ μ Q => ta δ μ fun x μ1 => tb δ μ1 fun y μ2 => r x y μ2 fun z μ3 => match z with
  | .d (.bool true) => tc δ μ3 fun w μ4 => r' y w μ4 Q
  | .d (.bool false) => Q (.d (.bool false)) μ3
  | _ => False
theorem d_chain {op op' : CmpOp} {rd rd' : DR2} {rv rv' : R2} (ho : OpR X (compareOp op) rv) (h : Up2 X.K rd rv) (ho' : OpR X (compareOp op') rv') (h' : Up2 X.K rd' rv') (ha : DE X a ta) (hb : DE X b tb) (hc : DE X c tc) (hm : lastMarks [op, op'] [b, c] = false := by with_unfolding_all rfl) :
    DE X (.Compare a [op, op'] [b, c] pos) (dChain rd rd' ta tb tc) := pe_imp (pe_chain ho ho' ha hb hc hm) fun σ H Q ⟨δ, μ, Qd, rs, rm, q, w⟩ =>
  up_use rs rm q fun x μ1 v H1 e1 m1 r1 q1 => up_use (rs.mono e1) m1 q1 fun y μ2 u H2 e2 m2 r2 q2 => h x y μ2 _ v u H2 _ m2 (r1.mono e2) r2 q2 fun z μ3 p H3 e3 m3 r3 q3 => by
    split at q3
    · cases r3
      exact ⟨true, rfl, by
        rw [if_pos rfl]
        exact up_use (rs.mono (e1.trans (e2.trans e3))) m3 q3 fun k μ4 w' H4 e4 m4 r4 q4 => h' y k μ4 Qd u w' H4 Q m4 (r2.mono (e3.trans e4)) r4 q4 (w.step (e1.trans (e2.trans (e3.trans e4))))⟩
    · cases r3
      refine ⟨false, rfl, ?_⟩
      rw [if_neg Bool.false_ne_true]
      exact w (.d (.bool false)) μ3 _ H3 (e1.trans (e2.trans e3)) m3 (Da.bl false) q3
    · exact q3.elim

/-! ### tests -/
def dB (t : DT) : DTT := fun δ μ Q => t δ μ fun x μ1 => match x with
  | .d (.bool b) => Q b μ1
  | _ => False
theorem c_val (h : DE X e te) (he : ∀ whole, isTrue e X.env whole = (do let v ← whole; standAt e.pos; holding [v] (truthy v)) := by intro _; rfl) : DC X e (dB te) := pt_imp (pt_val h he) fun σ H Q ⟨δ, μ, Qd, rs, rm, q, w⟩ => up_use rs rm q fun x μ1 v H1 e1 m1 r1 q1 => by
  split at q1
  · cases r1
    exact ⟨_, rfl, w _ μ1 H1 e1 m1 q1⟩
  · exact q1.elim
theorem c_cmp {op : CmpOp} {rd : DR2} {rv : R2} (ho : OpR X (compareOp op) rv) (h : Up2 X.K rd rv) (ha : DE X a ta) (hb : DE X b tb) (hm : behindInMarks op b = false) : DC X (.Compare a [op] [b] pos) (dB (dOp rd ta tb)) :=
  pt_imp (pt_cmpR ho ha hb hm) fun σ H Q ⟨δ, μ, Qd, rs, rm, q, w⟩ => up_op h σ H _ ⟨δ, μ, _, rs, rm, q, fun x μ1 v H1 e1 m1 r1 q1 => by
    split at q1
    · cases r1
      exact ⟨_, rfl, w _ μ1 H1 e1 m1 q1⟩
    · exact q1.elim⟩
variable {rest : List Expr}
variable {tA tB : DTT}
def dAnd (t u : DTT) : DTT := fun δ μ Q => t δ μ fun b μ1 => if b = true then u δ μ1 Q else Q false μ1
def dOr (t u : DTT) : DTT := fun δ μ Q => t δ μ fun b μ1 => if b = true then Q true μ1 else u δ μ1 Q
def dNot (t : DTT) : DTT := fun δ μ Q => t δ μ fun b μ1 => Q (!b) μ1
theorem cw_and1 (ha : DC X a tA) : DCW X (.BoolOp .And [a] pos) tA := pw_and1 ha
theorem cw_or1 (ha : DC X a tA) : DCW X (.BoolOp .Or [a] pos) tA := pw_or1 ha
theorem cw_and (ha : DC X a tA) (hb : DCW X (.BoolOp .And (b :: rest) pos) tB) : DCW X (.BoolOp .And (a :: b :: rest) pos) (dAnd tA tB) := pw_imp (pw_and ha hb) fun σ H Q ⟨δ, μ, Qd, rs, rm, q, w⟩ =>
  upT_use rs rm q fun c μ1 H1 e1 m1 q1 => by
    cases c with
    | true => rw [if_pos rfl] at q1 ⊢; exact upT_use (rs.mono e1) m1 q1 fun d μ2 H2 e2 m2 q2 => w d μ2 H2 (e1.trans e2) m2 q2
    | false => rw [if_neg Bool.false_ne_true] at q1 ⊢; exact w _ μ1 H1 e1 m1 q1
theorem cw_or (ha : DC X a tA) (hb : DCW X (.BoolOp .Or (b :: rest) pos) tB) : DCW X (.BoolOp .Or (a :: b :: rest) pos) (dOr tA tB) := pw_imp (pw_or ha hb) fun σ H Q ⟨δ, μ, Qd, rs, rm, q, w⟩ =>
  upT_use rs rm q fun c μ1 H1 e1 m1 q1 => by
    cases c with
    | true => rw [if_pos rfl] at q1 ⊢; exact w _ μ1 H1 e1 m1 q1
    | false => rw [if_neg Bool.false_ne_true] at q1 ⊢; exact upT_use (rs.mono e1) m1 q1 fun d μ2 H2 e2 m2 q2 => w d μ2 H2 (e1.trans e2) m2 q2
theorem c_w (h : DCW X e tA) : DC X e tA := h.pt
theorem c_not (ha : DC X a tA) : DC X (.UnaryOp .Not a pos) (dNot tA) := pt_imp (pt_not ha) fun σ H Q ⟨δ, μ, Qd, rs, rm, q, w⟩ =>
  upT_use rs rm q fun c μ1 H1 e1 m1 q1 => w _ μ1 H1 e1 m1 q1
/-- and, or, not as values (all True or False but the last) -/
def dAndV (ta tb : DT) : DT := fun δ μ Q => ta δ μ fun x μ1 => match x with
  | .d (.bool true) => tb δ μ1 Q
  | .d (.bool false) => Q (.d (.bool false)) μ1
  | _ => False
def dOrV (ta tb : DT) : DT := fun δ μ Q => ta δ μ fun x μ1 => match x with
  | .d (.bool true) => Q (.d (.bool true)) μ1
  | .d (.bool false) => tb δ μ1 Q
  | _ => False
def dNotV (ta : DT) : DT := fun δ μ Q => ta δ μ fun x μ1 => match x with
  | .d (.bool b) => Q (.d (.bool (!b))) μ1
  | _ => False
theorem d_one {op} (h : DE X a ta) : DE X (.BoolOp op [a] pos) ta := pe_one h
theorem d_and (ha : DE X a ta) (hb : DE X (.BoolOp .And (b :: rest) pos) tb) : DE X (.BoolOp .And (a :: b :: rest) pos) (dAndV ta tb) := pe_imp (pe_and ha hb) fun σ H Q ⟨δ, μ, Qd, rs, rm, q, w⟩ =>
  up_use rs rm q fun x μ1 v H1 e1 m1 r1 q1 => by
    split at q1
    · cases r1
      exact ⟨true, rfl, by rw [if_pos rfl]; exact up_use (rs.mono e1) m1 q1 (w.step e1)⟩
    · cases r1
      exact ⟨false, rfl, by rw [if_neg Bool.false_ne_true]; exact w (.d (.bool false)) μ1 _ H1 e1 m1 (Da.bl _) q1⟩
    · exact q1.elim
theorem d_or (ha : DE X a ta) (hb : DE X (.BoolOp .Or (b :: rest) pos) tb) : DE X (.BoolOp .Or (a :: b :: rest) pos) (dOrV ta tb) := pe_imp (pe_or ha hb) fun σ H Q ⟨δ, μ, Qd, rs, rm, q, w⟩ =>
  up_use rs rm q fun x μ1 v H1 e1 m1 r1 q1 => by
    split at q1
    · cases r1
      exact ⟨true, rfl, by rw [if_pos rfl]; exact w (.d (.bool true)) μ1 _ H1 e1 m1 (Da.bl _) q1⟩
    · cases r1
      exact ⟨false, rfl, by rw [if_neg Bool.false_ne_true]; exact up_use (rs.mono e1) m1 q1 (w.step e1)⟩
    · exact q1.elim
theorem d_not (ha : DE X a ta) : DE X (.UnaryOp .Not a pos) (dNotV ta) := pe_imp (pe_not ha) fun σ H Q ⟨δ, μ, Qd, rs, rm, q, w⟩ =>
  up_use rs rm q fun x μ1 v H1 e1 m1 r1 q1 => by
    split at q1
    · cases r1
      exact ⟨_, rfl, w (.d (.bool _)) μ1 _ H1 e1 m1 (Da.bl _) q1⟩
    · exact q1.elim
def dIf (t : DTT) (ta tb : DT) : DT := fun δ μ Q => t δ μ fun c μ1 => if c = true then ta δ μ1 Q else tb δ μ1 Q
theorem d_if (hc : DC X c tA) (ha : DE X a ta) (hb : DE X b tb) : DE X (.IfExp c a b pos) (dIf tA ta tb) := pe_imp (pe_ifExp hc ha hb) fun σ H Q ⟨δ, μ, Qd, rs, rm, q, w⟩ =>
  upT_use rs rm q fun x μ1 H1 e1 m1 q1 => by
    cases x with
    | true => rw [if_pos rfl] at q1 ⊢; exact up_use (rs.mono e1) m1 q1 (w.step e1)
    | false => rw [if_neg Bool.false_ne_true] at q1 ⊢; exact up_use (rs.mono e1) m1 q1 (w.step e1)
/-- is None -/
def isNone : PyData → Bool
  | .none => true
  | _ => false
def rdIsN : DR2 := fun x y μ Q => match x, y with
  | .d x, .d .none => Q (.d (.bool (isNone x))) μ
  | _, _ => False
def rdNotN : DR2 := fun x y μ Q => match x, y with
  | .d x, .d .none => Q (.d (.bool (!isNone x))) μ
  | _, _ => False

theorem u_isN {K : PySem.W.Frag} : Up2 K rdIsN (fun x y H Q => y = .non ∧ Q (.bl (decide (x = .non))) H) := fun x y μ Qd v u H Q m rx ry q w => by
  unfold rdIsN at q
  split at q
  · next x =>
    cases ry
    have e : decide (v = V.non) = isNone x := by cases rx <;> first | rfl | simp [isNone]
    rw [e]
    exact ⟨rfl, w (.d (.bool _)) μ _ H (.refl _ _) m (Da.bl _) q⟩
  · exact q.elim
theorem u_notN {K : PySem.W.Frag} : Up2 K rdNotN (fun x y H Q => y = .non ∧ Q (.bl (!decide (x = .non))) H) := fun x y μ Qd v u H Q m rx ry q w => by
  unfold rdNotN at q
  split at q
  · next x =>
    cases ry
    have e : decide (v = V.non) = isNone x := by cases rx <;> first | rfl | simp [isNone]
    rw [e]
    exact ⟨rfl, w (.d (.bool _)) μ _ H (.refl _ _) m (Da.bl _) q⟩
  · exact q.elim
theorem d_isN (ha : DE X a ta) (hb : DE X b tb) : DE X (.Compare a [.Is] [b] pos) (dOp rdIsN ta tb) := d_cmp op_isN u_isN ha hb (nomark _)
theorem d_notN (ha : DE X a ta) (hb : DE X b tb) : DE X (.Compare a [.IsNot] [b] pos) (dOp rdNotN ta tb) := d_cmp op_notN u_notN ha hb (nomark _)
theorem c_isN (ha : DE X a ta) (hb : DE X b tb) : DC X (.Compare a [.Is] [b] pos) (dB (dOp rdIsN ta tb)) := c_cmp op_isN u_isN ha hb (nomark _)
theorem c_notN (ha : DE X a ta) (hb : DE X b tb) : DC X (.Compare a [.IsNot] [b] pos) (dB (dOp rdNotN ta tb)) := c_cmp op_notN u_notN ha hb (nomark _)
theorem c_lt (ha : DE X a ta) (hb : DE X b tb) : DC X (.Compare a [.Lt] [b] pos) (dB (dOp cLt ta tb)) := c_cmp op_lt u_lt ha hb (nomark _)
theorem c_le (ha : DE X a ta) (hb : DE X b tb) : DC X (.Compare a [.LtE] [b] pos) (dB (dOp cLe ta tb)) := c_cmp op_le u_le ha hb (nomark _)
theorem c_gt (ha : DE X a ta) (hb : DE X b tb) : DC X (.Compare a [.Gt] [b] pos) (dB (dOp cGt ta tb)) := c_cmp op_gt u_gt ha hb (nomark _)
theorem c_ge (ha : DE X a ta) (hb : DE X b tb) : DC X (.Compare a [.GtE] [b] pos) (dB (dOp cGe ta tb)) := c_cmp op_ge u_ge ha hb (nomark _)

/-! ### argument lists, tuples, lists -/
def aNil : DTA := fun _ μ Q => Q [] μ
def aCons (ta : DT) (tr : DTA) : DTA := fun δ μ Q => ta δ μ fun x μ1 => tr δ μ1 fun xs μ2 => Q (x :: xs) μ2
variable {es : List Expr} {tr : DTA}
theorem a_nil : DA X [] aNil := pa_imp pa_nil fun σ H Q ⟨δ, μ, Qd, rs, rm, q, w⟩ => w [] μ [] H (.refl _ _) rm .nil q
theorem a_cons (ha : DE X e te) (hr : DA X es tr) (hs : starEach (e :: es) X.env = (false, eval e X.env) :: starEach es X.env := by rfl) : DA X (e :: es) (aCons te tr) :=
  pa_imp (pa_cons ha hr hs) fun σ H Q ⟨δ, μ, Qd, rs, rm, q, w⟩ => up_use rs rm q fun x μ1 v H1 e1 m1 r1 q1 => upA_use (rs.mono e1) m1 q1 fun xs μ2 vs H2 e2 m2 r2 q2 =>
    w (x :: xs) μ2 (v :: vs) H2 (e1.trans e2) m2 (.cons (r1.mono e2) r2) q2
/-- all data -/
def allD : List DV → Option (List PyData)
  | [] => some []
  | .d x :: r => (allD r).map (x :: ·)
  | .cell _ :: _ => none
theorem allD_da {K : PySem.W.Frag} {μ : Mu} {H : Hp} : ∀ {ds : List DV} {vs : List V} {xs : List PyData}, allD ds = some xs → RVs K μ H vs ds → DaAll K (hid μ H) vs xs
  | [], _, _, h, .nil => by cases h; exact .nil
  | .d x :: r, _, _, h, .cons a t => by
    simp only [allD, Option.map_eq_some_iff] at h
    obtain ⟨y, h1, rfl⟩ := h
    exact .cons a (allD_da h1 t)
  | .cell _ :: _, _, _, h, _ => by cases h
def dTup (t : DTA) : DT := fun δ μ Q => t δ μ fun ds μ1 => match allD ds with
  | some xs => xs.length ≤ 1000 ∧ Q (.d (.tuple xs)) μ1
  | none => False
def dLst (t : DTA) : DT := fun δ μ Q => t δ μ fun ds μ1 => match allD ds with
  | some xs => xs.length ≤ 1000 ∧ Q (.d (.list xs)) μ1
  | none => False
/-- a list that will be changed -/
def dLstC (t : DTA) : DT := fun δ μ Q => t δ μ fun ds μ1 => match allD ds with
  | some xs => xs.length ≤ 1000 ∧ ∀ p, μ1 p = none → Q (.cell p) (put μ1 p (.lst xs))
  | none => False
theorem small_line {n : Nat} (h : n ≤ 1000) : n ≤ sizeLine := Nat.le_of_lt (small1000 h)
/-- the wish behind a new object that is data -/
theorem wk_tup {K : PySem.W.Frag} {μ : Mu} {H : Hp} {Qd : DK} {Q : VK} {vs : List V} {xs : List PyData} (w : Wk K μ H Qd Q) (m : RM K μ H) (r : DaAll K (hid μ H) vs xs) (q : Qd (.d (.tuple xs)) μ) {p : Addr} (hp : H p = none) : Q (.ref p) (upd H p (.tup vs)) :=
  w (.d (.tuple xs)) μ _ _ (ext_new hp) (m.new hp) (.tup (.of (hid_new m hp)) (r.mono (ext_new hp))) q
theorem wk_lst {K : PySem.W.Frag} {μ : Mu} {H : Hp} {Qd : DK} {Q : VK} {vs : List V} {xs : List PyData} (w : Wk K μ H Qd Q) (m : RM K μ H) (r : DaAll K (hid μ H) vs xs) (q : Qd (.d (.list xs)) μ) {p : Addr} (hp : H p = none) : Q (.ref p) (upd H p (.lst vs)) :=
  w (.d (.list xs)) μ _ _ (ext_new hp) (m.new hp) (.lst (.of (hid_new m hp)) (r.mono (ext_new hp))) q
theorem wk_lstC {K : PySem.W.Frag} {μ : Mu} {H : Hp} {Qd : DK} {Q : VK} {vs : List V} {xs : List PyData} (w : Wk K μ H Qd Q) (m : RM K μ H) (r : DaAll K (hid μ H) vs xs) {p : Addr} (hp : H p = none) (q : Qd (.cell p) (put μ p (.lst xs))) : Q (.ref p) (upd H p (.lst vs)) :=
  w (.cell p) (put μ p (.lst xs)) _ _ (ext_cell hp) (m.cell (c := .lst xs) hp ⟨vs, upd_same, r.mono (ext_cell hp)⟩) rfl q
theorem d_tup {x1} (h : DA X es tr) : DE X (.Tuple es x1 pos) (dTup tr) := pe_imp (pe_tup h) fun σ H Q ⟨δ, μ, Qd, rs, rm, q, w⟩ => upA_use rs rm q fun xs μ1 vs H1 e1 m1 r1 q1 => by
  split at q1
  · next ys e =>
    have r := allD_da e r1
    exact ⟨small_line (by rw [r.length]; exact q1.1), fun p hp => wk_tup (w.step e1) m1 r q1.2 hp⟩
  · exact q1.elim
theorem d_lst (h : DA X es tr) : DE X (.List es pos) (dLst tr) := pe_imp (pe_lst h) fun σ H Q ⟨δ, μ, Qd, rs, rm, q, w⟩ => upA_use rs rm q fun xs μ1 vs H1 e1 m1 r1 q1 => by
  split at q1
  · next ys e =>
    have r := allD_da e r1
    exact ⟨small_line (by rw [r.length]; exact q1.1), fun p hp => wk_lst (w.step e1) m1 r q1.2 hp⟩
  · exact q1.elim
theorem d_lstC (h : DA X es tr) : DE X (.List es pos) (dLstC tr) := pe_imp (pe_lst h) fun σ H Q ⟨δ, μ, Qd, rs, rm, q, w⟩ => upA_use rs rm q fun xs μ1 vs H1 e1 m1 r1 q1 => by
  split at q1
  · next ys e =>
    have r := allD_da e r1
    exact ⟨small_line (by rw [r.length]; exact q1.1), fun p hp => wk_lstC (w.step e1) m1 r hp (q1.2 p (m1.free hp))⟩
  · exact q1.elim

/-! ### built-in functions -/
abbrev DRA := List DV → Mu → DK → Prop
def dCall (r : DRA) (t : DTA) : DT := fun δ μ Q => t δ μ fun ds μ1 => r ds μ1 Q
def UpA (K : PySem.W.Frag) (rd : DRA) (rv : List V → Hp → VK → Prop) : Prop := ∀ ds μ Qd vs H Q, RM K μ H → RVs K μ H vs ds → rd ds μ Qd → Wk K μ H Qd Q → rv vs H Q
variable {x : Str} {p : Pos} {id T : String} {rd : DRA} {rv : List V → Hp → VK → Prop}
theorem up_call (h : UpA X.K rd rv) : ∀ σ H Q, up X.K (dCall rd tr) σ H Q → tCB rv (upA X.K tr) σ H Q := fun σ H Q ⟨δ, μ, Qd, rs, rm, q, w⟩ =>
  upA_use rs rm q fun ds μ1 vs H1 e1 m1 r1 q1 => h ds μ1 Qd vs H1 Q m1 r1 q1 (w.step e1)
theorem d_callB (hc : CallR X (.builtin id) rv) (h : UpA X.K rd rv) (hg : Gl X x) (hm : X.mg x = none) (hv : bootBuiltins x = some (.builtin id)) (ha : DA X (e :: es) tr) (hn : x ≠ "__name__" := by decide) (hdb : (x == ("__debug__" : Str)) = false := by decide)
    (he : starEach (e :: es) X.env = (false, eval e X.env) :: starEach es X.env := by rfl) (hpl : (backTo pos (starEach es X.env)).any (·.1) = false := by rfl) : DE X (.Call (.Name x p) (e :: es) [] pos) (dCall rd tr) :=
  pe_imp (pe_callB hc hg hm hv ha hn hdb he hpl) (up_call h)
theorem d_callTy (hc : CallR X (.type T) rv) (h : UpA X.K rd rv) (hg : Gl X x) (hm : X.mg x = none) (hv : bootBuiltins x = some (.type T)) (ha : DA X (e :: es) tr) (hn : x ≠ "__name__" := by decide) (hdb : (x == ("__debug__" : Str)) = false := by decide)
    (he : starEach (e :: es) X.env = (false, eval e X.env) :: starEach es X.env := by rfl) (hpl : (backTo pos (starEach es X.env)).any (·.1) = false := by rfl) : DE X (.Call (.Name x p) (e :: es) [] pos) (dCall rd tr) :=
  pe_imp (pe_callTy hc hg hm hv ha hn hdb he hpl) (up_call h)
end
end DL

namespace DL
open PySem PySem.Spec PyProof.Rows L2
section
variable {X : Cx} {pos : Pos} {a b c e : Expr} {ta tb tc te : DT} {K : PySem.W.Frag}

/-! ### == of ints, bools, texts; of data -/
def rdEq : DR2 := fun x y μ Q => match x, y with
  | .d (.int i), .d (.int j) => Q (.d (.bool (decide (i = j)))) μ
  | .d (.str i), .d (.str j) => Q (.d (.bool (decide (i = j)))) μ
  | .d (.bool i), .d (.bool j) => Q (.d (.bool (decide (i = j)))) μ
  | _, _ => False
def rdNe : DR2 := fun x y μ Q => match x, y with
  | .d (.int i), .d (.int j) => Q (.d (.bool (!decide (i = j)))) μ
  | .d (.str i), .d (.str j) => Q (.d (.bool (!decide (i = j)))) μ
  | .d (.bool i), .d (.bool j) => Q (.d (.bool (!decide (i = j)))) μ
  | _, _ => False
theorem dec_str {i j : Str} : decide (V.str i = V.str j) = decide (i = j) := by
  rw [Bool.eq_iff_iff]; simp
theorem dec_int2 {i j : Int} : decide (V.int i = V.int j) = decide (i = j) := by
  rw [Bool.eq_iff_iff]; simp
theorem dec_bl2 {i j : Bool} : decide (V.bl i = V.bl j) = decide (i = j) := by
  rw [Bool.eq_iff_iff]; simp
theorem u_eq : Up2 K rdEq rEq := fun x y μ Qd v u H Q m rx ry q w => by
  unfold rdEq at q
  split at q
  · next i j =>
    cases rx; cases ry
    exact ⟨rfl, w (.d (.bool _)) μ _ H (.refl _ _) m (by rw [dec_int2]; exact Da.bl _) q⟩
  · next i j =>
    cases rx; cases ry
    exact ⟨rfl, w (.d (.bool _)) μ _ H (.refl _ _) m (by rw [dec_str]; exact Da.bl _) q⟩
  · next i j =>
    cases rx; cases ry
    exact ⟨rfl, w (.d (.bool _)) μ _ H (.refl _ _) m (by rw [dec_bl2]; exact Da.bl _) q⟩
  · exact q.elim
theorem u_ne : Up2 K rdNe rNe := fun x y μ Qd v u H Q m rx ry q w => by
  unfold rdNe at q
  split at q
  · next i j =>
    cases rx; cases ry
    exact ⟨rfl, w (.d (.bool _)) μ _ H (.refl _ _) m (by rw [dec_int2]; exact Da.bl _) q⟩
  · next i j =>
    cases rx; cases ry
    exact ⟨rfl, w (.d (.bool _)) μ _ H (.refl _ _) m (by rw [dec_str]; exact Da.bl _) q⟩
  · next i j =>
    cases rx; cases ry
    exact ⟨rfl, w (.d (.bool _)) μ _ H (.refl _ _) m (by rw [dec_bl2]; exact Da.bl _) q⟩
  · exact q.elim
theorem d_eq (ha : DE X a ta) (hb : DE X b tb) : DE X (.Compare a [.Eq] [b] pos) (dOp rdEq ta tb) := d_cmp op_eq u_eq ha hb (nomark _)
theorem d_ne (ha : DE X a ta) (hb : DE X b tb) : DE X (.Compare a [.NotEq] [b] pos) (dOp rdNe ta tb) := d_cmp op_ne u_ne ha hb (nomark _)
theorem c_eq (ha : DE X a ta) (hb : DE X b tb) : DC X (.Compare a [.Eq] [b] pos) (dB (dOp rdEq ta tb)) := c_cmp op_eq u_eq ha hb (nomark _)
theorem c_ne (ha : DE X a ta) (hb : DE X b tb) : DC X (.Compare a [.NotEq] [b] pos) (dB (dOp rdNe ta tb)) := c_cmp op_ne u_ne ha hb (nomark _)
mutual
theorem Da.dp {H : Hp} : ∀ {v : V} {d : PyData}, Da K H v d → d.canLay0 = true → Dp K H v d
  | _, _, .non, _ => .non
  | _, _, .bl b, _ => .bl b
  | _, _, .int i, _ => .int i
  | _, _, .str x, _ => .str x
  | _, _, .lst (ds := ds) h r, c => .lst h (DaAll.dp r (by simpa [PyData.canLay0] using c))
  | _, _, .tup (ds := ds) h r, c => .tup h (DaAll.dp r (by simpa [PyData.canLay0] using c))
  | _, _, .dct h r, c => by simp [PyData.canLay0] at c
theorem DaAll.dp {H : Hp} : ∀ {vs : List V} {ds : List PyData}, DaAll K H vs ds → PyData.canLayAll0 ds = true → DpAll K H vs ds
  | _, _, .nil, _ => .nil
  | _, _, .cons h t, c => by
    simp only [PyData.canLayAll0, Bool.and_eq_true] at c
    exact .cons (Da.dp h c.1) (DaAll.dp t c.2)
end
def rdEqD : DR2 := fun x y μ Q => match x, y with
  | .d i, .d j => SeqAt.shaped i = true ∧ SeqAt.shaped j = true ∧ Q (.d (.bool (PyData.eqv i j))) μ
  | _, _ => False
theorem u_eqD : Up2 K rdEqD (rEqD K) := fun x y μ Qd v u H Q m rx ry q w => by
  unfold rdEqD at q
  split at q
  · next i j =>
    exact ⟨i, j, ((Da.mono unhid rx).dp (SeqAt.canLay_of_shaped q.1)), ((Da.mono unhid ry).dp (SeqAt.canLay_of_shaped q.2.1)), q.1, q.2.1, w (.d (.bool _)) μ _ H (.refl _ _) m (Da.bl _) q.2.2⟩
  · exact q.elim

/-! ### in a list of ints -/
def intsOf : List PyData → Option (List Int)
  | [] => some []
  | .int i :: r => (intsOf r).map (i :: ·)
  | _ :: _ => none
theorem intsOf_map : ∀ (ns : List Int), intsOf (ns.map PyData.int) = some ns
  | [] => rfl
  | n :: ns => by simp [intsOf, intsOf_map ns]
theorem intsOf_some : ∀ {ds : List PyData} {ns : List Int}, intsOf ds = some ns → ds = ns.map PyData.int
  | [], _, h => by cases h; rfl
  | d :: ds, ns, h => by
    cases d <;> simp only [intsOf, Option.map_eq_some_iff, reduceCtorEq] at h
    obtain ⟨ms, h1, rfl⟩ := h
    rw [intsOf_some h1]; rfl
theorem inV_ints (i : Int) : ∀ (ns : List Int), inV (.int i) (ns.map V.int) = decide (i ∈ ns)
  | [] => by simp [inV]
  | n :: ns => by
    have ih := inV_ints i ns
    unfold inV at ih ⊢
    rw [List.map_cons, List.any_cons, ih]
    rw [Bool.eq_iff_iff]
    simp only [eqV, Bool.or_eq_true, beq_iff_eq, List.mem_cons, decide_eq_true_eq]
    exact ⟨fun h => h.elim (fun e => .inl e.symm) .inr, fun h => h.elim (fun e => .inl e.symm) .inr⟩
theorem flat_ints : ∀ (ns : List Int), (ns.map V.int).all flatV = true
  | [] => rfl
  | n :: ns => by rw [List.map_cons, List.all_cons, flat_ints ns]; rfl
/-- the items of a sequence -/
def seqOf (μ : Mu) : DV → Option (List PyData)
  | .d (.list xs) => some xs
  | .d (.tuple xs) => some xs
  | .cell a => match μ a with
    | some (.lst xs) => some xs
    | _ => none
  | _ => none
theorem seq_v {μ : Mu} {H : Hp} {x : DV} {v : V} {xs : List PyData} (m : RM K μ H) (r : RV K μ H v x) (h : seqOf μ x = some xs) : ∃ p vs, v = .ref p ∧ (SqL K H p vs ∨ SqT K H p vs) ∧ DaAll K (hid μ H) vs xs :=
  match x, r, h with
  | .d (.list ys), r, h => by
    cases h
    cases (show Da K (hid μ H) v (.list xs) from r) with
    | lst s t => exact ⟨_, _, rfl, .inl (unhid.seq s), t⟩
  | .d (.tuple ys), r, h => by
    cases h
    cases (show Da K (hid μ H) v (.tuple xs) from r) with
    | tup s t => exact ⟨_, _, rfl, .inr (same_seqT unhid s), t⟩
  | .cell a, r, h => by
    have h : (match μ a with
      | some (.lst xs) => some xs
      | _ => none) = some xs := h
    cases e : μ a with
    | none => rw [e] at h; cases h
    | some c =>
      cases c with
      | dct _ => rw [e] at h; cases h
      | lst ys =>
        rw [e] at h
        cases h
        obtain ⟨vs, h1, h2⟩ := m a _ e
        exact ⟨a, vs, r, .inl (.of h1), h2⟩
def rdIn : DR2 := fun x y μ Q => match x, (seqOf μ y).bind intsOf with
  | .d (.int i), some ns => Q (.d (.bool (decide (i ∈ ns)))) μ
  | _, _ => False
theorem u_in : Up2 K rdIn (rIn K false) := fun x y μ Qd v u H Q m rx ry q w => by
  unfold rdIn at q
  split at q
  · next i ns h =>
    cases rx
    rw [Option.bind_eq_some_iff] at h
    obtain ⟨ds, h1, h2⟩ := h
    obtain ⟨p, vs, rfl, hs, hd⟩ := seq_v m ry h1
    have e := intsOf_some h2
    subst e
    have e2 := hd.ints_inv
    subst e2
    refine ⟨p, _, rfl, hs, rfl, flat_ints ns, w (.d (.bool _)) μ _ H (.refl _ _) m ?_ q⟩
    rw [if_neg Bool.false_ne_true, inV_ints]
    exact Da.bl _
  · exact q.elim
theorem d_in (ha : DE X a ta) (hb : DE X b tb) (hm : behindInMarks .In b = false := by rfl) : DE X (.Compare a [.In] [b] pos) (dOp rdIn ta tb) := d_cmp op_in_seq u_in ha hb hm
theorem c_in (ha : DE X a ta) (hb : DE X b tb) (hm : behindInMarks .In b = false := by rfl) : DC X (.Compare a [.In] [b] pos) (dB (dOp rdIn ta tb)) := c_cmp op_in_seq u_in ha hb hm

/-! ### items, slices -/
def rdIx : DR2 := fun x y μ Q => match seqOf μ x, y with
  | some xs, .d (.int i) => match atI xs i with
    | some d => Q (.d d) μ
    | none => False
  | _, _ => False
theorem atI_da {H : Hp} {vs : List V} {ds : List PyData} (r : DaAll K H vs ds) {i : Int} {d : PyData} (h : atI ds i = some d) : ∃ v, atI vs i = some v ∧ Da K H v d := by
  unfold atI at h ⊢
  rw [Option.bind_eq_some_iff] at h
  obtain ⟨j, h1, h2⟩ := h
  obtain ⟨v, h3, h4⟩ := r.get h2
  exact ⟨v, by rw [r.length, h1]; exact h3, h4⟩
theorem u_ix : Up2 K rdIx (rIx K) := fun x y μ Qd v u H Q m rx ry q w => by
  unfold rdIx at q
  split at q
  · next xs i h =>
    cases ry
    obtain ⟨p, vs, rfl, hs, hd⟩ := seq_v m rx h
    split at q
    · next d e =>
      obtain ⟨z, h1, h2⟩ := atI_da hd e
      have q' := w (.d d) μ z H (.refl _ _) m h2 q
      rcases hs with hs | hs
      · exact .inl ⟨p, vs, i, z, rfl, rfl, hs, h1, q'⟩
      · exact .inr (.inl ⟨p, vs, i, z, rfl, rfl, hs, h1, q'⟩)
    · exact q.elim
  · exact q.elim
theorem d_item (ha : DE X a ta) (hb : DE X b tb) (hs : PlainIx b := by exact fun _ _ => rfl) : DE X (.Subscript a b pos) (dOp rdIx ta tb) := d_ix ix_seq u_ix ha hb hs
/-- an optional bound -/
def dNo : DTP := fun _ μ Q => Q none μ
def dPart (t : DT) : DTP := fun δ μ Q => t δ μ fun x μ1 => match x with
  | .d (.int i) => Q (some i) μ1
  | _ => False
abbrev TPo := L2.St → Hp → (Option Int → Hp → Prop) → Prop
def upP (K : PySem.W.Frag) (t : DTP) : TPo := fun σ H Q => ∃ δ μ Qd, RS K μ H σ δ ∧ RM K μ H ∧ t δ μ Qd ∧ ∀ o μ' H', Ext μ H μ' H' → RM K μ' H' → Qd o μ' → Q o H'
abbrev DPO (X : Cx) (o : Option Expr) (t : DTP) : Prop := PO X o (upP X.K t)
theorem po_imp {o : Option Expr} {t t' : TPo} (h : PO X o t) (w : ∀ σ H Q, t' σ H Q → t σ H Q) : PO X o t' := ⟨fun pins s σ H Q I q => h.run pins s σ H Q I (w _ _ _ q)⟩
theorem o_no : DPO X none dNo := po_imp po_none fun σ H Q ⟨δ, μ, Qd, rs, rm, q, w⟩ => w none μ H (.refl _ _) rm q
theorem o_some (h : DE X e te) : DPO X (some e) (dPart te) := po_imp (po_some h) fun σ H Q ⟨δ, μ, Qd, rs, rm, q, w⟩ => up_use rs rm q fun x μ1 v H1 e1 m1 r1 q1 => by
  split at q1
  · cases r1; exact ⟨_, rfl, w _ μ1 H1 e1 m1 q1⟩
  · exact q1.elim
end
end DL

namespace DL
open PySem PySem.Spec PyProof.Rows L2
section
variable {X : Cx} {pos : Pos} {a b c e : Expr} {ta tb tc te : DT} {K : PySem.W.Frag}

/-! ### slices -/
def cutD (xs : List PyData) (lo hi : Option Int) : List PyData := (xs.drop (HT.sIx xs.length 0 lo)).take (HT.sIx xs.length xs.length hi - HT.sIx xs.length 0 lo)
theorem cut_da {H : Hp} {vs : List V} {ds : List PyData} (r : DaAll K H vs ds) (lo hi : Option Int) : DaAll K H (cutV vs lo hi) (cutD ds lo hi) := by
  unfold cutV cutD
  rw [r.length]
  exact (r.drop _).take _
theorem cut_whole {H : Hp} {vs : List V} {ds : List PyData} (r : DaAll K H vs ds) {lo hi : Option Int} (h : HT.sIx vs.length 0 lo = 0 ∧ HT.sIx vs.length vs.length hi = vs.length) : cutD ds lo hi = ds := by
  rw [r.length] at h
  unfold cutD
  rw [h.1, h.2]
  simp
abbrev DRS := DV → Option Int → Option Int → Mu → DK → Prop
def dSl (te : DT) (tl th : DTP) : DT := fun δ μ Q => te δ μ fun x μ1 => tl δ μ1 fun l μ2 => th δ μ2 fun u μ3 => match x with
  | .d (.list xs) => Q (.d (.list (cutD xs l u))) μ3
  | .d (.tuple xs) => Q (.d (.tuple (cutD xs l u))) μ3
  | .cell a => match μ3 a with
    | some (.lst xs) => Q (.d (.list (cutD xs l u))) μ3
    | _ => False
  | _ => False
theorem d_slice {lo hi : Option Expr} {tl th : DTP} {p2 : Pos} (he : DE X e te) (hl : DPO X lo tl) (hu : DPO X hi th) : DE X (.Subscript e (.Slice lo hi none p2) pos) (dSl te tl th) :=
  pe_imp (pe_slice (SlR.or sl_list sl_tupA) he hl hu) fun σ H Q ⟨δ, μ, Qd, rs, rm, q, w⟩ =>
    up_use rs rm q fun x μ1 v H1 e1 m1 r1 q1 => ⟨δ, μ1, _, rs.mono e1, m1, q1, fun l μ2 H2 e2 m2 q2 => ⟨δ, μ2, _, rs.mono (e1.trans e2), m2, q2, fun u μ3 H3 e3 m3 q3 => by
      have r3 := r1.mono (e2.trans e3)
      have w3 := w.step (e1.trans (e2.trans e3))
      have lst : ∀ {p : Addr} {vs : List V} {xs : List PyData}, SqL X.K H3 p vs → DaAll X.K (hid μ3 H3) vs xs → Qd (.d (.list (cutD xs l u))) μ3 → rSlL X.K (.ref p) l u H3 Q := fun {p vs xs} s t q => ⟨p, vs, rfl, s, fun p' hp => wk_lst w3 m3 (cut_da t l u) q hp⟩
      split at q3
      · next xs =>
        cases (show Da X.K (hid μ3 H3) v (.list xs) from r3) with
        | lst s t => exact .inl (lst (unhid.seq s) t q3)
      · next xs =>
        cases (show Da X.K (hid μ3 H3) v (.tuple xs) from r3) with
        | @tup p vs _ s t =>
          refine .inr ⟨p, vs, rfl, same_seqT unhid s, fun hw => ?_, fun _ p' hp => wk_tup w3 m3 (cut_da t l u) q3 hp⟩
          rw [cut_whole t hw] at q3
          exact w3 (.d (.tuple xs)) μ3 _ H3 (.refl _ _) m3 (Da.tup s t) q3
      · next a =>
        split at q3
        · next xs e =>
          obtain ⟨vs, h1, h2⟩ := m3 a _ e
          cases (show v = .ref a from r3)
          exact .inl (lst (.of h1) h2 q3)
        · exact q3.elim
      · exact q3.elim⟩⟩

/-! ### t + u of tuples, of lists -/
def rdCat : DR2 := fun x y μ Q => match x, y with
  | .d (.tuple xs), .d (.tuple ys) => xs.length + ys.length ≤ 100000 ∧ Q (.d (.tuple (xs ++ ys))) μ
  | _, _ => False
theorem le_line {n : Nat} (h : n ≤ 100000) : n ≤ sizeLine := Nat.le_trans h (by decide)
theorem u_cat : Up2 K rdCat (rCatA K) := fun x y μ Qd v u H Q m rx ry q w => by
  unfold rdCat at q
  split at q
  · next xs ys =>
    cases (show Da K (hid μ H) v (.tuple xs) from rx) with
    | @tup a vs _ s t =>
      cases (show Da K (hid μ H) u (.tuple ys) from ry) with
      | @tup b ws _ s' t' =>
        have l1 := t.length
        have l2 := t'.length
        refine ⟨a, b, vs, ws, rfl, rfl, same_seqT unhid s, same_seqT unhid s', le_line (by omega), fun z => ?_, fun _ z => ?_, fun _ _ p hp => wk_tup w m (t.append t') q.2 hp⟩
        · subst z
          have : xs = [] := by cases t; rfl
          subst this
          exact w (.d (.tuple ([] ++ ys))) μ _ H (.refl _ _) m (.tup s' t') q.2
        · subst z
          have : ys = [] := by cases t'; rfl
          subst this
          have q2 := q.2
          rw [List.append_nil] at q2
          exact w (.d (.tuple xs)) μ _ H (.refl _ _) m (.tup s t) q2
  · exact q.elim
theorem d_cat (ha : DE X a ta) (hb : DE X b tb) : DE X (.BinOp a .Add b pos) (dOp rdCat ta tb) := d_op op_catA u_cat ha hb

/-! ### built-in functions of one value -/
variable {es : List Expr} {tr : DTA}
def rdLen : DRA := fun ds μ Q => match ds with
  | [x] => match seqOf μ x with
    | some xs => Q (.d (.int xs.length)) μ
    | none => False
  | _ => False
theorem u_len : UpA K rdLen (fun xs H Q => ∃ p ys, xs = [.ref p] ∧ (SqL K H p ys ∨ SqT K H p ys) ∧ Q (.int ys.length) H) := fun ds μ Qd vs H Q m r q w => by
  unfold rdLen at q
  split at q
  · next x =>
    cases r with
    | cons r t =>
      cases t
      split at q
      · next xs e =>
        obtain ⟨p, ws, rfl, hs, hd⟩ := seq_v m r e
        refine ⟨p, ws, rfl, hs, ?_⟩
        rw [hd.length]
        exact w (.d (.int _)) μ _ H (.refl _ _) m (Da.int _) q
      · exact q.elim
  · exact q.elim
def rdTuple : DRA := fun ds μ Q => match ds with
  | [x] => match seqOf μ x with
    | some xs => Q (.d (.tuple xs)) μ
    | none => False
  | _ => False
theorem u_tuple : UpA K rdTuple (fun xs H Q => ∃ p ys, xs = [.ref p] ∧ ((SqL K H p ys ∧ ∀ l, H l = none → Q (.ref l) (upd H l (.tup ys))) ∨ (SqT K H p ys ∧ Q (.ref p) H))) := fun ds μ Qd vs H Q m r q w => by
  unfold rdTuple at q
  split at q
  · next x =>
    cases r with
    | cons r t =>
      cases t
      split at q
      · next xs e =>
        unfold seqOf at e
        split at e
        · next ys =>
          cases e
          cases (show Da K (hid μ H) _ (.list xs) from r) with
          | lst s t => exact ⟨_, _, rfl, .inl ⟨unhid.seq s, fun l hl => wk_tup w m t q hl⟩⟩
        · next ys =>
          cases e
          cases (show Da K (hid μ H) _ (.tuple xs) from r) with
          | tup s t => exact ⟨_, _, rfl, .inr ⟨same_seqT unhid s, w (.d (.tuple xs)) μ _ H (.refl _ _) m (.tup s t) q⟩⟩
        · next a =>
          split at e
          · next ys e' =>
            cases e
            obtain ⟨vs, h1, h2⟩ := m a _ e'
            cases (show _ = V.ref a from r)
            exact ⟨a, vs, rfl, .inl ⟨.of h1, fun l hl => wk_tup w m h2 q hl⟩⟩
          · cases e
        · cases e
      · exact q.elim
  · exact q.elim
def rdList : DRA := fun ds μ Q => match ds with
  | [x] => match seqOf μ x with
    | some xs => Q (.d (.list xs)) μ
    | none => False
  | _ => False
theorem u_list : UpA K rdList (fun xs H Q => ∃ p ys, xs = [.ref p] ∧ (SqL K H p ys ∨ SqT K H p ys) ∧ ∀ l, H l = none → Q (.ref l) (upd H l (.lst ys))) := fun ds μ Qd vs H Q m r q w => by
  unfold rdList at q
  split at q
  · next x =>
    cases r with
    | cons r t =>
      cases t
      split at q
      · next xs e =>
        obtain ⟨p, ws, rfl, hs, hd⟩ := seq_v m r e
        exact ⟨p, ws, rfl, hs, fun l hl => wk_lst w m hd q hl⟩
      · exact q.elim
  · exact q.elim
/-- ints of a list, for sum -/
def rdSum : DRA := fun ds μ Q => match ds with
  | [.d (.list xs)] => match intsOf xs with
    | some ns => Q (.d (.int ns.sum)) μ
    | none => False
  | _ => False
theorem u_sum : UpA K rdSum (rSum K) := fun ds μ Qd vs H Q m r q w => by
  unfold rdSum at q
  split at q
  · next xs =>
    cases r with
    | cons r t =>
      cases t
      split at q
      · next ns e =>
        have e := intsOf_some e
        subst e
        cases (show Da K (hid μ H) _ (.list _) from r) with
        | @lst a ws _ s t =>
          have := t.ints_inv
          subst this
          exact ⟨a, ns, rfl, unhid.seq s, w (.d (.int _)) μ _ H (.refl _ _) m (Da.int _) q⟩
      · exact q.elim
  · exact q.elim
def boolsOf : List PyData → Option (List Bool)
  | [] => some []
  | .bool i :: r => (boolsOf r).map (i :: ·)
  | _ :: _ => none
theorem boolsOf_map : ∀ (ns : List Bool), boolsOf (ns.map PyData.bool) = some ns
  | [] => rfl
  | n :: ns => by simp [boolsOf, boolsOf_map ns]
theorem boolsOf_some : ∀ {ds : List PyData} {ns : List Bool}, boolsOf ds = some ns → ds = ns.map PyData.bool
  | [], _, h => by cases h; rfl
  | d :: ds, ns, h => by
    cases d <;> simp only [boolsOf, Option.map_eq_some_iff, reduceCtorEq] at h
    obtain ⟨ms, h1, rfl⟩ := h
    rw [boolsOf_some h1]; rfl
theorem bools_inv {H : Hp} : ∀ {ns : List Bool} {vs : List V}, DaAll K H vs (ns.map PyData.bool) → vs = ns.map V.bl
  | [], _, h => by cases h; rfl
  | n :: ns, _, h => by
    cases h with
    | cons a t => cases a; rw [bools_inv t]; rfl
def rdAll : DRA := fun ds μ Q => match ds with
  | [.d (.list xs)] => match boolsOf xs with
    | some bs => Q (.d (.bool (bs.all id))) μ
    | none => False
  | _ => False
def rdAny : DRA := fun ds μ Q => match ds with
  | [.d (.list xs)] => match boolsOf xs with
    | some bs => Q (.d (.bool (bs.any id))) μ
    | none => False
  | _ => False
theorem u_all : UpA K rdAll (rAll K) := fun ds μ Qd vs H Q m r q w => by
  unfold rdAll at q
  split at q
  · next xs =>
    cases r with
    | cons r t =>
      cases t
      split at q
      · next ns e =>
        have e := boolsOf_some e
        subst e
        cases (show Da K (hid μ H) _ (.list _) from r) with
        | @lst a ws _ s t =>
          have := bools_inv t
          subst this
          exact ⟨a, ns, rfl, unhid.seq s, w (.d (.bool _)) μ _ H (.refl _ _) m (Da.bl _) q⟩
      · exact q.elim
  · exact q.elim
theorem u_any : UpA K rdAny (rAny K) := fun ds μ Qd vs H Q m r q w => by
  unfold rdAny at q
  split at q
  · next xs =>
    cases r with
    | cons r t =>
      cases t
      split at q
      · next ns e =>
        have e := boolsOf_some e
        subst e
        cases (show Da K (hid μ H) _ (.list _) from r) with
        | @lst a ws _ s t =>
          have := bools_inv t
          subst this
          exact ⟨a, ns, rfl, unhid.seq s, w (.d (.bool _)) μ _ H (.refl _ _) m (Da.bl _) q⟩
      · exact q.elim
  · exact q.elim
def rdAbs : DRA := fun ds μ Q => match ds with
  | [.d (.int i)] => Q (.d (.int (if i < 0 then -i else i))) μ
  | _ => False
theorem u_abs : UpA K rdAbs (fun xs H Q => ∃ i, xs = [.int i] ∧ Q (.int (if i < 0 then -i else i)) H) := fun ds μ Qd vs H Q m r q w => by
  unfold rdAbs at q
  split at q
  · cases r with
    | cons r t => cases t; cases r; exact ⟨_, rfl, w (.d (.int _)) μ _ H (.refl _ _) m (Da.int _) q⟩
  · exact q.elim
def rdMax2 : DRA := fun ds μ Q => match ds with
  | [.d (.int i), .d (.int j)] => Q (.d (.int (if j > i then j else i))) μ
  | _ => False
theorem u_max2 : UpA K rdMax2 (fun xs H Q => ∃ i j, xs = [.int i, .int j] ∧ Q (.int (if j > i then j else i)) H) := fun ds μ Qd vs H Q m r q w => by
  unfold rdMax2 at q
  split at q
  · cases r with
    | cons r t =>
      cases t with
      | cons r' t => cases t; cases r; cases r'; exact ⟨_, _, rfl, w (.d (.int _)) μ _ H (.refl _ _) m (Da.int _) q⟩
  · exact q.elim
def rdMin2 : DRA := fun ds μ Q => match ds with
  | [.d (.int i), .d (.int j)] => Q (.d (.int (if j < i then j else i))) μ
  | _ => False
theorem u_min2 : UpA K rdMin2 (fun xs H Q => ∃ i j, xs = [.int i, .int j] ∧ Q (.int (if j < i then j else i)) H) := fun ds μ Qd vs H Q m r q w => by
  unfold rdMin2 at q
  split at q
  · cases r with
    | cons r t =>
      cases t with
      | cons r' t => cases t; cases r; cases r'; exact ⟨_, _, rfl, w (.d (.int _)) μ _ H (.refl _ _) m (Da.int _) q⟩
  · exact q.elim
def rdInt : DRA := fun ds μ Q => match ds with
  | [.d (.int i)] => Q (.d (.int i)) μ
  | [.d (.bool k)] => Q (.d (.int (if k then 1 else 0))) μ
  | _ => False
theorem u_int : UpA K rdInt (fun xs H Q => (∃ i, xs = [.int i] ∧ Q (.int i) H) ∨ ∃ k, xs = [.bl k] ∧ Q (.int (if k then 1 else 0)) H) := fun ds μ Qd vs H Q m r q w => by
  unfold rdInt at q
  split at q
  · cases r with
    | cons r t => cases t; cases r; exact .inl ⟨_, rfl, w (.d (.int _)) μ _ H (.refl _ _) m (Da.int _) q⟩
  · cases r with
    | cons r t => cases t; cases r; exact .inr ⟨_, rfl, w (.d (.int _)) μ _ H (.refl _ _) m (Da.int _) q⟩
  · exact q.elim
def rdStr : DRA := fun ds μ Q => match ds with
  | [.d (.int i)] => i.natAbs.log2 < 1920 ∧ Q (.d (.str (toString i))) μ
  | _ => False
theorem u_str : UpA K rdStr (fun xs H Q => ∃ i, xs = [.int i] ∧ i.natAbs.log2 < 1920 ∧ Q (.str (toString i)) H) := fun ds μ Qd vs H Q m r q w => by
  unfold rdStr at q
  split at q
  · cases r with
    | cons r t => cases t; cases r; exact ⟨_, rfl, q.1, w (.d (.str _)) μ _ H (.refl _ _) m (Da.str _) q.2⟩
  · exact q.elim

/-! ### isinstance of a built-in class -/
def kindOf : PyData → String
  | .none => "NoneType"
  | .bool _ => "bool"
  | .int _ => "int"
  | .str _ => "str"
  | .list _ => "list"
  | .tuple _ => "tuple"
  | .dict _ => "dict"
theorem da_ty {H : Hp} {v : V} {d : PyData} (r : Da K H v d) : TyX K H v (.type (kindOf d)) := by
  cases r with
  | non => exact .base .non
  | bl b => exact .base (.bl b)
  | int i => exact .base (.int i)
  | str x => exact .base (.str x)
  | lst s t =>
    rcases s with (s | ⟨o, s⟩) | ⟨o, _, _, h1, h2, _⟩
    · exact .base (.lst s)
    · exact .base (.frz s)
    · exact .kList h1 h2
  | tup s t =>
    rcases s with (s | ⟨o, s⟩) | ⟨o, _, _, h1, h2, _⟩
    · exact .base (.tup s)
    · exact .fTuple s
    · exact .kTuple h1 h2
  | dct s t => exact .base (.dK s)
def dIsi (T : String) (te : DT) : DT := fun δ μ Q => te δ μ fun x μ1 => match x with
  | .d d => Q (.d (.bool ((kitB (kindOf d) T).getD false))) μ1
  | _ => False
theorem kit_all (T : String) (hT : ∀ t ∈ ["NoneType", "bool", "int", "str", "list", "tuple", "dict"], (kitB t T).isSome = true) (d : PyData) : PySem.W.kitOne K (.type (kindOf d)) (.type T) = some ((kitB (kindOf d) T).getD false) := by
  refine kit_ty ?_
  have h : (kitB (kindOf d) T).isSome = true := hT _ (by cases d <;> simp [kindOf])
  cases e : kitB (kindOf d) T with
  | none => rw [e] at h; cases h
  | some b => rfl
theorem d_isi {T : String} {xi xt : Str} {p pt : Pos} (hT : ∀ t ∈ ["NoneType", "bool", "int", "str", "list", "tuple", "dict"], (kitB t T).isSome = true) (hg : Gl X xi) (hm : X.mg xi = none) (hv : bootBuiltins xi = some (.builtin "isinstance"))
    (hgt : Gl X xt) (hmt : X.mg xt = none) (hvt : bootBuiltins xt = some (.type T)) (ha : DE X a ta) (hn : xi ≠ "__name__" := by decide) (hdb : (xi == ("__debug__" : Str)) = false := by decide) (hnt : xt ≠ "__name__" := by decide) (hdbt : (xt == ("__debug__" : Str)) = false := by decide)
    (he : starEach [a, .Name xt pt] X.env = (false, eval a X.env) :: starEach [.Name xt pt] X.env := by rfl) (hpl : (backTo pos (starEach [.Name xt pt] X.env)).any (·.1) = false := by rfl) (hs1 : starEach [.Name xt pt] X.env = (false, eval (.Name xt pt) X.env) :: starEach [] X.env := by rfl) :
    DE X (.Call (.Name xi p) [a, .Name xt pt] [] pos) (dIsi T ta) :=
  pe_imp (pe_callB call_isi hg hm hv (pa_cons ha (pa_cons (pe_bltn (v := .ty T) hgt hmt hvt rfl hnt hdbt) pa_nil hs1) he) hn hdb he hpl) fun σ H Q ⟨δ, μ, Qd, rs, rm, q, w⟩ =>
    up_use rs rm q fun x μ1 v H1 e1 m1 r1 q1 => by
      split at q1
      · next d =>
        exact ⟨v, .ty T, .type (kindOf d), .type T, _, rfl, .ty T, da_ty (Da.mono unhid r1), kit_all T hT d, w (.d (.bool _)) μ1 _ H1 e1 m1 (Da.bl _) q1⟩
      · exact q1.elim
end
end DL

namespace DL
open PySem PySem.Spec PyProof.Rows L2

mutual
def noList : PyData → Bool
  | .list _ => false
  | .tuple xs => noListAll xs
  | .dict kvs => noListKv kvs
  | _ => true
def noListAll : List PyData → Bool
  | [] => true
  | x :: xs => noList x && noListAll xs
def noListKv : List (PyData × PyData) → Bool
  | [] => true
  | (_, v) :: r => noList v && noListKv r
end
theorem noListKv_vals : ∀ (ks : List PyData) (ds : List PyData), ks.length = ds.length → noListKv (ks.zip ds) = true → noListAll ds = true
  | [], [], _, _ => by simp [noListAll]
  | k :: ks, d :: ds, hl, h => by
    simp only [List.zip_cons_cons, noListKv, Bool.and_eq_true] at h
    simp only [noListAll, Bool.and_eq_true]
    exact ⟨h.1, noListKv_vals ks ds (by simpa using hl) h.2⟩
  | [], _ :: _, hl, _ => by simp at hl
  | _ :: _, [], hl, _ => by simp at hl
theorem mix_keys {P : Program} {w : World} {k : Key} {v : Value} (h : (mixKind P w).is k v = true) : RelV (kV k) v := by
  rcases keyIs_shape h with ⟨i, t, rfl, rfl⟩ | ⟨x, t, rfl, rfl⟩
  · exact ⟨t, rfl⟩
  · exact ⟨t, rfl⟩
theorem reads_key {h : Heap} {k : Key} {v : Value} (r : RelV (kV k) v) : Reads h v (kD k) [] := by
  cases k with
  | inl i => obtain ⟨t, rfl⟩ := r; exact .int i t
  | inr x => obtain ⟨t, rfl⟩ := r; exact .str x t
theorem pairs_keys {P : Program} {w : World} {h : Heap} : ∀ {es : List DictEntry} {kvs : List (Key × Value)}, Pairs (mixKind P w) es kvs → ReadsAll h (es.map (·.key)) (kvs.map fun p => kD p.1) []
  | _, _, .nil => .nil
  | _, _, .cons a b t => ReadsAll.cons (as := []) (bs := []) (reads_key (mix_keys a)) (pairs_keys t)
theorem pairs_vals {P : Program} {w : World} : ∀ {es : List DictEntry} {kvs : List (Key × Value)}, Pairs (mixKind P w) es kvs → es.map (·.val) = kvs.map (·.2)
  | _, _, .nil => rfl
  | _, _, .cons a b t => by rw [List.map_cons, List.map_cons, b, pairs_vals t]
theorem kv_parts : ∀ {ks : List (Key × V)} {vs : List (Key × Value)}, KV ks vs → ks.map (·.1) = vs.map (·.1) ∧ Vals (ks.map (·.2)) (vs.map (·.2))
  | _, _, .nil => ⟨rfl, .nil⟩
  | _, _, .cons a t => by
    obtain ⟨h1, h2⟩ := kv_parts t
    exact ⟨by rw [List.map_cons, List.map_cons, h1, a.1], .cons a.2 h2⟩
section
variable {X : Cx} {pins : List (Addr × Obj)} {σ : L2.St} {H : Hp} {s : Shared}
mutual
theorem Da.reads (I : Inv X pins σ H s) : ∀ {v : V} {d : PyData}, Da X.K H v d → ∀ (u : Value), RelV v u → ∃ as, Reads s.heap u d as ∧ (noList d = true → sysModules ∉ as)
  | _, _, .non, _, r => by
    cases r
    exact ⟨_, .none, fun _ => by simp⟩
  | _, _, .bl b, _, r => by
    cases r
    exact ⟨_, .bool b, fun _ => by simp⟩
  | _, _, .int i, _, r => by
    obtain ⟨t, rfl⟩ := r
    exact ⟨_, .int i t, fun _ => by simp⟩
  | _, _, .str x, _, r => by
    obtain ⟨t, rfl⟩ := r
    exact ⟨_, .str x t, fun _ => by simp⟩
  | _, _, .lst hs ha, _, r => by
    cases r
    obtain ⟨its, rv, ⟨o, n, ho, hc, _, hd⟩, _⟩ := I.list hs
    obtain ⟨as, hr, _⟩ := DaAll.reads I ha its rv
    exact ⟨_, .list ho hc hd hr, fun z => by simp [noList] at z⟩
  | _, _, .tup hs ha, _, r => by
    cases r
    obtain ⟨its, rv, ⟨o, ho, hc, n, hd⟩, _⟩ := I.tuple hs
    obtain ⟨as, hr, hm⟩ := DaAll.reads I ha its rv
    exact ⟨_, .tuple ho hc hd hr, fun z => hm (by simpa only [noList] using z)⟩
  | _, _, .dct (a := a) (kvs := ks) (ds := ds) he ha, _, r => by
    cases r
    obtain ⟨_, hz, vs, rel, o, es, ep, ho, hx, hd, hko, hp, hnd⟩ := I.hok a _ he
    obtain ⟨e1, e2⟩ := kv_parts rel
    obtain ⟨as, hr, hm⟩ := DaAll.reads I ha (vs.map (·.2)) e2
    have lk : (ks.map fun p => kD p.1).length = ds.length := by rw [List.length_map, ← ha.length, List.length_map]
    have f1 : ((ks.map fun p => kD p.1).zip ds).map (·.1) = ks.map fun p => kD p.1 := by rw [List.map_fst_zip]; omega
    have f2 : ((ks.map fun p => kD p.1).zip ds).map (·.2) = ds := by rw [List.map_snd_zip]; omega
    have kk : (ks.map fun p => kD p.1) = vs.map fun p => kD p.1 := by
      have e := congrArg (List.map kD) e1
      simpa [List.map_map, Function.comp_def] using e
    refine ⟨a :: [] ++ as, .dict ho hx.1 hd (by rw [f1, kk]; exact pairs_keys hp) (by rw [f2, pairs_vals hp]; exact hr), fun z => ?_⟩
    have z2 := hm (noListKv_vals _ _ lk (by simpa only [noList] using z))
    intro hmem
    rcases List.mem_cons.mp hmem with e | e
    · rw [← e] at hz; simp at hz
    · exact z2 e
theorem DaAll.reads (I : Inv X pins σ H s) : ∀ {vs : List V} {ds : List PyData}, DaAll X.K H vs ds → ∀ (us : List Value), Vals vs us → ∃ as, ReadsAll s.heap us ds as ∧ (noListAll ds = true → sysModules ∉ as)
  | _, _, .nil, _, r => by
    cases r
    exact ⟨_, .nil, fun _ => by simp⟩
  | _, _, .cons h1 h2, _, r => by
    cases r with
    | cons r1 r2 =>
      obtain ⟨as, q1, m1⟩ := Da.reads I h1 _ r1
      obtain ⟨bs, q2, m2⟩ := DaAll.reads I h2 _ r2
      refine ⟨_, .cons q1 q2, fun z => ?_⟩
      simp only [noListAll, Bool.and_eq_true] at z
      intro hm
      rcases List.mem_append.mp hm with e | e
      · exact m1 z.1 e
      · exact m2 z.2 e
end

/-- what repr asks -/
structure Show (d : PyData) : Prop where
  sh : d.showable = true
  sz : d.shown.length ≤ sizeLine
  dp : d.depth ≤ 60
  mx : d.hasDict = true → noList d = true
def rdRepr : DRA := fun ds μ Q => match ds with
  | [.d d] => Show d ∧ Q (.d (.str d.shown)) μ
  | _ => False
def rRepr (K : PySem.W.Frag) : List V → Hp → VK → Prop := fun xs H Q => ∃ x d, xs = [x] ∧ Da K H x d ∧ Show d ∧ Q (.str d.shown) H
theorem call_repr (hg : X.A.guards = some []) (hu : X.A.units + 64 < cLine) : CallR X (.builtin "repr") (rRepr X.K) := by
  intro pins s σ H xs us Q I r h
  obtain ⟨x, d, rfl, hd, S, q⟩ := h
  obtain ⟨u, rfl, ru⟩ := vals1 r
  have Sd := S.dp
  cases hd with
  | non => cases ru; exact PySem.P.repr_of_none ⟨.str _, H, I.tok _, ⟨_, rfl⟩, q⟩
  | bl b => cases ru; exact PySem.P.repr_of_bool ⟨.str _, H, I.tok _, ⟨_, rfl⟩, by simpa only [PyData.shown] using q⟩
  | int i =>
    obtain ⟨t, rfl⟩ := ru
    exact PySem.P.repr_of_int (by have z := S.sh; simpa [PyData.showable] using z) ⟨.str _, H, I.tok _, ⟨_, rfl⟩, q⟩
  | str y =>
    obtain ⟨t, rfl⟩ := ru
    exact PySem.P.repr_of_str ⟨.str _, H, I.tok _, ⟨_, rfl⟩, q⟩ (by have z := S.sz; simpa only [PyData.shown] using z)
  | lst s t =>
    cases ru
    obtain ⟨as, hr, hm⟩ := Da.reads I (Da.lst s t) _ rfl
    exact repr_of_reads' hr S.sh (fun z => hm (S.mx z)) hg (by omega) (fun _ _ e => e) (fun h' u tk hk => ⟨.str _, H, I.kept hk, ⟨_, rfl⟩, q⟩) S.sz
  | tup s t =>
    cases ru
    obtain ⟨as, hr, hm⟩ := Da.reads I (Da.tup s t) _ rfl
    exact repr_of_reads' hr S.sh (fun z => hm (S.mx z)) hg (by omega) (fun _ _ e => e) (fun h' u tk hk => ⟨.str _, H, I.kept hk, ⟨_, rfl⟩, q⟩) S.sz
  | dct s t =>
    cases ru
    obtain ⟨as, hr, hm⟩ := Da.reads I (Da.dct s t) _ rfl
    exact repr_of_reads' hr S.sh (fun z => hm (S.mx z)) hg (by omega) (fun _ _ e => e) (fun h' u tk hk => ⟨.str _, H, I.kept hk, ⟨_, rfl⟩, q⟩) S.sz
theorem u_repr {K : PySem.W.Frag} : UpA K rdRepr (rRepr K) := fun ds μ Qd vs H Q m r q w => by
  unfold rdRepr at q
  split at q
  · next d =>
    cases r with
    | cons r t =>
      cases t
      exact ⟨_, d, rfl, Da.mono unhid r, q.1, w (.d (.str _)) μ _ H (.refl _ _) m (Da.str _) q.2⟩
  · exact q.elim
end
end DL

namespace DL
open PySem PySem.Spec PyProof.Rows L2

/-! ### statements -/
structure EndsOk (K : PySem.W.Frag) (μ : Mu) (H : Hp) (Dd : DEnds) (D : Ends) : Prop where
  nx : ∀ δ' μ' σ' H', Ext μ H μ' H' → RM K μ' H' → RS K μ' H' σ' δ' → Dd.nx δ' μ' → D.nx σ' H'
  rt : Wk K μ H Dd.rt D.rt
  bk : ∀ δ' μ' σ' H', Ext μ H μ' H' → RM K μ' H' → RS K μ' H' σ' δ' → Dd.bk δ' μ' → D.bk σ' H'
  ct : ∀ δ' μ' σ' H', Ext μ H μ' H' → RM K μ' H' → RS K μ' H' σ' δ' → Dd.ct δ' μ' → D.ct σ' H'
theorem EndsOk.step {K : PySem.W.Frag} {μ μ1 : Mu} {H H1 : Hp} {Dd : DEnds} {D : Ends} (h : EndsOk K μ H Dd D) (e : Ext μ H μ1 H1) : EndsOk K μ1 H1 Dd D :=
  ⟨fun δ' μ' σ' H' x => h.nx δ' μ' σ' H' (e.trans x), h.rt.step e, fun δ' μ' σ' H' x => h.bk δ' μ' σ' H' (e.trans x), fun δ' μ' σ' H' x => h.ct δ' μ' σ' H' (e.trans x)⟩
def upS (K : PySem.W.Frag) (t : DTS) : TS := fun D σ H => ∃ δ μ Dd, RS K μ H σ δ ∧ RM K μ H ∧ t Dd δ μ ∧ EndsOk K μ H Dd D
abbrev DS (X : Cx) (st : Stmt) (t : DTS) : Prop := PS X st (upS X.K t)
abbrev DSs (X : Cx) (st : List Stmt) (t : DTS) : Prop := PSs X st (upS X.K t)
def upG (K : PySem.W.Frag) (g : DTG) : TG := fun v σ H Q => ∃ δ μ d Qd, RS K μ H σ δ ∧ RM K μ H ∧ RV K μ H v d ∧ g d δ μ Qd ∧ ∀ δ' μ' σ' H', Ext μ H μ' H' → RM K μ' H' → RS K μ' H' σ' δ' → Qd δ' μ' → Q σ' H'
abbrev DG (X : Cx) (tg : Expr) (g : DTG) : Prop := PG X tg (upG X.K g)
theorem pg_imp {X : Cx} {e : Expr} {t t' : TG} (h : PG X e t) (w : ∀ v σ H Q, t' v σ H Q → t v σ H Q) : PG X e t' := ⟨fun pins s σ H v u Q I r q => h.run pins s σ H v u Q I r (w _ _ _ _ q)⟩
section
variable {X : Cx} {pos : Pos} {a b c e : Expr} {ta tb tc te : DT} {K : PySem.W.Frag} {st : Stmt} {rest : List Stmt} {t u : DTS}
def sNext : DTS := fun D δ μ => D.nx δ μ
def sSeq (t u : DTS) : DTS := fun D δ μ => t { D with nx := u D } δ μ
theorem s_nil : DSs X [] sNext := pss_imp pss_nil fun D σ H ⟨δ, μ, Dd, rs, rm, q, w⟩ => w.nx δ μ σ H (.refl _ _) rm rs q
theorem s_cons (h1 : DS X st t) (h2 : DSs X rest u) : DSs X (st :: rest) (sSeq t u) := pss_imp (pss_cons h1 h2) fun D σ H ⟨δ, μ, Dd, rs, rm, q, w⟩ =>
  ⟨δ, μ, _, rs, rm, q, ⟨fun δ' μ' σ' H' e m r z => ⟨δ', μ', Dd, r, m, z, w.step e⟩, w.rt, w.bk, w.ct⟩⟩
theorem s_one (h1 : DS X st t) : DSs X [st] t := pss_one h1
theorem s_pass : DS X (.Pass pos) sNext := ps_imp ps_pass fun D σ H ⟨δ, μ, Dd, rs, rm, q, w⟩ => w.nx δ μ σ H (.refl _ _) rm rs q
def sBreak : DTS := fun D δ μ => D.bk δ μ
def sCont : DTS := fun D δ μ => D.ct δ μ
theorem s_break : DS X (.Break pos) sBreak := ps_imp ps_break fun D σ H ⟨δ, μ, Dd, rs, rm, q, w⟩ => w.bk δ μ σ H (.refl _ _) rm rs q
theorem s_continue : DS X (.Continue pos) sCont := ps_imp ps_continue fun D σ H ⟨δ, μ, Dd, rs, rm, q, w⟩ => w.ct δ μ σ H (.refl _ _) rm rs q
def sRet (te : DT) : DTS := fun D δ μ => te δ μ D.rt
theorem s_ret (he : DE X e te) : DS X (.Return (some e) pos) (sRet te) := ps_imp (ps_ret he) fun D σ H ⟨δ, μ, Dd, rs, rm, q, w⟩ => up_use rs rm q w.rt
def sDrop (te : DT) : DTS := fun D δ μ => te δ μ fun _ μ1 => D.nx δ μ1
theorem s_expr (he : DE X e te) (hs : swapsWith e none pos.line X.env = pure false := by rfl) : DS X (.Expr e pos) (sDrop te) := ps_imp (ps_expr he hs) fun D σ H ⟨δ, μ, Dd, rs, rm, q, w⟩ =>
  up_use rs rm q fun x μ1 v H1 e1 m1 r1 q1 => w.nx δ μ1 σ H1 e1 m1 (rs.mono e1) q1
def sIf (c : DTT) (t u : DTS) : DTS := fun D δ μ => c δ μ fun b μ1 => if b = true then t D δ μ1 else u D δ μ1
theorem s_if {tC : DTT} {as bs : List Stmt} (hc : DC X c tC) (ha : DSs X as t) (hb : DSs X bs u) : DS X (.If c as bs pos) (sIf tC t u) := ps_imp (ps_if hc ha hb) fun D σ H ⟨δ, μ, Dd, rs, rm, q, w⟩ =>
  upT_use rs rm q fun k μ1 H1 e1 m1 q1 => by
    cases k with
    | true => rw [if_pos rfl] at q1 ⊢; exact ⟨δ, μ1, Dd, rs.mono e1, m1, q1, w.step e1⟩
    | false => rw [if_neg Bool.false_ne_true] at q1 ⊢; exact ⟨δ, μ1, Dd, rs.mono e1, m1, q1, w.step e1⟩
/-- a way that is never gone -/
def sNever : DTS := fun _ _ _ => False
theorem s_never : DS X st sNever := ps_imp ps_never fun _ _ _ ⟨_, _, _, _, _, q, _⟩ => q.elim
theorem ss_never {sts : List Stmt} : DSs X sts sNever := pss_imp pss_never fun _ _ _ ⟨_, _, _, _, _, q, _⟩ => q.elim

/-! ### targets -/
def gdName (i : Nat) : DTG := fun d δ μ Q => Q (δ.set i (some d)) μ
theorem g_name {i : Nat} {x : Str} (hN : X.N.Nodup) (hi : X.N[i]? = some x) (hx : Loc X.env.scope x) (hf : X.fn x = true ∨ X.env.scope.names.lookup x = some .local := by first | exact .inl rfl | exact .inr rfl | assumption) : DG X (.Name x pos) (gdName i) :=
  pg_imp (pg_name hN hi hx hf) fun v σ H Q ⟨δ, μ, d, Qd, rs, rm, r, q, w⟩ => w _ μ _ H (.refl _ _) rm (rs.set r i) q
/-- two, three names from a tuple (or a list) -/
def setAll : List Nat → List PyData → DSt → DSt
  | i :: is, d :: ds, δ => setAll is ds (δ.set i (some (.d d)))
  | _, _, δ => δ
def gdTup (is : List Nat) : DTG := fun d δ μ Q => match d with
  | .d (.tuple xs) => xs.length = is.length ∧ Q (setAll is xs δ) μ
  | _ => False
/-- the same over values -/
def gNames : List Nat → TGs
  | [] => gNil
  | i :: is => gCons (gName i) (gNames is)
theorem gNames_use : ∀ {is : List Nat} {vs : List V} {xs : List PyData} {μ : Mu} {H : Hp} {σ : L2.St} {δ : DSt} {Q : L2.St → Hp → Prop}, DaAll K (hid μ H) vs xs → xs.length = is.length → RS K μ H σ δ → (∀ σ', RS K μ H σ' (setAll is xs δ) → Q σ' H) → gNames is vs σ H Q
  | [], _, _, _, _, _, _, _, r, hl, rs, q => by
    cases r with
    | nil => exact ⟨rfl, q _ rs⟩
    | cons _ _ => simp at hl
  | i :: is, _, _, _, _, _, _, _, r, hl, rs, q => by
    cases r with
    | nil => simp at hl
    | @cons v vs d ds a t => exact ⟨v, vs, rfl, gNames_use t (by simpa using hl) (rs.set (d := .d d) a i) q⟩
theorem pgs_name2 {i : Nat} {is : List Nat} {x : Str} {es : List Expr} {p : Pos} (h1 : PG X (.Name x p) (gName i)) (h2 : PGs X es (gNames is))
    (hs : (assignEach (.Name x p :: es) X.env).map (·.2) = assign (.Name x p) X.env :: (assignEach es X.env).map (·.2) := by rfl) : PGs X (.Name x p :: es) (gNames (i :: is)) := pgs_cons h1 h2 hs
theorem g_tup {es : List Expr} {k : Nat} {is : List Nat} (hc : X.calm = true) (h : PGs X es (gNames is))
    (hn : (assignEach es X.env).length = is.length := by rfl) (hst : (assignEach es X.env).findIdx? (·.1) = none := by rfl) : DG X (.Tuple es k pos) (gdTup is) :=
  pg_imp (pg_tup hc h hn hst) fun v σ H Q ⟨δ, μ, d, Qd, rs, rm, r, q, w⟩ => by
    unfold gdTup at q
    split at q
    · next xs =>
      cases (show Da X.K (hid μ H) v (.tuple xs) from r) with
      | @tup a vs _ s t =>
        exact ⟨a, vs, rfl, same_seqT unhid s, by rw [t.length, q.1], gNames_use t q.1 rs fun σ' rs' => w _ μ σ' H (.refl _ _) rm rs' q.2⟩
    · exact q.elim
def sAsg (te : DT) (g : DTG) : DTS := fun D δ μ => te δ μ fun x μ1 => g x δ μ1 D.nx
theorem s_asg {tg : Expr} {g : DTG} (he : DE X e te) (hg : DG X tg g) (hs : swapsWithSole [tg] e pos.line X.env = pure false := by rfl) (hw : swappedStores [tg] e X.env = pure none := by rfl)
    (h1 : (assignEach [tg] X.env).map (·.2) = [assign tg X.env] := by rfl) : DS X (.Assign [tg] e pos) (sAsg te g) := ps_imp (ps_asg he hg hs hw h1) fun D σ H ⟨δ, μ, Dd, rs, rm, q, w⟩ =>
  up_use rs rm q fun x μ1 v H1 e1 m1 r1 q1 => ⟨δ, μ1, x, Dd.nx, rs.mono e1, m1, r1, q1, fun δ' μ' σ' H' e' m' r' z => w.nx δ' μ' σ' H' (e1.trans e') m' r' z⟩
theorem s_set {i : Nat} {x : Str} {pos' : Pos} (hN : X.N.Nodup) (hi : X.N[i]? = some x) (hx : Loc X.env.scope x) (he : DE X e te) (hs : swapsWith e (some (.Name x pos')) pos.line X.env = pure false := by rfl) (hf : X.fn x = true ∨ X.env.scope.names.lookup x = some .local := by first | exact .inl rfl | exact .inr rfl | assumption) :
    DS X (.Assign [.Name x pos'] e pos) (sAsg te (gdName i)) := ps_imp (ps_set hN hi hx he hs hf) fun D σ H ⟨δ, μ, Dd, rs, rm, q, w⟩ =>
  up_use rs rm q fun x μ1 v H1 e1 m1 r1 q1 => w.nx _ μ1 _ H1 e1 m1 ((rs.mono e1).set r1 i) q1
/-- a, b = x, y (two plain locals) -/
def sPar (i j : Nat) (ta : DTA) : DTS := fun D δ μ => ta δ μ fun ds μ1 => match ds with
  | [x, y] => D.nx ((δ.set i (some x)).set j (some y)) μ1
  | _ => False
theorem s_par {i j : Nat} {x y : Str} {tA : DTA} {px py pt : Pos} {kt k2 pt2} (hc : X.calm = true) (hN : X.N.Nodup) (hi : X.N[i]? = some x) (hj : X.N[j]? = some y) (hij : i ≠ j)
    (hx : X.env.scope.names.lookup x = some .local) (hy : X.env.scope.names.lookup y = some .local) (ha : DA X [a, b] tA)
    (hw : swappedStores [.Tuple [.Name x px, .Name y py] kt pt] (.Tuple [a, b] k2 pt2) X.env = pure (some [x, y]))
    (hs : swapsWithSole [.Tuple [.Name x px, .Name y py] kt pt] (.Tuple [a, b] k2 pt2) pos.line X.env = pure false := by rfl) :
    DS X (.Assign [.Tuple [.Name x px, .Name y py] kt pt] (.Tuple [a, b] k2 pt2) pos) (sPar i j tA) := ps_imp (ps_par hc hN hi hj hij hx hy ha hw hs) fun D σ H ⟨δ, μ, Dd, rs, rm, q, w⟩ =>
  upA_use rs rm q fun ds μ1 vs H1 e1 m1 r1 q1 => by
    split at q1
    · next x y =>
      cases r1 with
      | cons r t =>
        cases t with
        | cons r' t =>
          cases t
          exact ⟨_, _, rfl, w.nx _ μ1 _ H1 e1 m1 (((rs.mono e1).set r i).set r' j) q1⟩
    · exact q1.elim
/-- o[i] = e, o a cell that is a list -/
def rdSetL : DV → DV → DV → Mu → (Mu → Prop) → Prop := fun o i v μ Q => match o, i, v with
  | .cell p, .d (.int k), .d x => match μ p with
    | some (.lst xs) => match ixN xs.length k with
      | some j => Q (put μ p (.lst (xs.set j x)))
      | none => False
    | _ => False
  | _, _, _ => False
def gdSub (to ti : DT) (r : DV → DV → DV → Mu → (Mu → Prop) → Prop) : DTG := fun v δ μ Q => to δ μ fun o μ1 => ti δ μ1 fun i μ2 => r o i v μ2 fun μ3 => Q δ μ3
end
end DL

namespace DL
open PySem PySem.Spec PyProof.Rows L2
section
variable {X : Cx} {pos : Pos} {a b c e tg iter : Expr} {ta tb tc te : DT} {K : PySem.W.Frag}

/-! ### what is walked -/
abbrev DTI := DSt → Mu → (List PyData → Mu → Prop) → Prop
def Walk (K : PySem.W.Frag) (μ0 : Mu) (H0 : Hp) (J : It) (ds : List PyData) : Prop := ∀ i μ H, Ext μ0 H0 μ H → RM K μ H →
  (∀ d, ds[i]? = some d → J.go i H ∧ ∀ x H', J.yld i H x H' → Ext μ H μ H' ∧ RM K μ H' ∧ Da K (hid μ H') x d) ∧ (ds[i]? = none → J.stop i H)
def upI (K : PySem.W.Frag) (wi : DTI) : TI := fun σ H R => ∃ δ μ Qd, RS K μ H σ δ ∧ RM K μ H ∧ wi δ μ Qd ∧ ∀ ds μ' H' J, Ext μ H μ' H' → RM K μ' H' → Walk K μ' H' J ds → Qd ds μ' → R J H'
abbrev DI (X : Cx) (tg iter : Expr) (wi : DTI) : Prop := PI X tg iter (upI X.K wi)
theorem pi_imp {t t' : TI} (h : PI X tg iter t) (w : ∀ σ H R, t' σ H R → t σ H R) : PI X tg iter t' := ⟨fun pins s σ H R I q => h.run pins s σ H R I (w _ _ _ q)⟩
theorem walk_list {μ : Mu} {H : Hp} {p : Addr} {vs : List V} {ds : List PyData} (s : SqL K (hid μ H) p vs) (t : DaAll K (hid μ H) vs ds) : Walk K μ H (Itl K p) ds := fun i μ' H' e m => by
  have s' : SqL K H' p vs := unhid.seq (e.seq s)
  refine ⟨fun d hd => ?_, fun hd => ⟨vs, s', by rw [t.length]; exact List.getElem?_eq_none_iff.mp hd⟩⟩
  obtain ⟨v, h1, h2⟩ := t.get hd
  refine ⟨⟨vs, v, s', h1⟩, fun x H2 ⟨e1, e2⟩ => ?_⟩
  subst e1
  have e3 := e2 vs s'
  rw [h1] at e3
  cases e3
  exact ⟨.refl _ _, m, h2.mono e⟩
theorem walk_tup {μ : Mu} {H : Hp} {p : Addr} {vs : List V} {ds : List PyData} (s : SqT K (hid μ H) p vs) (t : DaAll K (hid μ H) vs ds) : Walk K μ H (Itt K p) ds := fun i μ' H' e m => by
  have s' : SqT K H' p vs := same_seqT unhid (same_seqT e s)
  refine ⟨fun d hd => ?_, fun hd => ⟨vs, s', by rw [t.length]; exact List.getElem?_eq_none_iff.mp hd⟩⟩
  obtain ⟨v, h1, h2⟩ := t.get hd
  refine ⟨⟨vs, v, s', h1⟩, fun x H2 ⟨e1, e2⟩ => ?_⟩
  subst e1
  have e3 := e2 vs s'
  rw [h1] at e3
  cases e3
  exact ⟨.refl _ _, m, h2.mono e⟩
def dwList (te : DT) : DTI := fun δ μ Q => te δ μ fun x μ1 => match x with
  | .d (.list xs) => Q xs μ1
  | _ => False
def dwTup (te : DT) : DTI := fun δ μ Q => te δ μ fun x μ1 => match x with
  | .d (.tuple xs) => Q xs μ1
  | _ => False
theorem i_list (h : DE X e te) : DI X tg e (dwList te) := pi_imp (pi_list h) fun σ H R ⟨δ, μ, Qd, rs, rm, q, w⟩ => up_use rs rm q fun x μ1 v H1 e1 m1 r1 q1 => by
  split at q1
  · next xs =>
    cases (show Da X.K (hid μ1 H1) v (.list xs) from r1) with
    | @lst p vs _ s t => exact ⟨p, rfl, ⟨vs, unhid.seq s⟩, w xs μ1 H1 _ e1 m1 (walk_list s t) q1⟩
  · exact q1.elim
theorem i_tup (h : DE X e te) : DI X tg e (dwTup te) := pi_imp (pi_tup h) fun σ H R ⟨δ, μ, Qd, rs, rm, q, w⟩ => up_use rs rm q fun x μ1 v H1 e1 m1 r1 q1 => by
  split at q1
  · next xs =>
    cases (show Da X.K (hid μ1 H1) v (.tuple xs) from r1) with
    | @tup p vs _ s t => exact ⟨p, rfl, ⟨vs, same_seqT unhid s⟩, w xs μ1 H1 _ e1 m1 (walk_tup s t) q1⟩
  · exact q1.elim
/-- lo, lo + 1, .. (n of them) -/
def rangeD (lo : Int) (n : Nat) : List PyData := (List.range n).map fun (i : Nat) => .int (lo + (i : Int))
end
end DL
namespace DL
open PySem PySem.Spec PyProof.Rows L2
theorem rangeD_get {lo : Int} {n i : Nat} : (rangeD lo n)[i]? = if i < n then some (.int (lo + (i : Int))) else none := by
  unfold rangeD
  by_cases h : i < n
  · rw [if_pos h]; simp [List.getElem?_map, h]
  · rw [if_neg h]; simp [List.getElem?_map, h]
section
variable {X : Cx} {pos : Pos} {a b c e tg iter : Expr} {ta tb tc te : DT} {K : PySem.W.Frag}
theorem walk_range {μ : Mu} {H : Hp} {lo : Int} {n : Nat} : Walk K μ H (Itr lo n) (rangeD lo n) := fun i μ' H' e m => by
  rw [rangeD_get]
  by_cases h : i < n
  · rw [if_pos h]
    refine ⟨fun d hd => ⟨h, fun x H2 ⟨e1, e2⟩ => ?_⟩, fun z => by cases z⟩
    cases hd
    subst e1; subst e2
    exact ⟨.refl _ _, m, .int _⟩
  · rw [if_neg h]
    exact ⟨fun d hd => (by cases hd), fun _ => Nat.le_of_not_lt h⟩
def dwRange1 (ta : DTA) : DTI := fun δ μ Q => ta δ μ fun ds μ1 => match ds with
  | [.d (.int j)] => (-(2 ^ 62) ≤ j ∧ j < 2 ^ 62) ∧ Q (rangeD 0 j.toNat) μ1
  | _ => False
def dwRange2 (ta : DTA) : DTI := fun δ μ Q => ta δ μ fun ds μ1 => match ds with
  | [.d (.int i), .d (.int j)] => (-(2 ^ 62) ≤ i ∧ i < 2 ^ 62 ∧ -(2 ^ 62) ≤ j ∧ j < 2 ^ 62) ∧ Q (rangeD i (j - i).toNat) μ1
  | _ => False
theorem i_range1 {tA : DTA} {p : Pos} (hg : Gl X "range") (hm : X.mg "range" = none) (ha : DA X [a] tA) (hs : starEach [a] X.env = [(false, eval a X.env)] := by rfl) : DI X tg (.Call (.Name "range" p) [a] [] pos) (dwRange1 tA) :=
  pi_imp (pi_range1 hg hm ha hs) fun σ H R ⟨δ, μ, Qd, rs, rm, q, w⟩ => upA_use rs rm q fun ds μ1 vs H1 e1 m1 r1 q1 => by
    split at q1
    · next j =>
      cases r1 with
      | cons r t => cases t; cases r; exact ⟨j, rfl, q1.1.1, q1.1.2, w _ μ1 H1 _ e1 m1 walk_range q1.2⟩
    · exact q1.elim
theorem i_range2 {tA : DTA} {p : Pos} (hg : Gl X "range") (hm : X.mg "range" = none) (ha : DA X [a, b] tA) (hs : starEach [a, b] X.env = [(false, eval a X.env), (false, eval b X.env)] := by rfl) (hs2 : starEach [b] X.env = [(false, eval b X.env)] := by rfl) : DI X tg (.Call (.Name "range" p) [a, b] [] pos) (dwRange2 tA) :=
  pi_imp (pi_range2 hg hm ha hs hs2) fun σ H R ⟨δ, μ, Qd, rs, rm, q, w⟩ => upA_use rs rm q fun ds μ1 vs H1 e1 m1 r1 q1 => by
    split at q1
    · next i j =>
      cases r1 with
      | cons r t =>
        cases t with
        | cons r' t => cases t; cases r; cases r'; exact ⟨i, j, rfl, q1.1, w _ μ1 H1 _ e1 m1 walk_range q1.2⟩
    · exact q1.elim
/-- enumerate -/
def enumD : Nat → List PyData → List PyData
  | _, [] => []
  | n, x :: xs => .tuple [.int n, x] :: enumD (n + 1) xs
theorem enumD_get : ∀ (n : Nat) (xs : List PyData) (i : Nat), (enumD n xs)[i]? = (xs[i]?).map fun x => .tuple [.int ((n + i : Nat) : Int), x]
  | _, [], _ => by simp [enumD]
  | n, x :: xs, 0 => by simp [enumD]
  | n, x :: xs, i + 1 => by
    rw [enumD, List.getElem?_cons_succ, List.getElem?_cons_succ, enumD_get (n + 1) xs i]
    have e : n + 1 + i = n + (i + 1) := by omega
    rw [e]
theorem walk_enum {μ : Mu} {H : Hp} {p : Addr} {vs : List V} {ds : List PyData} (s : SqL K (hid μ H) p vs) (t : DaAll K (hid μ H) vs ds) : Walk K μ H (Ite K p) (enumD 0 ds) := fun i μ' H' e m => by
  have s' : SqL K H' p vs := unhid.seq (e.seq s)
  rw [enumD_get]
  refine ⟨fun d hd => ?_, fun hd => ⟨vs, s', ?_⟩⟩
  · rw [Option.map_eq_some_iff] at hd
    obtain ⟨y, hy, rfl⟩ := hd
    obtain ⟨v, h1, h2⟩ := t.get hy
    refine ⟨⟨vs, v, s', h1⟩, ?_⟩
    rintro x H2 ⟨T, x', rfl, hT, rfl, e2⟩
    have e3 := e2 vs s'
    rw [h1] at e3
    cases e3
    refine ⟨ext_new hT, m.new hT, .tup (.of (hid_new m hT)) (.cons ?_ (.cons ((h2.mono e).mono (ext_new hT)) .nil))⟩
    rw [Nat.zero_add]
    exact .int _
  · rw [t.length]
    rw [Option.map_eq_none_iff] at hd
    exact List.getElem?_eq_none_iff.mp hd
def dwEnum (ta : DTA) : DTI := fun δ μ Q => ta δ μ fun ds μ1 => match ds with
  | [.d (.list xs)] => Q (enumD 0 xs) μ1
  | _ => False
theorem i_enum {tA : DTA} {p tpos : Pos} {elts : List Expr} {kk : Nat} (hg : Gl X "enumerate") (hm : X.mg "enumerate" = none) (ha : DA X [e] tA) (hs : starEach [e] X.env = [(false, eval e X.env)] := by rfl) : DI X (.Tuple elts kk tpos) (.Call (.Name "enumerate" p) [e] [] pos) (dwEnum tA) :=
  pi_imp (pi_enum hg hm ha hs) fun σ H R ⟨δ, μ, Qd, rs, rm, q, w⟩ => upA_use rs rm q fun ds μ1 vs H1 e1 m1 r1 q1 => by
    split at q1
    · next xs =>
      cases r1 with
      | cons r t =>
        cases t
        cases (show Da X.K (hid μ1 H1) _ (.list xs) from r) with
        | @lst p vs _ s t => exact ⟨p, vs, rfl, unhid.seq s, w _ μ1 H1 _ e1 m1 (walk_enum s t) q1⟩
    · exact q1.elim
/-- zip -/
def zipD : List PyData → List PyData → List PyData
  | x :: xs, y :: ys => .tuple [x, y] :: zipD xs ys
  | _, _ => []
theorem zipD_get : ∀ (xs ys : List PyData) (i : Nat) (d : PyData), (zipD xs ys)[i]? = some d → ∃ x y, xs[i]? = some x ∧ ys[i]? = some y ∧ d = .tuple [x, y]
  | x :: xs, y :: ys, 0, d, h => by
    rw [zipD, List.getElem?_cons_zero] at h
    cases h
    exact ⟨x, y, rfl, rfl, rfl⟩
  | x :: xs, y :: ys, i + 1, d, h => by
    rw [zipD, List.getElem?_cons_succ] at h
    simpa using zipD_get xs ys i d h
  | [], _, _, _, h => by simp [zipD] at h
  | _ :: _, [], _, _, h => by simp [zipD] at h
theorem zipD_none : ∀ (xs ys : List PyData) (i : Nat), (zipD xs ys)[i]? = none → xs.length ≤ i ∨ ys.length ≤ i
  | x :: xs, y :: ys, 0, h => by simp [zipD] at h
  | x :: xs, y :: ys, i + 1, h => by
    rw [zipD, List.getElem?_cons_succ] at h
    rcases zipD_none xs ys i h with q | q
    · exact .inl (by simpa using q)
    · exact .inr (by simpa using q)
  | [], _, _, _ => .inl (Nat.zero_le _)
  | _ :: _, [], _, _ => .inr (Nat.zero_le _)
theorem walk_zip {μ : Mu} {H : Hp} {p r : Addr} {vs ws : List V} {ds es : List PyData} (s : SqL K (hid μ H) p vs) (t : DaAll K (hid μ H) vs ds) (s2 : SqL K (hid μ H) r ws) (t2 : DaAll K (hid μ H) ws es) : Walk K μ H (Itz K p r) (zipD ds es) := fun i μ' H' e m => by
  have s' : SqL K H' p vs := unhid.seq (e.seq s)
  have s2' : SqL K H' r ws := unhid.seq (e.seq s2)
  refine ⟨fun d hd => ?_, fun hd => ⟨vs, ws, s', s2', ?_⟩⟩
  · obtain ⟨x, y, hx, hy, rfl⟩ := zipD_get _ _ _ _ hd
    obtain ⟨v, h1, h2⟩ := t.get hx
    obtain ⟨u, h3, h4⟩ := t2.get hy
    refine ⟨⟨vs, ws, v, u, s', s2', h1, h3⟩, ?_⟩
    rintro z H2 ⟨T, x', y', rfl, hT, rfl, e2, e3⟩
    have e4 := e2 vs s'
    have e5 := e3 ws s2'
    rw [h1] at e4
    rw [h3] at e5
    cases e4; cases e5
    exact ⟨ext_new hT, m.new hT, .tup (.of (hid_new m hT)) (.cons ((h2.mono e).mono (ext_new hT)) (.cons ((h4.mono e).mono (ext_new hT)) .nil))⟩
  · rw [t.length, t2.length]
    exact zipD_none _ _ _ hd
def dwZip (ta : DTA) : DTI := fun δ μ Q => ta δ μ fun ds μ1 => match ds with
  | [.d (.list xs), .d (.list ys)] => Q (zipD xs ys) μ1
  | _ => False
theorem i_zip {tA : DTA} {p tpos : Pos} {elts : List Expr} {kk : Nat} (hg : Gl X "zip") (hm : X.mg "zip" = none) (ha : DA X [a, b] tA) (hs : starEach [a, b] X.env = (false, eval a X.env) :: starEach [b] X.env := by rfl) (hpl : (backTo pos (starEach [b] X.env)).any (·.1) = false := by rfl) :
    DI X (.Tuple elts kk tpos) (.Call (.Name "zip" p) [a, b] [] pos) (dwZip tA) :=
  pi_imp (pi_zip hg hm ha hs hpl) fun σ H R ⟨δ, μ, Qd, rs, rm, q, w⟩ => upA_use rs rm q fun ds μ1 vs H1 e1 m1 r1 q1 => by
    split at q1
    · next xs ys =>
      cases r1 with
      | cons r t =>
        cases t with
        | cons r' t =>
          cases t
          cases (show Da X.K (hid μ1 H1) _ (.list xs) from r) with
          | @lst p vs _ s t =>
            cases (show Da X.K (hid μ1 H1) _ (.list ys) from r') with
            | @lst p' vs' _ s' t' => exact ⟨p, p', vs, vs', rfl, unhid.seq s, unhid.seq s', w _ μ1 H1 _ e1 m1 (walk_zip s t s' t') q1⟩
    · exact q1.elim
end
end DL

namespace DL
open PySem PySem.Spec PyProof.Rows L2

/-! ### wiped slots -/
def wipeD (δ : DSt) : List Nat → DSt
  | [] => δ
  | v :: vs => (wipeD δ vs).set v none
theorem wipe_get (σ : L2.St) : ∀ (vs : List Nat) (k : Nat), (wipe σ vs)[k]? = if k ∈ vs ∧ k < σ.length then some none else σ[k]?
  | [], k => by simp [wipe]
  | v :: vs, k => by
    unfold wipe
    by_cases hk : v = k
    · subst hk
      by_cases hl : v < σ.length
      · rw [List.getElem?_set_self (by rw [wipe_length]; exact hl), if_pos ⟨List.mem_cons_self, hl⟩]
      · rw [List.getElem?_eq_none (by rw [List.length_set, wipe_length]; omega), if_neg (fun z => hl z.2), List.getElem?_eq_none (by omega)]
    · rw [List.getElem?_set_ne hk, wipe_get σ vs k]
      have e : (k ∈ v :: vs ∧ k < σ.length) ↔ (k ∈ vs ∧ k < σ.length) := by
        simp only [List.mem_cons]
        exact ⟨fun z => ⟨z.1.resolve_left fun q => hk q.symm, z.2⟩, fun z => ⟨.inr z.1, z.2⟩⟩
      by_cases h : k ∈ vs ∧ k < σ.length
      · rw [if_pos h, if_pos (e.mpr h)]
      · rw [if_neg h, if_neg (fun z => h (e.mp z))]
theorem wipeD_length (δ : DSt) : ∀ vs : List Nat, (wipeD δ vs).length = δ.length
  | [] => rfl
  | v :: vs => by unfold wipeD; rw [List.length_set, wipeD_length δ vs]
theorem wipeD_some {δ : DSt} {i : Nat} {x : DV} : ∀ {vs : List Nat}, (wipeD δ vs)[i]? = some (some x) → δ[i]? = some (some x) ∧ i ∉ vs
  | [], h => ⟨h, by simp⟩
  | v :: vs, h => by
    unfold wipeD at h
    by_cases hi : v = i
    · subst hi
      by_cases hv : v < (wipeD δ vs).length
      · rw [List.getElem?_set_self hv] at h; cases h
      · rw [List.getElem?_eq_none (by simpa using hv)] at h; cases h
    · rw [List.getElem?_set_ne hi] at h
      obtain ⟨h1, h2⟩ := wipeD_some h
      exact ⟨h1, by simp only [List.mem_cons, not_or]; exact ⟨fun e => hi e.symm, h2⟩⟩
theorem RS.wipe {K : PySem.W.Frag} {μ : Mu} {H : Hp} {σ : L2.St} {δ : DSt} (h : RS K μ H σ δ) (vs : List Nat) : RS K μ H (wipe σ vs) (wipeD δ vs) :=
  h.weak (by rw [wipe_length, wipeD_length]; exact h.1) fun i d e => by
    obtain ⟨h1, h2⟩ := wipeD_some e
    exact ⟨h1, wipe_out h2⟩
theorem wipe_set {σ : L2.St} {i : Nat} {x : Option V} {vs : List Nat} (h : i ∈ vs) : wipe (σ.set i x) vs = wipe σ vs := by
  apply List.ext_getElem?
  intro k
  rw [wipe_get, wipe_get, List.length_set]
  by_cases hk : k ∈ vs ∧ k < σ.length
  · rw [if_pos hk, if_pos hk]
  · rw [if_neg hk, if_neg hk]
    by_cases e : i = k
    · subst e
      have : ¬ i < σ.length := fun z => hk ⟨h, z⟩
      rw [List.getElem?_eq_none (by rw [List.length_set]; omega), List.getElem?_eq_none (by omega)]
    · rw [List.getElem?_set_ne e]
theorem wipe_wipe {σ : L2.St} {vs : List Nat} : wipe (wipe σ vs) vs = wipe σ vs := by
  apply List.ext_getElem?
  intro k
  rw [wipe_get, wipe_length]
  by_cases hk : k ∈ vs ∧ k < σ.length
  · rw [if_pos hk, wipe_get, if_pos hk]
  · rw [if_neg hk]

/-- a comprehension's target -/
structure CompG (K : PySem.W.Frag) (vs : List Nat) (g : TG) (gd : DTG) : Prop where
  use : ∀ {v : V} {d : DV} {σ : L2.St} {δ : DSt} {μ : Mu} {H : Hp} {Qd : DSt → Mu → Prop} {Q : L2.St → Hp → Prop}, RS K μ H (wipe σ vs) (wipeD δ vs) → RM K μ H → RV K μ H v d → gd d (wipeD δ vs) μ Qd →
    (∀ σ2 δ2, RS K μ H σ2 δ2 → wipe σ2 vs = wipe σ vs → Qd δ2 μ → Q σ2 H) → g v (wipe σ vs) H Q
theorem compG_name {K : PySem.W.Frag} {vs : List Nat} {i : Nat} (h : i ∈ vs) : CompG K vs (gName i) (gdName i) := ⟨fun {v d σ δ μ H Qd Q} rs rm r q w => w _ _ (rs.set r i) (by rw [wipe_set h, wipe_wipe]) q⟩
theorem gNames_use2 {vs' : List Nat} : ∀ {is : List Nat} {vs : List V} {xs : List PyData} {K : PySem.W.Frag} {μ : Mu} {H : Hp} {σ : L2.St} {δ : DSt} {Q : L2.St → Hp → Prop}, (∀ i ∈ is, i ∈ vs') → DaAll K (hid μ H) vs xs → xs.length = is.length → RS K μ H σ δ →
    (∀ σ', RS K μ H σ' (setAll is xs δ) → wipe σ' vs' = wipe σ vs' → Q σ' H) → gNames is vs σ H Q
  | [], _, _, _, _, _, _, _, _, _, r, hl, rs, q => by
    cases r with
    | nil => exact ⟨rfl, q _ rs rfl⟩
    | cons _ _ => simp at hl
  | i :: is, _, _, _, _, _, _, _, _, hi, r, hl, rs, q => by
    cases r with
    | nil => simp at hl
    | @cons v vs d ds a t =>
      exact ⟨v, vs, rfl, gNames_use2 (vs' := vs') (fun j hj => hi j (List.mem_cons_of_mem _ hj)) t (by simpa using hl) (rs.set (d := .d d) a i) fun σ' rs' e => q σ' rs' (by rw [e, wipe_set (hi i List.mem_cons_self)])⟩
theorem compG_tup {K : PySem.W.Frag} {vs is : List Nat} (h : ∀ i ∈ is, i ∈ vs) : CompG K vs (gTup K is.length (gNames is)) (gdTup is) := ⟨fun {v d σ δ μ H Qd Q} rs rm r q w => by
  unfold gdTup at q
  split at q
  · next xs =>
    cases (show Da K (hid μ H) v (.tuple xs) from r) with
    | @tup a us _ s t => exact ⟨a, us, rfl, same_seqT unhid s, by rw [t.length, q.1], gNames_use2 h t q.1 rs fun σ' rs' e => w σ' _ rs' (by rw [e, wipe_wipe]) q.2⟩
  · exact q.elim⟩

/-! ### comprehensions -/
section
variable {X : Cx} {pos : Pos} {elt tg iter : Expr} {ifs : List Expr} {scope : Scope} {own : List (Str × Nat)} {wi : DTI} {g : TG} {gd : DTG} {tt : DTT} {te : DT}
def lcGo (gd : DTG) (tt : DTT) (te : DT) (δw : DSt) (D : Addr) (fin : List PyData → Mu → Prop) : List PyData → List PyData → Mu → Prop
  | [], acc, μ => fin acc μ
  | d :: ds, acc, μ => gd (.d d) δw μ fun δ2 μ2 => tt δ2 μ2 fun b μ3 => if b = true then te δ2 μ3 fun y μ4 => match y with
      | .d x => μ4 D = some (.lst acc) ∧ acc.length < 1000000 ∧ lcGo gd tt te δw D fin ds (acc ++ [x]) (put μ4 D (.lst (acc ++ [x])))
      | .cell _ => False
    else μ3 D = some (.lst acc) ∧ lcGo gd tt te δw D fin ds acc μ3
/-- the list is data -/
def dLc (wi : DTI) (gd : DTG) (tt : DTT) (te : DT) (vs : List Nat) : DT := fun δ μ Q => wi δ μ fun ds μ1 => ∀ D, μ1 D = none → lcGo gd tt te (wipeD δ vs) D (fun acc μ' => Q (.d (.list acc)) (del μ' D)) ds [] (put μ1 D (.lst []))
/-- the list will be changed -/
def dLcC (wi : DTI) (gd : DTG) (tt : DTT) (te : DT) (vs : List Nat) : DT := fun δ μ Q => wi δ μ fun ds μ1 => ∀ D, μ1 D = none → lcGo gd tt te (wipeD δ vs) D (fun acc μ' => Q (.cell D) μ') ds [] (put μ1 D (.lst []))
def dYes : DTT := fun _ μ Q => Q true μ
abbrev DTs (X : Cx) (ifs : List Expr) (t : DTT) : Prop := PTs X ifs (upT X.K t)
theorem t_nil : DTs X [] dYes := ⟨fun pins s σ H Q I ⟨δ, μ, Qd, rs, rm, q, w⟩ => (pts_nil (X := X)).run pins s σ H Q I (w true μ H (.refl _ _) rm q)⟩
theorem t_one {c : Expr} {t : DTT} (h : DC X c t) : DTs X [c] t := pts_one h
theorem lc_up {K : PySem.W.Frag} (G : CompG K (own.map (·.2)) g gd) {fin : List PyData → Mu → Prop} {δ : DSt} {μ : Mu} {H : Hp} {σ : L2.St} {Q : VK} {J : It} {ds : List PyData} {D : Addr} (rs : RS K μ H σ δ) (rm : RM K μ H) (wk : Walk K μ H J ds) (hD : H D = none)
    (h : lcGo gd tt te (wipeD δ (own.map (·.2))) D fin ds [] (put μ D (.lst [])))
    (hf : ∀ acc μ' H', Ext μ H μ' H' → RM K μ' H' → μ' D = some (.lst acc) → fin acc μ' → Q (.ref D) H') :
    ∃ W : Nat → Nat → Hp → Prop, (∃ m, W 0 m (upd H D (.lst []))) ∧ ∀ i m H, W i m H → (J.stop i H ∧ Q (.ref D) H) ∨ (J.go i H ∧ ∃ Nx : Hp → Prop, (∀ H', Nx H' → ∃ m', m' < m ∧ W (i + 1) m' H') ∧ ∀ x H', J.yld i H x H' → g x (wipe σ (own.map (·.2))) H' fun σ2 H2 => wipe σ2 (own.map (·.2)) = wipe σ (own.map (·.2)) ∧ upT K tt σ2 H2 fun b H3 =>
      if b = true then up K te σ2 H3 fun y H4 => ∃ acc, H4 D = some (.lst acc) ∧ acc.length < sizeLine ∧ Nx (upd H4 D (.lst (acc ++ [y]))) else Nx H3) := by
  refine ⟨fun i m H1 => ∃ μ1 acc, i ≤ ds.length ∧ m = ds.length - i ∧ Ext μ H μ1 H1 ∧ RM K μ1 H1 ∧ μ1 D = some (.lst acc) ∧ lcGo gd tt te (wipeD δ (own.map (·.2))) D fin (ds.drop i) acc μ1,
    ⟨ds.length, put μ D (.lst []), [], Nat.zero_le _, by omega, ext_cell hD, rm.cell hD ⟨[], upd_same, .nil⟩, put_same, by simpa using h⟩, ?_⟩
  rintro i m H1 ⟨μ1, acc, hi, rfl, e1, m1, hD1, h1⟩
  have wk1 := wk i μ1 H1 e1 m1
  cases hd : ds[i]? with
  | none =>
    have hle : ds.length ≤ i := List.getElem?_eq_none_iff.mp hd
    rw [List.drop_eq_nil_of_le hle] at h1
    exact .inl ⟨wk1.2 hd, hf acc μ1 H1 e1 m1 hD1 h1⟩
  | some d =>
    have hlt : i < ds.length := (List.getElem?_eq_some_iff.mp hd).1
    have hdr : ds.drop i = d :: ds.drop (i + 1) := by
      rw [List.drop_eq_getElem_cons hlt]
      congr 1
      exact (List.getElem?_eq_some_iff.mp hd).2
    rw [hdr] at h1
    obtain ⟨go, yl⟩ := wk1.1 d hd
    refine .inr ⟨go, fun H' => ∃ μ' acc', Ext μ H μ' H' ∧ RM K μ' H' ∧ μ' D = some (.lst acc') ∧ lcGo gd tt te (wipeD δ (own.map (·.2))) D fin (ds.drop (i + 1)) acc' μ', fun H' ⟨μ', acc', x1, x2, x3, x4⟩ => ⟨ds.length - (i + 1), by omega, μ', acc', by omega, rfl, x1, x2, x3, x4⟩, fun x H2 hy => ?_⟩
    obtain ⟨e2, m2, r2⟩ := yl x H2 hy
    have e12 := e1.trans e2
    have rs2 : RS K μ1 H2 (wipe σ (own.map (·.2))) (wipeD δ (own.map (·.2))) := (rs.mono e12).wipe _
    refine G.use (d := .d d) rs2 m2 r2 h1 fun σ2 δ2 rs3 hw h3 => ⟨hw, ?_⟩
    refine upT_use rs3 m2 h3 fun b μ3 H3 e3 m3 h4 => ?_
    cases b with
    | false =>
      rw [if_neg Bool.false_ne_true] at h4 ⊢
      exact ⟨μ3, acc, e12.trans e3, m3, h4.1, h4.2⟩
    | true =>
      rw [if_pos rfl] at h4 ⊢
      refine up_use (rs3.mono e3) m3 h4 fun y μ4 v H4 e4 m4 r4 h5 => ?_
      split at h5
      · next z =>
        obtain ⟨h6, h7, h8⟩ := h5
        obtain ⟨vs, g1, g2⟩ := m4 D _ h6
        refine ⟨vs, g1, by rw [g2.length]; exact Nat.lt_of_lt_of_le h7 (by decide), put μ4 D (.lst (acc ++ [z])), acc ++ [z], (e12.trans (e3.trans e4)).trans (ext_write h6), m4.write h6 ⟨_, upd_same, ?_⟩, put_same, h8⟩
        exact (g2.append (.cons r4 .nil)).mono (ext_write h6)
      · exact h5.elim
theorem d_lc (hc : X.calm = true) (hN : X.N.Nodup) (hi : DI X tg iter wi) (ok : BlkOk X.N X.env.scope scope own) (G : CompG X.K (own.map (·.2)) g gd)
    (hg : ∀ (s : Shared) (H : Hp) (C : Addr) (cl : List (Str × Addr)) (fp : List Addr), PG (X.blk s H scope (compEnvC scope cl C X.env) fp) tg g)
    (ht : ∀ (s : Shared) (H : Hp) (C : Addr) (cl : List (Str × Addr)) (fp : List Addr), DTs (X.blk s H scope (compEnvC scope cl C X.env) fp) ifs tt)
    (he : ∀ (s : Shared) (H : Hp) (C : Addr) (cl : List (Str × Addr)) (fp : List Addr), DE (X.blk s H scope (compEnvC scope cl C X.env) fp) elt te)
    (hs : ∀ (x : Value), foldedSetIterable iter X.env x = pure x := by intro _; rfl) : DE X (.ListComp elt [⟨tg, iter, ifs, 0⟩] scope pos) (dLc wi gd tt te (own.map (·.2))) :=
  pe_imp (pe_lc hc hN hi ok hg ht he hs) fun σ H Q ⟨δ, μ, Qd, rs, rm, q, w⟩ => ⟨δ, μ, _, rs, rm, q, fun ds μ1 H1 J e1 m1 wk q1 D hD => by
    refine lc_up (fin := fun acc μ' => Qd (.d (.list acc)) (del μ' D)) G (rs.mono e1) m1 wk hD (q1 D (m1.free hD)) fun acc μ' H' e2 m2 hd qq => ?_
    exact w (.d (.list acc)) (del μ' D) _ H' (e1.trans (e2.trans ext_freeze)) m2.freeze (freeze_lst m2 hd) qq⟩
theorem d_lcC (hc : X.calm = true) (hN : X.N.Nodup) (hi : DI X tg iter wi) (ok : BlkOk X.N X.env.scope scope own) (G : CompG X.K (own.map (·.2)) g gd)
    (hg : ∀ (s : Shared) (H : Hp) (C : Addr) (cl : List (Str × Addr)) (fp : List Addr), PG (X.blk s H scope (compEnvC scope cl C X.env) fp) tg g)
    (ht : ∀ (s : Shared) (H : Hp) (C : Addr) (cl : List (Str × Addr)) (fp : List Addr), DTs (X.blk s H scope (compEnvC scope cl C X.env) fp) ifs tt)
    (he : ∀ (s : Shared) (H : Hp) (C : Addr) (cl : List (Str × Addr)) (fp : List Addr), DE (X.blk s H scope (compEnvC scope cl C X.env) fp) elt te)
    (hs : ∀ (x : Value), foldedSetIterable iter X.env x = pure x := by intro _; rfl) : DE X (.ListComp elt [⟨tg, iter, ifs, 0⟩] scope pos) (dLcC wi gd tt te (own.map (·.2))) :=
  pe_imp (pe_lc hc hN hi ok hg ht he hs) fun σ H Q ⟨δ, μ, Qd, rs, rm, q, w⟩ => ⟨δ, μ, _, rs, rm, q, fun ds μ1 H1 J e1 m1 wk q1 D hD => by
    refine lc_up (fin := fun acc μ' => Qd (.cell D) μ') G (rs.mono e1) m1 wk hD (q1 D (m1.free hD)) fun acc μ' H' e2 m2 hd qq => ?_
    exact w (.cell D) μ' _ H' (e1.trans e2) m2 rfl qq⟩
/-- y = [..] -/
theorem s_setLc {i : Nat} {y : Str} {py spos : Pos} (hc : X.calm = true) (hN : X.N.Nodup) (hy : X.N[i]? = some y) (hyl : X.env.scope.names.lookup y = some .local) (hsw : swapsWith (.ListComp elt [⟨tg, iter, ifs, 0⟩] scope pos) (some (.Name y py)) spos.line X.env = pure true)
    (hi : DI X tg iter wi) (ok : BlkOk X.N X.env.scope scope own) (G : CompG X.K (own.map (·.2)) g gd)
    (hg : ∀ (s : Shared) (H : Hp) (C : Addr) (cl : List (Str × Addr)) (fp : List Addr), PG (X.blk s H scope (compEnvC scope cl C X.env) fp) tg g)
    (ht : ∀ (s : Shared) (H : Hp) (C : Addr) (cl : List (Str × Addr)) (fp : List Addr), DTs (X.blk s H scope (compEnvC scope cl C X.env) fp) ifs tt)
    (he : ∀ (s : Shared) (H : Hp) (C : Addr) (cl : List (Str × Addr)) (fp : List Addr), DE (X.blk s H scope (compEnvC scope cl C X.env) fp) elt te)
    (hs : ∀ (x : Value), foldedSetIterable iter X.env x = pure x := by intro _; rfl) : DS X (.Assign [.Name y py] (.ListComp elt [⟨tg, iter, ifs, 0⟩] scope pos) spos) (sAsg (dLc wi gd tt te (own.map (·.2))) (gdName i)) :=
  ps_imp (ps_setLc hc hN hy hyl hsw hi ok hg ht he hs) fun D' σ H ⟨δ, μ, Dd, rs, rm, q, w⟩ => ⟨δ, μ, _, rs, rm, q, fun ds μ1 H1 J e1 m1 wk q1 D hD => by
    refine lc_up (fin := fun acc μ' => Dd.nx (δ.set i (some (.d (.list acc)))) (del μ' D)) (Q := fun v H' => D'.nx (σ.set i (some v)) H') G (rs.mono e1) m1 wk hD (q1 D (m1.free hD)) fun acc μ' H' e2 m2 hd qq => ?_
    have e3 := e1.trans (e2.trans (ext_freeze (p := D)))
    exact w.nx _ (del μ' D) _ H' e3 m2.freeze ((rs.mono e3).set (d := .d (.list acc)) (freeze_lst m2 hd) i) qq⟩

/-! ### for -/
def forGo (gd : DTG) (tb : DTS) (D : DEnds) : List PyData → DSt → Mu → Prop
  | [], δ, μ => D.nx δ μ
  | d :: ds, δ, μ => gd (.d d) δ μ fun δ2 μ2 => tb { D with nx := forGo gd tb D ds, ct := forGo gd tb D ds, bk := D.nx } δ2 μ2
def sFor (wi : DTI) (gd : DTG) (tb : DTS) : DTS := fun D δ μ => wi δ μ fun ds μ1 => forGo gd tb D ds δ μ1
variable {body : List Stmt} {tb : DTS}
theorem s_for (hp : PassesOwn (model X.prog X.w) X.A X.env X.xe) (hc : X.calm = true) (hi : DI X tg iter wi) (hg : DG X tg gd) (hb : DSs X body tb) (hs : ∀ (x : Value), foldedSetIterable iter X.env x = pure x := by intro _; rfl) : DS X (.For tg iter body [] pos) (sFor wi gd tb) :=
  ps_imp (ps_for hp hc hi hg hb hs) fun D σ H ⟨δ, μ, Dd, rs, rm, q, w⟩ => ⟨δ, μ, _, rs, rm, q, fun ds μ1 H1 J e1 m1 wk q1 => by
    refine ⟨fun i m σ' H' => ∃ δ' μ', i ≤ ds.length ∧ m = ds.length - i ∧ Ext μ1 H1 μ' H' ∧ RM X.K μ' H' ∧ RS X.K μ' H' σ' δ' ∧ forGo gd tb Dd (ds.drop i) δ' μ', ⟨ds.length, δ, μ1, Nat.zero_le _, by omega, .refl _ _, m1, rs.mono e1, by simpa using q1⟩, ?_⟩
    rintro i m σ' H' ⟨δ', μ', hi', rfl, e2, m2, rs2, h1⟩
    have wk1 := wk i μ' H' e2 m2
    cases hd : ds[i]? with
    | none =>
      have hle : ds.length ≤ i := List.getElem?_eq_none_iff.mp hd
      rw [List.drop_eq_nil_of_le hle] at h1
      exact .inl ⟨wk1.2 hd, w.nx δ' μ' σ' H' (e1.trans e2) m2 rs2 h1⟩
    | some d =>
      have hlt : i < ds.length := (List.getElem?_eq_some_iff.mp hd).1
      have hdr : ds.drop i = d :: ds.drop (i + 1) := by
        rw [List.drop_eq_getElem_cons hlt]
        congr 1
        exact (List.getElem?_eq_some_iff.mp hd).2
      rw [hdr] at h1
      obtain ⟨go, yl⟩ := wk1.1 d hd
      refine .inr ⟨go, fun σ2 H2 => ∃ δ2 μ2, Ext μ1 H1 μ2 H2 ∧ RM X.K μ2 H2 ∧ RS X.K μ2 H2 σ2 δ2 ∧ forGo gd tb Dd (ds.drop (i + 1)) δ2 μ2, fun σ2 H2 ⟨δ2, μ2, x1, x2, x3, x4⟩ => ⟨ds.length - (i + 1), by omega, δ2, μ2, by omega, rfl, x1, x2, x3, x4⟩, fun x H2 hy => ?_⟩
      obtain ⟨e3, m3, r3⟩ := yl x H2 hy
      refine ⟨δ', μ', .d d, _, rs2.mono e3, m3, r3, h1, fun δ4 μ4 σ4 H4 e4 m4 rs4 h4 => ⟨δ4, μ4, _, rs4, m4, h4, ?_⟩⟩
      have e24 := e2.trans (e3.trans e4)
      exact ⟨fun δ5 μ5 σ5 H5 e5 m5 rs5 h5 => ⟨δ5, μ5, e24.trans e5, m5, rs5, h5⟩, w.rt.step (e1.trans e24), fun δ5 μ5 σ5 H5 e5 m5 rs5 h5 => w.nx δ5 μ5 σ5 H5 (e1.trans (e24.trans e5)) m5 rs5 h5, fun δ5 μ5 σ5 H5 e5 m5 rs5 h5 => ⟨δ5, μ5, e24.trans e5, m5, rs5, h5⟩⟩⟩
end
end DL

namespace DL
open PySem PySem.Spec PyProof.Rows L2

/-! ### defs -/
structure RoomG (k : Nat) (A : Around) : Prop where
  r : Room k A
  g : A.guards = some []
theorem RoomG.mono {j k : Nat} {A : Around} (r : RoomG k A) (h : j ≤ k) : RoomG j A := ⟨r.r.mono h, r.g⟩
theorem RoomG.deeper {k : Nat} {A : Around} (r : RoomG (k + 1) A) (env : Env) : RoomG k (A.deeper env) := ⟨r.r.deeper env, r.g⟩
/-- a def's promise over data: the arguments, the cells, the wish -/
abbrev DSp := List DV → Mu → DK → Prop
structure FnD (P : Program) (w : World) (K : PySem.W.Frag) (mg : Str → Option Value) (base : Heap) (k : Nat) (f : Addr) (fd : FuncData) (ps : List Str) (sp : DSp) : Prop where
  len : ∀ ds μ Q, sp ds μ Q → ds.length = ps.length
  run : ∀ (A : Around) (outer : List Env) (s : Shared) (H : Hp) (args : Args) (us : List Value) (vs : List V) (ds : List DV) (μ : Mu) (Qd : DK) (Q : VK), RoomG k A → Env0 P w K mg base A outer s H → BindsTo s fd args (ps.zip us) → Vals vs us →
    RVs K μ H vs ds → RM K μ H → sp ds μ Qd → Wk K μ H Qd Q → codeAny (model P w) A (.call (.ref f) args) (CR CX0 outer P w H s Q E0) s
theorem FnD.mono {P : Program} {w : World} {K : PySem.W.Frag} {mg : Str → Option Value} {base : Heap} {j k : Nat} {f : Addr} {fd : FuncData} {ps : List Str} {sp : DSp} (F : FnD P w K mg base j f fd ps sp) (h : j ≤ k) : FnD P w K mg base k f fd ps sp :=
  ⟨F.len, fun A outer s H args us vs ds μ Qd Q hr => F.run A outer s H args us vs ds μ Qd Q (hr.mono h)⟩
section
variable {P : Program} {w : World} {K : PySem.W.Frag} {mg : Str → Option Value} {base : Heap}
/-- the data at the entry of a def's body -/
def dstart (n : Nat) (ds : List DV) : DSt := ds.map some ++ List.replicate (n - ds.length) none
/-- the context in which a body is read -/
abbrev cxD (P : Program) (w : World) (K : PySem.W.Frag) (mg : Str → Option Value) (base : Heap) (N : List Str) (qual : Str) (scope : Scope) (f : Addr) (cd : Value) (A : Around) (outer : List Env) (s : Shared) (H : Hp) : Cx :=
  (cxOf CX0 P w K mg base N qual scope f cd A outer s H E0).nox
theorem Fun.okD {x qual : Str} {st : Stmt} {f : Addr} {fd : FuncData} {N ps : List Str} {k : Nat} {sp : DSp} (F : Fun K x qual st f fd) (S : FnScope N ps (defScope st)) (len : ∀ ds μ Q, sp ds μ Q → ds.length = ps.length)
    (hbody : ∀ (cdv : Value) (A : Around) (outer : List Env) (s : Shared) (H : Hp), RoomG k (A.deeper (envOfC qual (defScope st) s.heap.objs.size f cdv)) →
      ∃ t, DSs (cxD P w K mg base N qual (defScope st) f cdv A outer s H) (defBody st) t ∧ ∀ ds μ Q, sp ds μ Q → t { nx := fun _ μ' => Q (.d .none) μ', rt := Q } (dstart N.length ds) μ) : FnD P w K mg base (k + 1) f fd ps sp := by
  obtain ⟨oc, od, kV, doc, pm, an, cdv, ct, osl, rfl, lk, hcd⟩ := F.ex
  refine ⟨len, fun A outer s H args us vs ds μ Qd Q hr e0 hb r rd rm hsp hw => ?_⟩
  have hld := len _ _ _ hsp
  have hl : vs.length = ps.length := (Paired.length rd).trans hld
  have KX : K.In s.heap := e0.mod.kin.keeps fun b o e => (e0.bs b o e).1
  have lim : s.heap.NoLimit := e0.mod.nolimit.keeps fun b o e => (e0.bs b o e).1
  obtain ⟨t, ht, hq⟩ := hbody cdv A outer s H (hr.deeper _)
  have hpar : ((ps.zip us).all fun y => (defScope st).names.lookup y.1 == some .local || (defScope st).names.lookup y.1 == some .cell) = true := by
    rw [List.all_eq_true]
    rintro ⟨n, v⟩ hy
    rcases S.par n (List.of_mem_zip hy).1 with q | q
    · simp [q]
    · simp [q]
  refine Att.call_fn KX lim lk hcd hr.r.depth hb hpar (fun s1 x => ?_) S.co S.gen S.kind
  have I : Inv (cxOf CX0 P w K mg base N qual (defScope st) f cdv A outer s H E0) [] (L2.start N vs) H s1 := inv_start S hr.r.hd e0 hl r x
  have h2 := ht.run [] s1 (L2.start N vs) H { nx := fun _ H' => Q .non H', rt := Q } (I.wish _) ⟨dstart N.length ds, μ, _, RS.start rd, rm, hq ds μ Qd hsp,
    ⟨fun δ' μ' σ' H' e m _ q => hw (.d .none) μ' .non H' e m Da.non q, hw, fun _ _ _ _ _ _ _ q => q, fun _ _ _ _ _ _ _ q => q⟩⟩
  refine wpAny_mono h2 (fun fl s' hs => ?_) fun _ _ z => z.elim
  have hs := hs.unwish
  cases fl with
  | ret u =>
    obtain ⟨v, σ', H', J, rv, q⟩ := hs
    exact ⟨v, H', J.os, J.bare, J.base, J.hok, rv, q⟩
  | next =>
    obtain ⟨σ', H', J, q⟩ := hs
    exact ⟨.non, H', J.os, J.bare, J.base, J.hok, rfl, q⟩
  | brk =>
    obtain ⟨_, _, _, q⟩ := hs
    exact q.elim
  | cont =>
    obtain ⟨_, _, _, q⟩ := hs
    exact q.elim
end

/-! ### calls -/
section
variable {X : Cx} {k : Nat} {f : Addr} {fd : FuncData} {ps : List Str} {sp : DSp} {x : Str} {p pos : Pos} {e : Expr} {es : List Expr} {tr : DTA}
theorem run_D {pins : List (Addr × Obj)} {σ : L2.St} {H : Hp} {s : Shared} {Q : VK} {args : Args} {us : List Value} {vs : List V} {ds : List DV} {μ : Mu} {Qd : DK} (F : FnD X.prog X.w X.K X.mg X.base k f fd ps sp) (hr : RoomG k X.A) (hb : BindsTo s fd args (ps.zip us))
    (I : Inv X pins σ H s) (r : Vals vs us) (rd : RVs X.K μ H vs ds) (rm : RM X.K μ H) (h : sp ds μ Qd) (w : Wk X.K μ H Qd Q) : codeAny (model X.prog X.w) X.A (.call (.ref f) args) (fun r s' => match r with
      | .ok (.ret u) => EP X pins σ Q u s'
      | .ok _ => False
      | .error e => X.xe e s') s :=
  codeAny_mono (F.run X.A X.stack s H args us vs ds μ Qd Q hr I.env0 hb r rd rm h w) fun r s' hq => by
    cases r with
    | error e => exact hq.elim
    | ok fl =>
      cases fl with
      | ret u => exact I.after hq
      | next => exact hq.elim
      | brk => exact hq.elim
      | cont => exact hq.elim
def dCallF (sp : DSp) (t : DTA) : DT := fun δ μ Q => t δ μ fun ds μ1 => sp ds μ1 Q
theorem d_call (F : FnD X.prog X.w X.K X.mg X.base k f fd ps sp) (hr : RoomG k X.A) (hg : Gl X x) (hm : X.mg x = some (.ref f)) (hk : PySem.W.keepIn X.K (.ref f) = true) (hb : Binds X.K fd ps []) (ha : DA X (e :: es) tr)
    (hdb : (x == ("__debug__" : Str)) = false := by decide) (he : starEach (e :: es) X.env = (false, eval e X.env) :: starEach es X.env := by rfl) (hpl : (backTo pos (starEach es X.env)).any (·.1) = false := by rfl) :
    DE X (.Call (.Name x p) (e :: es) [] pos) (dCallF sp tr) := by
  refine ⟨fun pins s σ H Q I ⟨δ, μ, Qd, rs, rm, q, w⟩ => ?_⟩
  refine wpAny_Call_Name_kw (ld_glob I hg hm ?_ hdb)
  refine PySem.W.callWith_K (h₀ := X.base) I.ok.mod.kin hk ?_ he hpl
  refine thn (ha.run pos pins s σ H (fun vs H' => ∃ ds μ', Ext μ H μ' H' ∧ RM X.K μ' H' ∧ RVs X.K μ' H' vs ds ∧ sp ds μ' Qd) I (upA_use rs rm q fun ds μ' vs H' e1 m1 r1 q1 => ⟨ds, μ', e1, m1, r1, q1⟩)) ?_
  rintro us s1 ⟨vs, H1, I1, r, ds, μ1, e1, m1, r1, q1⟩
  refine ⟨I1.kIn, wpAny_call (codeAny_mono (run_D F hr (us := us) ?_ I1 r r1 m1 q1 (w.step e1)) fun r s' hq => ?_)⟩
  · have hl : us.length = ps.length := by rw [← r.length, Paired.length r1]; exact F.len _ _ _ q1
    have z := hb s1 us I1.kIn (by simpa using hl)
    simpa using z
  · exact hq
/-- how keywords alone bind: g puts the values in the parameters' order -/
structure KB (K : PySem.W.Frag) (fd : FuncData) (ps ks : List Str) (g : {α : Type} → List α → List α) : Prop where
  to : ∀ (s : Shared) (ws : List Value), ws.length = ks.length → BindsTo s fd ⟨[], ks.zip ws⟩ (ps.zip (g ws))
  rel : ∀ {R : V → Value → Prop} {vs : List V} {us : List Value}, vs.length = ks.length → Paired R vs us → Paired R (g vs) (g us)
  relD : ∀ {R : V → DV → Prop} {vs : List V} {us : List DV}, vs.length = ks.length → Paired R vs us → Paired R (g vs) (g us)
abbrev DKw (X : Cx) (kws : List Keyword) (t : DTA) : Prop := PK X kws (upA X.K t)
theorem pk_imp {kws : List Keyword} {t t' : TA} (h : PK X kws t) (w : ∀ σ H Q, t' σ H Q → t σ H Q) : PK X kws t' := ⟨fun pos pins s σ H Q I q => h.run pos pins s σ H Q I (w _ _ _ q)⟩
variable {kws : List Keyword} {nm : Option Str} {kpos : Pos} {te : DT}
theorem k_nil : DKw X [] aNil := pk_imp pk_nil fun σ H Q ⟨δ, μ, Qd, rs, rm, q, w⟩ => w [] μ [] H (.refl _ _) rm .nil q
theorem k_cons (ha : DE X e te) (hr : DKw X kws tr) : DKw X (⟨nm, e, kpos⟩ :: kws) (aCons te tr) :=
  pk_imp (pk_cons ha hr) fun σ H Q ⟨δ, μ, Qd, rs, rm, q, w⟩ => up_use rs rm q fun x μ1 v H1 e1 m1 r1 q1 => upA_use (rs.mono e1) m1 q1 fun xs μ2 vs H2 e2 m2 r2 q2 =>
    w (x :: xs) μ2 (v :: vs) H2 (e1.trans e2) m2 (.cons (r1.mono e2) r2) q2
def dCallK (sp : DSp) (n : Nat) (g : {α : Type} → List α → List α) (t : DTA) : DT := fun δ μ Q => t δ μ fun ds μ1 => ds.length = n ∧ sp (g ds) μ1 Q
theorem d_callK {ks : List Str} {g : {α : Type} → List α → List α} (F : FnD X.prog X.w X.K X.mg X.base k f fd ps sp) (hr : RoomG k X.A) (hg : Gl X x) (hm : X.mg x = some (.ref f)) (hk : PySem.W.keepIn X.K (.ref f) = true) (hb : KB X.K fd ps ks g) (ha : DKw X kws tr)
    (hall : (backToKw pos (keywordEach kws X.env)).all (·.1.isSome) = true := by rfl) (hks : (backToKw pos (keywordEach kws X.env)).filterMap (·.1) = ks := by rfl) (hdb : (x == ("__debug__" : Str)) = false := by decide)
    (hpl : ((backTo pos (starEach [] X.env)).any (·.1) || (backToKw pos (keywordEach kws X.env)).any (·.1.isNone)) = false := by rfl) :
    DE X (.Call (.Name x p) [] kws pos) (dCallK sp ks.length g tr) := by
  refine ⟨fun pins s σ H Q I ⟨δ, μ, Qd, rs, rm, q, w⟩ => ?_⟩
  refine wpAny_Call_Name_kw (ld_glob I hg hm ?_ hdb)
  refine PySem.W.callWith_KW0 (h₀ := X.base) I.ok.mod.kin hk hall ?_ hpl
  refine thn (ha.run pos pins s σ H (fun vs H' => ∃ ds μ', Ext μ H μ' H' ∧ RM X.K μ' H' ∧ RVs X.K μ' H' vs ds ∧ ds.length = ks.length ∧ sp (g ds) μ' Qd) I (upA_use rs rm q fun ds μ' vs H' e1 m1 r1 q1 => ⟨ds, μ', e1, m1, r1, q1⟩)) ?_
  rintro us s1 ⟨vs, H1, I1, r, ds, μ1, e1, m1, r1, hlen, q1⟩
  have hlv : vs.length = ks.length := (Paired.length r1).trans hlen
  refine ⟨I1.kIn, wpAny_call (codeAny_mono (run_D F hr (us := g us) ?_ I1 (hb.rel hlv r) (hb.relD hlv r1) m1 q1 (w.step e1)) fun r s' hq => hq)⟩
  rw [hks]
  exact hb.to s1 us (by rw [← r.length]; exact hlv)
end

/-! ### the law's end -/
def spTop (ns : List Int) : DSp := fun ds μ Q => ds = [.d (.list (ns.map .int))] ∧ (μ = fun _ => none) ∧ ∀ μ', Q (.d (.bool true)) μ'
theorem dtop_call {P : Program} {w : World} {K : PySem.W.Frag} {mg mb : Str → Option Value} {k : Nat} {fa a : Addr} {fd : FuncData} {x : Str} {s₁ : Shared} {vs : List Value} {ns : List Int} {sp : DSp}
    (KX : K.In s₁.heap) (hns : s₁.heap.Ns mainGlobals mg) (hb : s₁.heap.Ns builtinsNs mb) (hbb : ∀ x : Str, x ≠ "__name__" → mb x = bootBuiltins x) (hlim : s₁.heap.NoLimit) (hg : s₁.gens = #[])
    (ha : s₁.heap.get? a = some { cls := .type "list", data := .seq vs.toArray }) (hi : IntsAre vs ns) (hl : ns.length ≤ sizeLine) (hr : Room k callerA)
    (F : ∀ base : Heap, K.In base → base.Ns mainGlobals mg → FnD P w K mg base k fa fd [x] sp) (hbind : ∀ (s : Shared) (u : Value), BindsTo s fd ⟨[u], []⟩ [(x, u)])
    (hsp : sp [.d (.list (ns.map .int))] (fun _ => none) (fun d _ => d = .d (.bool true))) :
    codeAny (model P w) callerA (.call (.ref fa) ⟨[.ref a], []⟩) (fun r s' => r = .ok (.ret (.bool true)) ∧ OldK s₁.heap s'.heap ∧ s'.os = s₁.os ∧ AllBare s'.gens) s₁ := by
  have rv := vals_ints hi
  -- the heap that tracks the script alone, or nothing
  have main : ∀ H : Hp, (∀ b u, H b = some u → b = a ∧ K.lookup a = none ∧ u = .frz { cls := .type "list", data := .seq vs.toArray } (.lst (ns.map V.int))) → SqL K H a (ns.map V.int) → HOk P w H s₁.heap →
      codeAny (model P w) callerA (.call (.ref fa) ⟨[.ref a], []⟩) (fun r s' => r = .ok (.ret (.bool true)) ∧ OldK s₁.heap s'.heap ∧ s'.os = s₁.os ∧ AllBare s'.gens) s₁ := by
    intro H hA hS hok
    have keep : ∀ {b : Addr} {o : Obj}, s₁.heap.get? b = some o → (b = a → K.lookup a ≠ none ∨ ∃ es ep, o.data = .dict es ep) → H b = none := by
      intro b o e hno
      cases q : H b with
      | none => rfl
      | some u =>
        obtain ⟨e1, e2, _⟩ := hA b u q
        rcases hno e1 with z | ⟨es, ep, z⟩
        · exact absurd e2 z
        · rw [e1, ha] at e
          cases e
          cases (show Data.seq vs.toArray _ = Data.dict es ep from z)
    have bIn : K.In (hidT s₁.heap H) := fun b o e => hidT_get (KX b o e) (keep (KX b o e) fun z => .inl (by rw [← z, e]; simp))
    have bNs : ∀ {b : Addr} {m : Str → Option Value}, s₁.heap.Ns b m → (hidT s₁.heap H).Ns b m := fun ⟨o, es, ep, e, d, r⟩ => ⟨o, es, ep, hidT_get e (keep e fun _ => .inr ⟨es, ep, d⟩), d, r⟩
    have hM : Mod K mg (hidT s₁.heap H) := ⟨bIn, bNs hns, ⟨mb, bNs hb, hbb⟩, let ⟨mc, h1, h2⟩ := hlim; ⟨mc, bNs h1, h2⟩⟩
    have e0 : Env0 P w K mg (hidT s₁.heap H) callerA [] s₁ H := ⟨rfl, hM, fun b o e => of_hidT e, Nat.le_of_eq (hidT_size _ _), trivial, fun b hb => (nomatch hb), hok, .of_eq hg⟩
    have h0 : hid (fun _ => none) H = H := by funext b; rfl
    have hda : DaAll K (hid (fun _ => none) H) (ns.map V.int) (ns.map PyData.int) := DaAll.ints ns
    refine codeAny_mono ((F _ bIn (bNs hns)).run callerA [] s₁ H ⟨[.ref a], []⟩ [.ref a] [.ref a] [.d (.list (ns.map .int))] (fun _ => none) _ (fun v _ => v = .bl true) ⟨hr, rfl⟩ e0 (hbind s₁ (.ref a)) (.cons rfl .nil)
      (.cons (show Da K (hid (fun _ => none) H) (.ref a) (.list (ns.map .int)) from .lst (by rw [h0]; exact hS) hda) .nil) (fun b c e => by cases e) hsp fun d μ' v H' _ _ r q => ?_) fun r s' h => ?_
    · subst q
      cases (show Da K (hid μ' H') v (.bool true) from r)
      rfl
    · cases r with
      | error e => exact h.elim
      | ok fl =>
        cases fl with
        | next => exact h.elim
        | brk => exact h.elim
        | cont => exact h.elim
        | ret u =>
          obtain ⟨v, H', os, bare, un, hok', r', q⟩ := h
          have q' : v = .bl true := q
          subst q'
          cases (show u = Value.bool true from r')
          refine ⟨rfl, OldK.of_keep fun b o e => ?_, os, bare⟩
          cases q : H b with
          | none => exact un.keep b o e q (fun z => nomatch z) (fun z => nomatch z)
          | some u =>
            obtain ⟨_, _, e1⟩ := hA b u q
            subst e1
            obtain ⟨e2, _⟩ := hok b _ q
            obtain ⟨e3, _⟩ := hok' b _ (un.frzs b _ _ q)
            rw [e] at e2
            rw [e3, ← e2]
  cases hk : K.lookup a with
  | some o =>
    have e := KX a o hk
    rw [ha] at e
    cases e
    exact main (fun _ => none) (fun b u z => by cases z) (.inr ⟨_, vs.toArray, _, hk, rfl, rfl, rfl, by rw [List.size_toArray, hi.length]; exact hl, by simpa using rv⟩) fun b u z => by cases z
  | none =>
    refine main (fun b => if b = a then some (.frz { cls := .type "list", data := .seq vs.toArray } (.lst (ns.map V.int))) else none) (fun b u z => ?_) (.inl (.inr ⟨_, if_pos rfl⟩)) fun b u z => ?_
    · by_cases hb : b = a
      · rw [if_pos hb] at z; cases z; exact ⟨hb, hk, rfl⟩
      · rw [if_neg hb] at z; cases z
    · dsimp only at z
      by_cases hb : b = a
      · rw [if_pos hb] at z; cases z
        subst hb
        exact ⟨ha, by rw [List.length_map]; exact hl, vs, _, rv, ha⟩
      · rw [if_neg hb] at z; cases z
theorem dwalk {l : PySem.W.OpenLaw} {n k : Nat} {q : Program} {loose : List Str} {XP : (Str → Option Value) → Heap → Prop} {YP : World → Heap → Prop} {d : DefRec} {K : Params → PySem.W.Frag} {x : Str} {sp : DSp}
    (hn : l.most = some n) (hn2 : n ≤ sizeLine) (hdf : d.params.defaults = []) (hr : Room k callerA) (hY : ∀ (w : World) (h : Heap), YP w h → (K w.params).In h)
    (F : ∀ (w : World) (mg : Str → Option Value) (fa : Addr) (h : Heap), (K w.params).In h → h.Ns mainGlobals mg → mg d.name = some (.ref fa) →
      ∃ fd : FuncData, (∀ (s : Shared) (u : Value), BindsTo s fd ⟨[u], []⟩ [(x, u)]) ∧ ∀ base : Heap, (K w.params).In base → base.Ns mainGlobals mg → FnD l.prog w (K w.params) mg base k fa fd [x] sp)
    (hsp : ∀ ns : List Int, ns.length ≤ n → (∀ z ∈ ns, Builtin.Int.intBits z ≤ 1048576) → sp [.d (.list (ns.map .int))] (fun _ => none) (fun d _ => d = .d (.bool true))) :
    PySem.W.WalkO q loose XP YP l.row.toRowW d [] (fun f vs => PySem.call f vs) := by
  refine Att.attach_callB hn hdf fun w s₀ s₁ mg mb fa o pm cd doc a vs ns G Y ho hd hcd hmg hobj hints hlen hbits hg => ?_
  have KX := hY w _ Y
  obtain ⟨fd, hb, hF⟩ := F w mg fa _ KX G.T.g hmg
  exact dtop_call KX G.T.g G.T.b G.T.builtins G.T.nolimit hg hobj hints (Nat.le_trans hlen hn2) hr hF hb (hsp ns hlen hbits)
end DL

namespace DL
open PySem PySem.Spec PyProof.Rows L2
section
variable {X : Cx} {pos : Pos} {a b c e o : Expr} {ta tb tc te to ti : DT} {K : PySem.W.Frag}

/-! ### + of ints, tuples, lists, texts -/
def rdPlus : DR2 := fun x y μ Q => match x, y with
  | .d (.int i), .d (.int j) => Q (.d (.int (i + j))) μ
  | .d (.tuple xs), .d (.tuple ys) => xs.length + ys.length ≤ 100000 ∧ Q (.d (.tuple (xs ++ ys))) μ
  | .d (.str i), .d (.str j) => i.length + j.length ≤ sizeLine ∧ Q (.d (.str (i ++ j))) μ
  | _, _ => False
theorem u_plus : Up2 K rdPlus (fun x y H Q => rI0 (fun i j => .int (i + j)) x y H Q ∨ rCatA K x y H Q ∨ (∃ i j, x = .str i ∧ y = .str j ∧ i.length + j.length ≤ sizeLine ∧ Q (.str (i ++ j)) H)) := fun x y μ Qd v u H Q m rx ry q w => by
  unfold rdPlus at q
  split at q
  · next i j =>
    cases rx; cases ry
    exact .inl ⟨i, j, rfl, rfl, w (.d (.int (i + j))) μ _ H (.refl _ _) m (Da.int _) q⟩
  · next xs ys => exact .inr (.inl (u_cat _ _ μ Qd v u H Q m rx ry (show rdCat (.d (.tuple xs)) (.d (.tuple ys)) μ Qd from q) w))
  · next i j =>
    cases rx; cases ry
    exact .inr (.inr ⟨i, j, rfl, rfl, q.1, w (.d (.str (i ++ j))) μ _ H (.refl _ _) m (Da.str _) q.2⟩)
  · exact q.elim
theorem d_plus (ha : DE X a ta) (hb : DE X b tb) : DE X (.BinOp a .Add b pos) (dOp rdPlus ta tb) := d_op (op_add.or (op_catA.or op_add_str)) u_plus ha hb

/-! ### == of anything -/
def rdEqX : DR2 := fun x y μ Q => match x, y with
  | .d (.int i), .d (.int j) => Q (.d (.bool (decide (i = j)))) μ
  | .d (.str i), .d (.str j) => Q (.d (.bool (decide (i = j)))) μ
  | .d (.bool i), .d (.bool j) => Q (.d (.bool (decide (i = j)))) μ
  | .d i, .d j => SeqAt.shaped i = true ∧ SeqAt.shaped j = true ∧ Q (.d (.bool (PyData.eqv i j))) μ
  | _, _ => False
theorem u_eqX : Up2 K rdEqX (fun x y H Q => rEq x y H Q ∨ rEqD K x y H Q) := fun x y μ Qd v u H Q m rx ry q w => by
  unfold rdEqX at q
  split at q
  · next i j => exact .inl (u_eq _ _ μ Qd v u H Q m rx ry (show rdEq (.d (.int i)) (.d (.int j)) μ Qd from q) w)
  · next i j => exact .inl (u_eq _ _ μ Qd v u H Q m rx ry (show rdEq (.d (.str i)) (.d (.str j)) μ Qd from q) w)
  · next i j => exact .inl (u_eq _ _ μ Qd v u H Q m rx ry (show rdEq (.d (.bool i)) (.d (.bool j)) μ Qd from q) w)
  · next i j _ _ _ => exact .inr (u_eqD _ _ μ Qd v u H Q m rx ry (show rdEqD (.d i) (.d j) μ Qd from q) w)
  · exact q.elim
def rdNeX : DR2 := fun x y μ Q => match x, y with
  | .d (.int i), .d (.int j) => Q (.d (.bool (!decide (i = j)))) μ
  | .d (.str i), .d (.str j) => Q (.d (.bool (!decide (i = j)))) μ
  | .d (.bool i), .d (.bool j) => Q (.d (.bool (!decide (i = j)))) μ
  | .d i, .d j => SeqAt.shaped i = true ∧ SeqAt.shaped j = true ∧ Q (.d (.bool (!PyData.eqv i j))) μ
  | _, _ => False
theorem u_neX : Up2 K rdNeX (fun x y H Q => rNe x y H Q ∨ rNeD K x y H Q) := fun x y μ Qd v u H Q m rx ry q w => by
  unfold rdNeX at q
  split at q
  · next i j => exact .inl (u_ne _ _ μ Qd v u H Q m rx ry (show rdNe (.d (.int i)) (.d (.int j)) μ Qd from q) w)
  · next i j => exact .inl (u_ne _ _ μ Qd v u H Q m rx ry (show rdNe (.d (.str i)) (.d (.str j)) μ Qd from q) w)
  · next i j => exact .inl (u_ne _ _ μ Qd v u H Q m rx ry (show rdNe (.d (.bool i)) (.d (.bool j)) μ Qd from q) w)
  · next i j _ _ _ =>
    exact .inr ⟨i, j, ((Da.mono unhid rx).dp (SeqAt.canLay_of_shaped q.1)), ((Da.mono unhid ry).dp (SeqAt.canLay_of_shaped q.2.1)), q.1, q.2.1, w (.d (.bool _)) μ _ H (.refl _ _) m (Da.bl _) q.2.2⟩
  · exact q.elim
theorem d_eqX (hu : X.A.units + 64 < cLine) (ha : DE X a ta) (hb : DE X b tb) : DE X (.Compare a [.Eq] [b] pos) (dOp rdEqX ta tb) := d_cmp (op_eq.or (op_eqD hu)) u_eqX ha hb (nomark _)
theorem d_neX (hu : X.A.units + 64 < cLine) (ha : DE X a ta) (hb : DE X b tb) : DE X (.Compare a [.NotEq] [b] pos) (dOp rdNeX ta tb) := d_cmp (op_ne.or (op_neD hu)) u_neX ha hb (nomark _)
theorem c_eqX (hu : X.A.units + 64 < cLine) (ha : DE X a ta) (hb : DE X b tb) : DC X (.Compare a [.Eq] [b] pos) (dB (dOp rdEqX ta tb)) := c_cmp (op_eq.or (op_eqD hu)) u_eqX ha hb (nomark _)
theorem c_neX (hu : X.A.units + 64 < cLine) (ha : DE X a ta) (hb : DE X b tb) : DC X (.Compare a [.NotEq] [b] pos) (dB (dOp rdNeX ta tb)) := c_cmp (op_ne.or (op_neD hu)) u_neX ha hb (nomark _)

/-! ### truth -/
def dTr (te : DT) : DTT := fun δ μ Q => te δ μ fun x μ1 => match x with
  | .d (.bool b) => Q b μ1
  | .d (.int i) => Q (i != 0) μ1
  | .d .none => Q false μ1
  | .d (.list xs) => Q (!xs.isEmpty) μ1
  | .d (.tuple xs) => Q (!xs.isEmpty) μ1
  | _ => False
theorem emp_da {H : Hp} {vs : List V} {ds : List PyData} (r : DaAll K H vs ds) : (!ds.isEmpty) = !vs.isEmpty := by cases r <;> rfl
theorem c_tr (ha : DE X a ta) (he : ∀ whole, isTrue a X.env whole = (do let v ← whole; standAt a.pos; holding [v] (truthy v)) := by intro _; rfl) : DC X a (dTr ta) := pt_imp (pt_truth ha he) fun σ H Q ⟨δ, μ, Qd, rs, rm, q, w⟩ => up_use rs rm q fun x μ1 v H1 e1 m1 r1 q1 => by
  split at q1
  · cases r1; exact ⟨_, rfl, w _ μ1 H1 e1 m1 q1⟩
  · cases r1; exact ⟨_, rfl, w _ μ1 H1 e1 m1 q1⟩
  · cases r1; exact ⟨_, rfl, w _ μ1 H1 e1 m1 q1⟩
  · next xs =>
    cases (show Da X.K (hid μ1 H1) v (.list xs) from r1) with
    | @lst p vs _ s t => exact ⟨_, .inl ⟨vs, unhid.seq s, rfl⟩, by rw [← emp_da t]; exact w _ μ1 H1 e1 m1 q1⟩
  · next xs =>
    cases (show Da X.K (hid μ1 H1) v (.tuple xs) from r1) with
    | @tup p vs _ s t => exact ⟨_, .inr (.inl ⟨vs, same_seqT unhid s, rfl⟩), by rw [← emp_da t]; exact w _ μ1 H1 e1 m1 q1⟩
  · exact q1.elim

/-! ### cells changed -/
theorem DaAll.set {H : Hp} : ∀ {vs : List V} {ds : List PyData} (i : Nat) {v : V} {d : PyData}, DaAll K H vs ds → Da K H v d → DaAll K H (vs.set i v) (ds.set i d)
  | _, _, _, _, _, .nil, _ => .nil
  | _, _, 0, _, _, .cons _ t, h => .cons h t
  | _, _, i + 1, _, _, .cons a t, h => .cons a (DaAll.set i t h)
theorem g_subL (ho : DE X o to) (hi : DE X b ti)
    (ha : ∀ v, assign (.Subscript o b pos) X.env v = (do
      let ov ← holding [v] (eval o X.env)
      let iv ← holding [v, ov] (eval b X.env)
      standAt pos
      holding [v, ov, iv] (setItem ov iv v)
      release [v, ov, iv] []) := by intro _; rfl) : DG X (.Subscript o b pos) (gdSub to ti rdSetL) :=
  pg_imp (pg_sub ho hi set_list ha) fun v σ H Q ⟨δ, μ, d, Qd, rs, rm, r, q, w⟩ =>
    up_use rs rm q fun x μ1 ov H1 e1 m1 r1 q1 => up_use (rs.mono e1) m1 q1 fun y μ2 iv H2 e2 m2 r2 q2 => by
      unfold rdSetL at q2
      split at q2
      · next p k z =>
        split at q2
        · next xs ex =>
          split at q2
          · next j ej =>
            cases (show ov = .ref p from r1)
            cases r2
            obtain ⟨vs, h1, h2⟩ := m2 p _ ex
            refine ⟨p, vs, k, j, rfl, rfl, h1, by rw [h2.length]; exact ej, ?_⟩
            have e12 := e1.trans (e2.trans (ext_write (p := p) (o := .lst (vs.set j v)) (c := .lst (xs.set j z)) ex))
            refine w δ _ σ _ e12 (m2.write ex ⟨_, upd_same, ?_⟩) (rs.mono e12) q2
            exact (h2.set j ((show Da X.K (hid μ H) v z from r).mono (e1.trans e2))).mono (ext_write ex)
          · exact q2.elim
        · exact q2.elim
      · exact q2.elim
/-- xs.append(e) -/
def dAppend (to te : DT) : DT := fun δ μ Q => to δ μ fun x μ1 => match x with
  | .cell p => (∃ ys, μ1 p = some (.lst ys)) ∧ te δ μ1 fun y μ2 => match y, μ2 p with
    | .d d, some (.lst xs) => xs.length < 1000000 ∧ Q (.d .none) (put μ2 p (.lst (xs ++ [d])))
    | _, _ => False
  | _ => False
theorem d_append {apos cpos : Pos} (ho : DE X o to) (he : DE X e te)
    (hbase : attributeBase o "append" X.env (eval o X.env) = eval o X.env := by rfl)
    (hfew : ((backTo cpos (starEach [e] X.env)).all (fun x => !x.1) && (backToKw cpos (keywordEach [] X.env)).all (fun x => x.1.isSome)
      && decide ([e].length + ([] : List Keyword).length + (if ([] : List Keyword).isEmpty then 0 else 1) < 30)) = true := by rfl)
    (hline : (apos.endLine == cpos.line) = true := by rfl) (hs : starEach [e] X.env = (false, eval e X.env) :: starEach [] X.env := by rfl) (hplain : (backTo cpos (starEach [] X.env)).any (·.1) = false := by rfl) :
    DE X (.Call (.Attribute o "append" apos) [e] [] cpos) (dAppend to te) :=
  pe_imp (pe_bm PySem.F.plainAttrs_list PySem.F.slot_list_append PySem.F.type_list_append mt_append ho (pa_cons he pa_nil hs) hbase hfew hline hs hplain) fun σ H Q ⟨δ, μ, Qd, rs, rm, q, w⟩ =>
    up_use rs rm q fun x μ1 v H1 e1 m1 r1 q1 => by
      split at q1
      · next p =>
        obtain ⟨⟨ys, hy⟩, q1⟩ := q1
        cases (show v = .ref p from r1)
        obtain ⟨vs0, h01, h02⟩ := m1 p _ hy
        refine ⟨.inl ⟨rfl, vs0, .of h01⟩, up_use (rs.mono e1) m1 q1 fun y μ2 u H2 e2 m2 r2 q2 => ?_⟩
        split at q2
        · next d xs ex =>
          obtain ⟨vs, h1, h2⟩ := m2 p _ ex
          refine ⟨p, vs, u, rfl, rfl, h1, by rw [h2.length]; exact Nat.lt_of_lt_of_le q2.1 (by decide), ?_⟩
          refine w (.d .none) (put μ2 p (.lst (xs ++ [d]))) _ _ (e1.trans (e2.trans (ext_write ex))) (m2.write (c := .lst (xs ++ [d])) ex ⟨_, upd_same, ?_⟩) Da.non q2.2
          exact (h2.append (.cons r2 .nil)).mono (ext_write ex)
        · exact q2.elim
      · exact q1.elim

/-! ### a def that stands behind the top, and its promise -/
structure Cal (P : Program) (w : World) (K : PySem.W.Frag) (mg : Str → Option Value) (base : Heap) (k : Nat) (x : Str) (st : Stmt) (ps : List Str) (sp : DSp) : Prop where
  ex : ∃ f fd, FnD P w K mg base k f fd ps sp ∧ mg x = some (.ref f) ∧ Fun K x x st f fd
structure DefM (K : PySem.W.Frag) (mg : Str → Option Value) (x : Str) (st : Stmt) : Prop where
  ex : ∃ f fd, mg x = some (.ref f) ∧ Fun K x x st f fd
theorem Cal.mono {P : Program} {w : World} {mg : Str → Option Value} {base : Heap} {j k : Nat} {x : Str} {st : Stmt} {ps : List Str} {sp : DSp} (C : Cal P w K mg base j x st ps sp) (h : j ≤ k) : Cal P w K mg base k x st ps sp :=
  let ⟨f, fd, F, m, D⟩ := C.ex
  ⟨f, fd, F.mono h, m, D⟩
variable {k : Nat} {ps : List Str} {sp : DSp} {x : Str} {p : Pos} {es : List Expr} {tr : DTA} {st : Stmt}
theorem d_callC (C : Cal X.prog X.w X.K X.mg X.base k x st ps sp) (hr : RoomG k X.A) (hg : Gl X x) (hb : ∀ f fd, Fun X.K x x st f fd → Binds X.K fd ps []) (ha : DA X (e :: es) tr)
    (hdb : (x == ("__debug__" : Str)) = false := by decide) (he : starEach (e :: es) X.env = (false, eval e X.env) :: starEach es X.env := by rfl) (hpl : (backTo pos (starEach es X.env)).any (·.1) = false := by rfl) :
    DE X (.Call (.Name x p) (e :: es) [] pos) (dCallF sp tr) := by
  obtain ⟨f, fd, F, m, D⟩ := C.ex
  exact d_call F hr hg m D.kp (hb f fd D) ha hdb he hpl
theorem d_callCK {ks : List Str} {g : {α : Type} → List α → List α} {kws : List Keyword} (C : Cal X.prog X.w X.K X.mg X.base k x st ps sp) (hr : RoomG k X.A) (hg : Gl X x) (hb : ∀ f fd, Fun X.K x x st f fd → KB X.K fd ps ks g) (ha : DKw X kws tr)
    (hall : (backToKw pos (keywordEach kws X.env)).all (·.1.isSome) = true := by rfl) (hks : (backToKw pos (keywordEach kws X.env)).filterMap (·.1) = ks := by rfl) (hdb : (x == ("__debug__" : Str)) = false := by decide)
    (hpl : ((backTo pos (starEach [] X.env)).any (·.1) || (backToKw pos (keywordEach kws X.env)).any (·.1.isNone)) = false := by rfl) :
    DE X (.Call (.Name x p) [] kws pos) (dCallK sp ks.length g tr) := by
  obtain ⟨f, fd, F, m, D⟩ := C.ex
  exact d_callK F hr hg m D.kp (hb f fd D) ha hall hks hdb hpl
theorem Cal.of {P : Program} {w : World} {mg : Str → Option Value} {base : Heap} {N : List Str} {rd : DTS} (D : DefM K mg x st) (S : FnScope N ps (defScope st)) (len : ∀ ds μ Q, sp ds μ Q → ds.length = ps.length)
    (der : ∀ (f : Addr) (cdv : Value) (A : Around) (outer : List Env) (s : Shared) (H : Hp), RoomG k (A.deeper (envOfC x (defScope st) s.heap.objs.size f cdv)) → DSs (cxD P w K mg base N x (defScope st) f cdv A outer s H) (defBody st) rd)
    (R : ∀ ds μ Q, sp ds μ Q → rd { nx := fun _ μ' => Q (.d .none) μ', rt := Q } (dstart N.length ds) μ) : Cal P w K mg base (k + 1) x st ps sp := by
  obtain ⟨f, fd, m, F⟩ := D.ex
  exact ⟨f, fd, Fun.okD F S len fun cdv A outer s H hr => ⟨rd, der f cdv A outer s H hr, R⟩, m, F⟩
end
/-- what the built-in names stand for: none is a module's name -/
structure Bl (mg : Str → Option Value) : Prop where
  isinstance : mg "isinstance" = none
  int : mg "int" = none
  bool : mg "bool" = none
  str : mg "str" = none
  tuple : mg "tuple" = none
  list : mg "list" = none
  dict : mg "dict" = none
  len : mg "len" = none
  all : mg "all" = none
  any : mg "any" = none
  sum : mg "sum" = none
  abs : mg "abs" = none
  max : mg "max" = none
  min : mg "min" = none
  repr : mg "repr" = none
  range : mg "range" = none
  enumerate : mg "enumerate" = none
  zip : mg "zip" = none
  reversed : mg "reversed" = none
  sorted : mg "sorted" = none
  set : mg "set" = none
end DL

namespace DL
open PySem PySem.Spec PyProof.Rows L2

/-! ### a dict of the written part whose keys are ints -/
def keysI : List DictEntry → List Int → Bool
  | [], [] => true
  | e :: es, k :: ks => (match e.key with
    | .int i _ => i == k && e.hash == hashInt k
    | _ => false) && keysI es ks
  | _, _ => false
structure KInt (K : PySem.W.Frag) (a : Addr) (ks : List Int) : Prop where
  ex : ∃ (es : Array DictEntry) (n : Nat), K.lookup a = some ⟨.type "dict", none, .dict es n, #[]⟩ ∧ keysI es.toList ks = true
  nd : ks.Nodup
  low : (a == sysModules) = false
theorem keysI_pairs {P : Program} {w : World} : ∀ {es : List DictEntry} {ks : List Int}, keysI es ks = true → ∃ kvs : List (Key × Value), Pairs (mixKind P w) es kvs ∧ kvs.map (·.1) = ks.map Sum.inl ∧ ∀ e ∈ es, ∃ k, (mixKind P w).is k e.key = true ∧ e.hash = (mixKind P w).hash k
  | [], [], _ => ⟨[], .nil, rfl, fun e h => by cases h⟩
  | e :: es, k :: ks, h => by
    simp only [keysI, Bool.and_eq_true] at h
    obtain ⟨h1, h2⟩ := h
    obtain ⟨kvs, p, q, r⟩ := keysI_pairs (P := P) (w := w) h2
    obtain ⟨hh, kk, vv⟩ := e
    cases kk <;> simp at h1
    next i t =>
      obtain ⟨rfl, rfl⟩ := h1
      refine ⟨(Sum.inl i, vv) :: kvs, .cons (keyIs_int i t) rfl p, by rw [List.map_cons, List.map_cons, q], fun e he => ?_⟩
      rcases List.mem_cons.mp he with z | z
      · subst z; exact ⟨Sum.inl i, keyIs_int i t, rfl⟩
      · exact r e z
  | [], _ :: _, h => by simp [keysI] at h
  | _ :: _, [], h => by simp [keysI] at h
section
variable {X : Cx} {pos : Pos} {a b c e o : Expr} {ta tb tc te to ti : DT} {K : PySem.W.Frag}
theorem KInt.dict {P : Program} {w : World} {ad : Addr} {ks : List Int} (D : KInt K ad ks) {h : Heap} (I : K.In h) : ∃ kvs : List (Key × Value), h.DictOf (mixKind P w) ad kvs ∧ kvs.map (·.1) = ks.map Sum.inl := by
  obtain ⟨es, n, hl, hk⟩ := D.ex
  obtain ⟨kvs, p, q, r⟩ := keysI_pairs (P := P) (w := w) hk
  refine ⟨kvs, ⟨_, es, n, I _ _ hl, ⟨rfl, rfl, rfl⟩, rfl, fun e he => r e (by simpa using he), p, ?_⟩, q⟩
  rw [q]
  exact List.Pairwise.map _ (fun x y hxy z => hxy (Sum.inl.inj z)) D.nd
theorem valueAt_some {kvs : List (Key × Value)} {ks : List Int} (h : kvs.map (·.1) = ks.map Sum.inl) (i : Int) : (valueAt kvs (Sum.inl i : Key)).isSome = decide (i ∈ ks) := by
  unfold valueAt
  rw [Option.isSome_map, Bool.eq_iff_iff, List.find?_isSome, decide_eq_true_eq]
  constructor
  · rintro ⟨p, hp, e⟩
    have e' : p.1 = Sum.inl i := by simpa using e
    have : (Sum.inl i : Key) ∈ ks.map Sum.inl := by rw [← h, ← e']; exact List.mem_map_of_mem hp
    simpa using this
  · intro hi
    have : (Sum.inl i : Key) ∈ kvs.map (·.1) := by rw [h]; exact List.mem_map_of_mem hi
    obtain ⟨p, hp, e⟩ := List.mem_map.mp this
    exact ⟨p, hp, by simpa using e⟩
theorem op_inK {ad : Addr} {ks : List Int} (D : KInt X.K ad ks) : OpR X (compareOp .In) (fun x y H Q => ∃ i, x = .int i ∧ y = .ref ad ∧ Q (.bl (decide (i ∈ ks))) H) := by
  intro pins s σ H x y v u Q I rx ry h
  obtain ⟨i, rfl, rfl, q⟩ := h
  obtain ⟨t, rfl⟩ := rx
  cases ry
  obtain ⟨kvs, dd, e⟩ := D.dict (P := X.prog) (w := X.w) I.kIn
  refine wpAny_in_of (mixKind_int X.prog X.w i t) D.low dd.mapOf ?_
  rw [valueAt_some e]
  exact ⟨.bl _, H, I.tok _, rfl, q⟩
/-- x in D, D such a dict of the module -/
def dInK (ks : List Int) (ta : DT) : DT := fun δ μ Q => ta δ μ fun x μ1 => match x with
  | .d (.int i) => Q (.d (.bool (decide (i ∈ ks)))) μ1
  | _ => False
structure KName (K : PySem.W.Frag) (mg : Str → Option Value) (x : Str) (ks : List Int) : Prop where
  ex : ∃ ad, mg x = some (.ref ad) ∧ KInt K ad ks
theorem d_inK {x : Str} {p : Pos} {ks : List Int} (D : KName X.K X.mg x ks) (hg : Gl X x) (ha : DE X a ta) (hm : behindInMarks .In (.Name x p) = false := by rfl) (hdb : (x == ("__debug__" : Str)) = false := by decide) : DE X (.Compare a [.In] [.Name x p] pos) (dInK ks ta) := by
  obtain ⟨ad, m, D⟩ := D.ex
  exact pe_imp (pe_cmpR (op_inK D) ha (pe_glob (v := .ref ad) hg m rfl hdb) hm) fun σ H Q ⟨δ, μ, Qd, rs, rm, q, w⟩ => up_use rs rm q fun x μ1 v H1 e1 m1 r1 q1 => by
    split at q1
    · cases r1
      exact ⟨_, rfl, rfl, w (.d (.bool _)) μ1 _ H1 e1 m1 (Da.bl _) q1⟩
    · exact q1.elim
/-- a whole number of the module -/
structure KNum (mg : Str → Option Value) (x : Str) (n : Int) : Prop where
  ex : ∃ t, mg x = some (.int n t)
theorem d_num {x : Str} {p : Pos} {n : Int} (D : KNum X.mg x n) (hg : Gl X x) (hdb : (x == ("__debug__" : Str)) = false := by decide) : DE X (.Name x p) (dC (.int n)) := by
  obtain ⟨t, m⟩ := D.ex
  exact d_glob (v := .int n) hg m ⟨t, rfl⟩ (fun _ => .int n) hdb
end
end DL

namespace DL
open PySem PySem.Spec PyProof.Rows L2
local macro_rules | `(tactic| walk_at "dl") => `(tactic| simp only [dVar, dC, dOp, dUn, rdI, rdI0, rdU, dChain, dB, dAnd, dOr, dNot, dAndV, dOrV, dNotV, dIf, rdIsN, rdNotN, isNone, aNil, aCons, allD, dTup, dLst, dLstC, dCall, rdEq, rdNe, rdIn, seqOf, rdIx, dNo, dPart, dSl, rdLen, rdTuple, rdList, rdSum, rdAll, rdAny, rdAbs, rdMax2, rdMin2, rdInt, rdStr, dIsi, rdRepr, sNext, sSeq, sBreak, sCont, sRet, sDrop, sIf, sNever, gdName, setAll, gdTup, sAsg, sPar, rdSetL, gdSub, dwList, dwTup, dwRange1, dwRange2, dwEnum, dwZip, wipeD, dLc, dLcC, dYes, sFor, dCallF, dCallK, rdPlus, rdEqX, rdNeX, dTr, dAppend, dInK, dstart, List.map_cons, List.map_nil, List.length_cons, List.length_nil, List.replicate_succ, List.replicate_zero, List.cons_append, List.nil_append, List.getElem?_cons_zero, List.getElem?_cons_succ, List.getElem?_nil, List.set_cons_zero, List.set_cons_succ, Option.map_some, Option.map_none, Option.bind_some, Option.bind_none, Nat.reduceSub, Nat.reduceAdd, if_true, if_false, Bool.false_eq_true, reduceIte, Nat.sub_zero, Nat.zero_add, reduceCtorEq])
theorem atI0 {α : Type} {x : α} {xs : List α} : atI (x :: xs) 0 = some x := by
  simp [atI, ixN]
theorem atI1 {α : Type} {x y : α} {xs : List α} : atI (x :: y :: xs) 1 = some y :=
  (show atI (x :: y :: xs) ((1 : Nat) : Int) = some y from atI_nat rfl)
theorem atI_nat2 {α : Type} {xs : List α} {i : Nat} {x : α} (h : xs[i]? = some x) : atI xs (i : Int) = some x := atI_nat h
/-- a comprehension whose element is a function of the item -/
theorem lcGo_pure {gd : DTG} {tt : DTT} {te : DT} {δw : DSt} {D : Addr} {fin : List PyData → Mu → Prop} {f : PyData → PyData} {p : PyData → Bool} : ∀ (ds acc : List PyData) (μ : Mu), μ D = some (.lst acc) → acc.length + ds.length ≤ 900000 →
    (∀ d ∈ ds, ∀ (μ : Mu) (K1 : DK) (K0 : Mu → Prop), (p d = true → K1 (.d (f d)) μ) → (p d = false → K0 μ) → gd (.d d) δw μ fun δ2 μ2 => tt δ2 μ2 fun b μ3 => if b = true then te δ2 μ3 K1 else K0 μ3) →
    (∀ μ', (∀ b, b ≠ D → μ' b = μ b) → μ' D = some (.lst (acc ++ (ds.filter p).map f)) → fin (acc ++ (ds.filter p).map f) μ') → lcGo gd tt te δw D fin ds acc μ
  | [], acc, μ, hD, hl, H, q => by
    unfold lcGo
    simpa using q μ (fun _ _ => rfl) (by simpa using hD)
  | d :: ds, acc, μ, hD, hl, H, q => by
    unfold lcGo
    refine H d List.mem_cons_self μ _ _ (fun hp => ?_) (fun hp => ?_)
    · refine ⟨hD, by simp at hl; omega, lcGo_pure ds (acc ++ [f d]) _ put_same (by simp at hl ⊢; omega) (fun e he => H e (List.mem_cons_of_mem _ he)) fun μ' h1 h2 => ?_⟩
      have e : acc ++ [f d] ++ (ds.filter p).map f = acc ++ ((d :: ds).filter p).map f := by simp [List.filter_cons, hp]
      rw [e] at h2 ⊢
      exact q μ' (fun b hb => (h1 b hb).trans (put_ne hb)) h2
    · refine ⟨hD, lcGo_pure ds acc μ hD (by simp at hl; omega) (fun e he => H e (List.mem_cons_of_mem _ he)) fun μ' h1 h2 => ?_⟩
      have e : (ds.filter p).map f = ((d :: ds).filter p).map f := by simp [List.filter_cons, hp]
      rw [e] at h2 ⊢
      exact q μ' h1 h2
theorem lc_pure {gd : DTG} {tt : DTT} {te : DT} {δw : DSt} {f : PyData → PyData} {p : PyData → Bool} {ds : List PyData} {μ : Mu} {fin : Addr → List PyData → Mu → Prop} (hl : ds.length ≤ 900000)
    (H : ∀ d ∈ ds, ∀ (μ : Mu) (K1 : DK) (K0 : Mu → Prop), (p d = true → K1 (.d (f d)) μ) → (p d = false → K0 μ) → gd (.d d) δw μ fun δ2 μ2 => tt δ2 μ2 fun b μ3 => if b = true then te δ2 μ3 K1 else K0 μ3)
    (q : ∀ D μ', del μ' D = μ → fin D ((ds.filter p).map f) μ') : ∀ D, μ D = none → lcGo gd tt te δw D (fin D) ds [] (put μ D (.lst [])) := fun D hD =>
  lcGo_pure ds [] _ put_same (by simpa using hl) H fun μ' h1 h2 => by
    have e : del μ' D = μ := by
      funext b
      by_cases hb : b = D
      · subst hb; rw [del_same, hD]
      · rw [del_ne hb, h1 b hb, put_ne hb]
    simpa using q D μ' e
theorem lc_map {gd : DTG} {te : DT} {δw : DSt} {f : PyData → PyData} {ds : List PyData} {μ : Mu} {fin : Addr → List PyData → Mu → Prop} (hl : ds.length ≤ 900000)
    (H : ∀ d ∈ ds, ∀ (μ : Mu) (K1 : DK), K1 (.d (f d)) μ → gd (.d d) δw μ fun δ2 μ2 => te δ2 μ2 K1)
    (q : ∀ D μ', del μ' D = μ → fin D (ds.map f) μ') : ∀ D, μ D = none → lcGo gd dYes te δw D (fin D) ds [] (put μ D (.lst [])) :=
  lc_pure (p := fun _ => true) hl (fun d hd μ K1 K0 h1 _ => by
    show gd (.d d) δw μ fun δ2 μ2 => if true = true then te δ2 μ2 K1 else K0 μ2
    simp only [if_true]
    exact H d hd μ K1 (h1 rfl)) fun D μ' e => by rw [List.filter_eq_self.mpr (fun _ _ => rfl)]; exact q D μ' e
end DL

namespace DL
open PySem PySem.Spec PyProof.Rows L2
section
variable {prog : Program} {w : World} {A : Around} {E : Value → Shared → Prop} {s : Shared}
/-- what t[::-1] picks -/
theorem back_pick (xs : Array Value) : ((List.range xs.size).filterMap fun (k : Nat) => xs[(((xs.size : Int) - 1) + (k : Int) * (-1)).toNat]?).toArray = xs.toList.reverse.toArray := by
  congr 1
  have e : (List.range xs.size).filterMap (fun (k : Nat) => xs[(((xs.size : Int) - 1) + (k : Int) * (-1)).toNat]?) = (List.range xs.size).filterMap (fun (k : Nat) => xs.toList.reverse[k]?) := by
    have cg : ∀ (l : List Nat) (f g : Nat → Option Value), (∀ k ∈ l, f k = g k) → l.filterMap f = l.filterMap g := by
      intro l f g h
      induction l with
      | nil => rfl
      | cons a l ih => rw [List.filterMap_cons, List.filterMap_cons, h a List.mem_cons_self, ih fun k hk => h k (List.mem_cons_of_mem _ hk)]
    refine cg _ _ _ fun k hk => ?_
    have hk := List.mem_range.mp hk
    rw [show ((((xs.size : Int) - 1) + (k : Int) * (-1)).toNat) = xs.size - 1 - k by omega, List.getElem?_reverse (by simpa using hk)]
    simp
  rw [e]
  have h2 : ∀ l : List Value, (List.range l.length).filterMap (fun k => l[k]?) = l := by
    intro l
    induction l with
    | nil => rfl
    | cons x l ih =>
      rw [List.length_cons, List.range_succ_eq_map, List.filterMap_cons]
      simp only [List.getElem?_cons_zero, List.filterMap_map]
      have : (fun k => (x :: l)[k]?) ∘ Nat.succ = fun k => l[k]? := by funext k; simp
      rw [this, ih]
  have h3 := h2 xs.toList.reverse
  rw [List.length_reverse, Array.length_toList] at h3
  exact h3
theorem back_places (n : Nat) : Builtin.Slice.slicePlaces ((n : Int) - 1) (-1) (-1) = n := by
  unfold Builtin.Slice.slicePlaces
  by_cases h : (n : Int) - 1 > -1
  · rw [if_neg (by decide), if_pos h]
    have e : ((n : Int) - 1 - -1 - 1) / (- -1) = (n : Int) - 1 := by rw [show (- -1 : Int) = 1 by decide, Int.ediv_one]; omega
    rw [e]; omega
  · rw [if_neg (by decide), if_neg h]; omega
theorem tuple_back {t sl : Addr} {items : Array Value} {vl vu vs : Value} {Q : Value → Shared → Prop} (ht : IsTup s.heap t items) (hs : s.heap.IsSliceOf sl vl vu vs) (pl : IsPart vl none) (pu : IsPart vu none) (ps : IsPart vs (some (-1))) (hsz : items.size ≤ sizeLine)
    (h : Q (.ref s.heap.objs.size) { s with heap := s.heap.push { cls := .type "tuple", data := .seq items.toList.reverse.toArray } }) : wpAny (model prog w) A (getItem (.ref t) (.ref sl)) Q E s := by
  obtain ⟨os, hos, hcs, hds⟩ := id hs
  have hR : sizeOk (.seq items.toList.reverse.toArray) := by show items.toList.reverse.toArray.size ≤ sizeLine; simpa using hsz
  unfold getItem
  with_reducible refine wpAny_holding ?_
  refine wpAny_bind (wpAny_sequenceKey ht.typeIs (by decide) (wpAny_bind (wpAny_callSpecial?_slot (name := Str.ofString "__getitem__") ht.typeIs PyProof.Rows.slot_tuple_getitem (wpAny_call_entry PyProof.Rows.slot_tuple_getitem ht.typeIs entry_tuple_getitem ?_ (args_tuple_getitem _ _)))))
  show wpAny _ _ (Builtin.Tuple.tupleItemsOf (.ref t) >>= _) _ _ s
  refine wpAny_bind (tupleItemsOf_ ht (wpAny_bind (wpAny_typeOf (T := "slice") ⟨os, hos, hcs⟩ ?_)))
  rw [if_pos (by decide)]
  refine wpAny_bind ?_
  unfold Builtin.Slice.sliceApplied Builtin.Slice.sliceFields
  refine wpAny_bind (wpAny_bind (wpAny_field hos hds (x := vl) rfl (wpAny_bind (wpAny_field hos hds (x := vu) rfl (wpAny_bind (wpAny_field hos hds (x := vs) rfl (wpAny_pure ?_)))))))
  refine wpAny_bind (HT.slicePart_ ps ?_)
  show wpAny _ _ (if ((-1 : Int) == 0) = true then _ else _) _ _ s
  rw [if_neg (by decide)]
  refine wpAny_bind (HT.slicePart_ pl (wpAny_bind (HT.slicePart_ pu (wpAny_bind (wpAny_pure ?_)))))
  show wpAny _ _ (pure (((items.size : Int) - 1), (-1 : Int), Builtin.Slice.slicePlaces ((items.size : Int) - 1) (-1) (-1))) _ _ s
  rw [back_places]
  refine wpAny_pure ?_
  show wpAny _ _ (if (((items.size : Int) - 1) == 0 && (-1 : Int) == 1 && items.size == items.size) = true then _ else _) _ _ s
  rw [if_neg (by simp), back_pick]
  first
    | exact wpAny_bind (m := Builtin.Tuple.tupleExact _) (wpAny_newObj_type (wpAny_pure ⟨_, rfl, wpAny_pure h⟩) hR)
    | exact wpAny_bind (m := Builtin.Tuple.tupleExact _) (wpAny_newObj_type (wpAny_bind (wpAny_pure (wpAny_pure ⟨_, rfl, wpAny_pure h⟩))) hR)
    | exact wpAny_bind (wpAny_bind (m := Builtin.Tuple.tupleExact _) (wpAny_newObj_type (wpAny_pure (wpAny_pure ⟨_, rfl, wpAny_pure h⟩)) hR))
    | exact wpAny_bind (wpAny_bind (m := Builtin.Tuple.tupleExact _) (wpAny_newObj_type (wpAny_pure ⟨_, rfl, wpAny_pure h⟩) hR))
end
section
variable {X : Cx} {pos : Pos} {a b c e o : Expr} {ta tb tc te to ti : DT} {K : PySem.W.Frag}
/-- t[::-1] of a tuple -/
def dRev (te : DT) : DT := fun δ μ Q => te δ μ fun x μ1 => match x with
  | .d (.tuple xs) => Q (.d (.tuple xs.reverse)) μ1
  | .d (.list xs) => Q (.d (.list xs.reverse)) μ1
  | _ => False
theorem pe_back {k : Nat} {p1 p2 p3 : Pos} {t : TE} (he : PE X e t) : PE X (.Subscript e (.Slice none none (some (.UnaryOp .USub (.Constant (.int 1) k p1) p2)) p3) pos)
    (fun σ H Q => t σ H fun x H1 => ∃ a xs, x = .ref a ∧ ((SqT X.K H1 a xs ∧ ∀ p, H1 p = none → Q (.ref p) (upd H1 p (.tup xs.reverse))) ∨ (SqL X.K H1 a xs ∧ ∀ p, H1 p = none → Q (.ref p) (upd H1 p (.lst xs.reverse))))) := by
  refine ⟨fun pins s σ H Q I h => Subscript_ (thn (he.run pins s σ H _ I h) ?_)⟩
  rintro v s1 ⟨x, H1, I1, r1, a, xs, rfl, q⟩
  cases r1
  have hst : PO X (some (.UnaryOp .USub (.Constant (.int 1) k p1) p2)) (tPart (tUn (rU fun i => .int (-i)) (tC (.int 1)))) := po_some (pe_un un_neg pe_int)
  refine wpAny_Slice (thn (po_none.run pins s1 σ H1 (fun o H2 => o = none ∧ H2 = H1) I1 ⟨rfl, rfl⟩) ?_)
  rintro vl s2 ⟨_, _, I2, pl, rfl, rfl⟩
  refine thn (po_none.run pins s2 σ _ (fun o H3 => o = none ∧ H3 = _) I2 ⟨rfl, rfl⟩) ?_
  rintro vu s3 ⟨_, _, I3, pu, rfl, rfl⟩
  refine thn (hst.run pins s3 σ _ (fun o H4 => o = some (-1) ∧ H4 = _) I3 ⟨1, rfl, -1, rfl, rfl, rfl⟩) ?_
  rintro vs s4 ⟨_, H4, I4, ps, rfl, rfl⟩
  have I5 : Inv X pins σ H4 { s4 with heap := s4.heap.push { cls := .type "slice", data := .fields #[vl, vu, vs] } } := I4.kept (t' := s4.toks) fun b ob q => Heap.get?_push_of_some _ q
  show wpAny (model X.prog X.w) X.A (subscriptTail e (.Slice none none (some (.UnaryOp .USub (.Constant (.int 1) k p1) p2)) p3) (.ref a) (.ref s4.heap.objs.size)) (EP X pins σ Q) X.xe _
  rcases q with ⟨hx, q⟩ | ⟨hx, q⟩
  · obtain ⟨its, r, ht, hz⟩ := I5.tuple hx
    have hlen := r.length
    refine tail_any (ops := [.ref a, .ref s4.heap.objs.size]) ht.typeIs PyProof.Rows.slot_tuple_getitem.lookup ?_ (by with_unfolding_all rfl)
    refine tuple_back ht (Heap.IsSliceOf.new _ vl vu vs) pl pu ps (by rw [List.size_toArray]; omega) ?_
    exact ⟨.ref _, _, I5.laid (t' := s4.toks) (o := .tup xs.reverse) (fun b ob q => Heap.get?_push_of_some _ q) (Nat.le_refl _) ⟨by rw [List.length_reverse]; exact hz, _, r.reverse, IsTup.new _ _⟩, rfl, q _ (I5.hok.fresh (Nat.le_refl _))⟩
  · obtain ⟨its, r, ht, hz⟩ := I5.list hx
    have hlen := r.length
    refine tail_any (ops := [.ref a, .ref s4.heap.objs.size]) ht.isList.typeIs PySem.slot_list_getitem.lookup ?_ (by with_unfolding_all rfl)
    refine wpAny_getItem_list_slice ht.isList (Heap.IsSliceOf.new _ vl vu vs) pl pu ps (by decide) ?_ (by rw [List.size_toArray]; omega)
    rw [PySem.W.krv_pick]
    exact ⟨.ref _, _, I5.laid (t' := s4.toks) (o := .lst xs.reverse) (fun b ob q => Heap.get?_push_of_some _ q) (Nat.le_refl _) ⟨by rw [List.length_reverse]; exact hz, _, 0, r.reverse, Heap.get?_push_size _ rfl⟩, rfl, q _ (I5.hok.fresh (Nat.le_refl _))⟩
theorem d_rev {k : Nat} {p1 p2 p3 : Pos} (he : DE X e te) : DE X (.Subscript e (.Slice none none (some (.UnaryOp .USub (.Constant (.int 1) k p1) p2)) p3) pos) (dRev te) :=
  pe_imp (pe_back he) fun σ H Q ⟨δ, μ, Qd, rs, rm, q, w⟩ => up_use rs rm q fun x μ1 v H1 e1 m1 r1 q1 => by
    split at q1
    · next xs =>
      cases (show Da X.K (hid μ1 H1) v (.tuple xs) from r1) with
      | @tup p vs _ s t => exact ⟨p, vs, rfl, .inl ⟨same_seqT unhid s, fun p' hp => wk_tup (w.step e1) m1 t.rev q1 hp⟩⟩
    · next xs =>
      cases (show Da X.K (hid μ1 H1) v (.list xs) from r1) with
      | @lst p vs _ s t => exact ⟨p, vs, rfl, .inr ⟨unhid.seq s, fun p' hp => wk_lst (w.step e1) m1 t.rev q1 hp⟩⟩
    · exact q1.elim

/-! ### t == () -/
def rEqE (K : PySem.W.Frag) : R2 := fun x y H Q => ∃ a b xs, x = .ref a ∧ y = .ref b ∧ SqT K H a xs ∧ SqT K H b [] ∧ Q (.bl xs.isEmpty) H
theorem op_eqE (hu : X.A.units + 64 < cLine) : OpR X (compareOp .Eq) (rEqE X.K) := by
  intro pins s σ H x y v u Q I rx ry h
  obtain ⟨a, b, xs, rfl, rfl, ha, hb, q⟩ := h
  cases rx; cases ry
  obtain ⟨its, r, p, _⟩ := I.tuple ha
  obtain ⟨its2, r2, p2, _⟩ := I.tuple hb
  cases r2
  refine SeqAt.eq_tupleAt (e := fun _ => true) p p2 (by omega) (fun j h1 h2 => absurd h2 (by simp)) ⟨.bl _, H, I, ?_, q⟩
  show Value.bool _ = Value.bool _
  have hl := r.length
  cases xs with
  | nil => cases r; rfl
  | cons x xs =>
    congr 1
    cases its with
    | nil => simp at hl
    | cons y its => simp
def rdEqE : DR2 := fun x y μ Q => match x, y with
  | .d (.tuple xs), .d (.tuple []) => Q (.d (.bool xs.isEmpty)) μ
  | _, _ => False
theorem u_eqE : Up2 K rdEqE (rEqE K) := fun x y μ Qd v u H Q m rx ry q w => by
  unfold rdEqE at q
  split at q
  · next xs =>
    cases (show Da K (hid μ H) v (.tuple xs) from rx) with
    | @tup a vs _ s t =>
      cases (show Da K (hid μ H) u (.tuple []) from ry) with
      | @tup b ws _ s' t' =>
        cases t'
        refine ⟨a, b, vs, rfl, rfl, same_seqT unhid s, same_seqT unhid s', w (.d (.bool xs.isEmpty)) μ _ H (.refl _ _) m ?_ q⟩
        have e : xs.isEmpty = vs.isEmpty := by cases t <;> rfl
        rw [e]
        exact Da.bl _
  · exact q.elim
theorem d_eqE (hu : X.A.units + 64 < cLine) (ha : DE X a ta) (hb : DE X b tb) : DE X (.Compare a [.Eq] [b] pos) (dOp rdEqE ta tb) := d_cmp (op_eqE hu) u_eqE ha hb (nomark _)
theorem c_eqE (hu : X.A.units + 64 < cLine) (ha : DE X a ta) (hb : DE X b tb) : DC X (.Compare a [.Eq] [b] pos) (dB (dOp rdEqE ta tb)) := c_cmp (op_eqE hu) u_eqE ha hb (nomark _)

/-! ### dicts written out -/
def dDict0 : DT := fun _ μ Q => Q (.d (.dict [])) μ
theorem d_dict0 : DE X (.Dict [] [] pos) dDict0 := pe_imp pe_dnewK fun σ H Q ⟨δ, μ, Qd, rs, rm, q, w⟩ p hp =>
  w (.d (.dict [])) μ _ _ (ext_new hp) (rm.new hp) (Da.dct (kvs := []) (ds := []) (hid_new rm hp) .nil) q
/-- one entry, its key and its value written ints -/
def dDict1 (i j : Int) : DT := fun _ μ Q => Q (.d (.dict [(.int i, .int j)])) μ
theorem d_dict1 {i j : Int} {k1 k2 p1 p2} : DE X (.Dict [some (.Constant (.int i) k1 p1)] [.Constant (.int j) k2 p2] pos) (dDict1 i j) :=
  pe_imp (pe_disp (pps_cons pe_int pe_int pps_nil) rfl rfl (fun z => by cases z) (by show 1 ≤ 15; decide)) fun σ H Q ⟨δ, μ, Qd, rs, rm, q, w⟩ p hp => by
    refine ⟨upd_same, [(Sum.inl i, .int j)], rfl, by show 1 ≤ 15; decide, ?_⟩
    rw [upd_upd]
    exact w (.d (.dict [(.int i, .int j)])) μ _ _ (ext_new hp) (rm.new hp) (Da.dct (kvs := [(Sum.inl i, .int j)]) (ds := [.int j]) (hid_new rm hp) (.cons (.int j) .nil)) q
end
end DL

namespace DL
open PySem PySem.Spec PyProof.Rows L2

/-! ### the source of draws: a cell of three ints -/
def Src (n : Nat) (μ : Mu) (p : Addr) : Prop := ∃ a b c : Int, μ p = some (.lst [.int a, .int b, .int c]) ∧ 0 ≤ b ∧ b < 10 ^ 30 ∧ 0 ≤ c ∧ c ≤ n
def Oth (p : Addr) (μ μ' : Mu) : Prop := ∀ b, b ≠ p → μ' b = μ b
theorem Src.mono {n m : Nat} {μ : Mu} {p : Addr} (s : Src n μ p) (h : n ≤ m) : Src m μ p := by
  obtain ⟨a, b, c, h1, h2, h3, h4, h5⟩ := s
  exact ⟨a, b, c, h1, h2, h3, h4, by omega⟩
theorem Src.ne {n : Nat} {μ : Mu} {p D : Addr} (s : Src n μ p) (h : μ D = none) : D ≠ p := by
  obtain ⟨a, b, c, h1, _⟩ := s
  rintro rfl
  rw [h] at h1; cases h1
theorem Src.at {n : Nat} {μ μ' : Mu} {p : Addr} (s : Src n μ p) (h : μ' p = μ p) : Src n μ' p := by
  obtain ⟨a, b, c, h1, h2⟩ := s
  exact ⟨a, b, c, h.trans h1, h2⟩
theorem Oth.refl (p : Addr) (μ : Mu) : Oth p μ μ := fun _ _ => rfl
theorem Oth.trans {p : Addr} {μ μ1 μ2 : Mu} (a : Oth p μ μ1) (b : Oth p μ1 μ2) : Oth p μ μ2 := fun c h => (b c h).trans (a c h)
theorem Oth.put {p : Addr} {μ : Mu} {c : Cell} : Oth p μ (put μ p c) := fun _ h => put_ne h
/-- a comprehension whose element draws -/
theorem lcGo_src {gd : DTG} {te : DT} {δw : DSt} {D p : Addr} {fin : List PyData → Mu → Prop} {P : PyData → PyData → Prop} (B : Nat) (hne : D ≠ p) : ∀ (ds acc : List PyData) (μ : Mu) (n : Nat), μ D = some (.lst acc) → Src n μ p → acc.length + ds.length ≤ 900000 →
    (∀ d ∈ ds, ∀ (μ : Mu) (m : Nat) (K1 : DK), Src m μ p → n ≤ m → m + B ≤ n + B * ds.length → (∀ r μ', P d r → Src (m + B) μ' p → Oth p μ μ' → K1 (.d r) μ') → gd (.d d) δw μ fun δ2 μ2 => te δ2 μ2 K1) →
    (∀ rs μ', Paired P ds rs → Src (n + B * ds.length) μ' p → (∀ b, b ≠ p → b ≠ D → μ' b = μ b) → μ' D = some (.lst (acc ++ rs)) → fin (acc ++ rs) μ') → lcGo gd dYes te δw D fin ds acc μ
  | [], acc, μ, n, hD, hs, hl, H, q => by
    unfold lcGo
    have := q [] μ .nil (by simpa using hs) (fun _ _ _ => rfl) (by simpa using hD)
    simpa using this
  | d :: ds, acc, μ, n, hD, hs, hl, H, q => by
    unfold lcGo
    have e1 : B * (d :: ds).length = B + B * ds.length := by rw [List.length_cons, Nat.mul_succ]; omega
    simp only [dYes, if_true]
    refine H d List.mem_cons_self μ n _ hs (Nat.le_refl _) (by rw [e1]; omega) fun r μ' hp hs' ho => ?_
    have hD' : μ' D = some (.lst acc) := (ho D hne).trans hD
    refine ⟨hD', by simp at hl; omega, lcGo_src (P := P) B hne ds (acc ++ [r]) _ (n + B) put_same (hs'.at (put_ne hne.symm)) (by simp at hl ⊢; omega) (fun e he μ2 m K1 h1 h2 h3 h4 => H e (List.mem_cons_of_mem _ he) μ2 m K1 h1 (by omega) (by rw [e1]; omega) h4) fun rs μ2 h1 h2 h3 h4 => ?_⟩
    have := q (r :: rs) μ2 (.cons hp h1) (by rw [e1, ← Nat.add_assoc]; exact h2) (fun b hb hb2 => ((h3 b hb hb2).trans (put_ne hb2)).trans (ho b hb)) (by rw [h4]; simp)
    simpa using this
theorem lc_src {gd : DTG} {te : DT} {δw : DSt} {p : Addr} {fin : Addr → List PyData → Mu → Prop} {P : PyData → PyData → Prop} {ds : List PyData} {μ : Mu} {n : Nat} (B : Nat) (hs : Src n μ p) (hl : ds.length ≤ 900000)
    (H : ∀ d ∈ ds, ∀ (μ : Mu) (m : Nat) (K1 : DK), Src m μ p → n ≤ m → m + B ≤ n + B * ds.length → (∀ r μ', P d r → Src (m + B) μ' p → Oth p μ μ' → K1 (.d r) μ') → gd (.d d) δw μ fun δ2 μ2 => te δ2 μ2 K1)
    (q : ∀ D rs μ', Paired P ds rs → Src (n + B * ds.length) (del μ' D) p → Oth p μ (del μ' D) → fin D rs μ') : ∀ D, μ D = none → lcGo gd dYes te δw D (fin D) ds [] (put μ D (.lst [])) := fun D hD => by
  have hne := hs.ne hD
  refine lcGo_src (P := P) B hne ds [] _ n put_same (hs.at (put_ne hne.symm)) (by simpa using hl) H fun rs μ' h1 h2 h3 h4 => ?_
  rw [List.nil_append]
  refine q D rs μ' h1 (h2.at (del_ne hne.symm)) fun b hb => ?_
  by_cases hb2 : b = D
  · subst hb2; rw [del_same, hD]
  · rw [del_ne hb2, h3 b hb hb2, put_ne hb2]

/-! ### bits -/
theorem bits_le {i : Int} {k : Nat} (h : i.natAbs < 2 ^ k) : Builtin.Int.intBits i ≤ k := by
  unfold Builtin.Int.intBits
  split
  · exact Nat.zero_le _
  · next h0 =>
    have h1 : i.natAbs ≠ 0 := by
      intro z
      apply h0
      have : i = 0 := Int.natAbs_eq_zero.mp z
      simp [this]
    have := (Nat.log2_lt h1).mpr h
    omega
theorem Bits.of {i j : Int} {a b : Nat} (h1 : Builtin.Int.intBits i ≤ a) (h2 : Builtin.Int.intBits j ≤ b) (h : a + b < 100000000) : Bits i j := by unfold Bits; omega
theorem divW {j : Int} (h : 0 < j) (h2 : j < 2 ^ 1000) : ∀ i, CDivW i j := fun _ => by
  refine ⟨h, ?_⟩
  have : j.natAbs < 2 ^ 1000 := by omega
  exact Nat.lt_of_lt_of_le ((Nat.log2_lt (by omega)).mpr this) (by decide)
theorem powB {i j : Int} {k : Nat} (h0 : 0 ≤ j) (h : Builtin.Int.intBits i ≤ k) (h2 : (k : Int) * j ≤ 2 ^ 27) : CPowB i j := ⟨h0, Int.le_trans (Int.mul_le_mul_of_nonneg_right (by omega) h0) h2⟩

/-! ### small data -/
mutual
/-- ints and tuples of such -/
def tupInt : PyData → Bool
  | .int i => decide (i.natAbs < 10 ^ 62)
  | .tuple xs => tupIntAll xs
  | _ => false
def tupIntAll : List PyData → Bool
  | [] => true
  | x :: xs => tupInt x && tupIntAll xs
end
theorem tupIntAll_iff : ∀ xs : List PyData, tupIntAll xs = true ↔ ∀ x ∈ xs, tupInt x = true
  | [] => by simp [tupIntAll]
  | x :: xs => by simp [tupIntAll, tupIntAll_iff xs]
/-- what may be shown -/
structure Sz (k n : Nat) (d : PyData) : Prop where
  lv : d.leavesShort 70 = true
  sh : d.showable = true
  dp : d.depth ≤ k
  bk : d.bulk ≤ n
  mx : d.hasDict = true → noList d = true
theorem Sz.show {k n : Nat} {d : PyData} (s : Sz k n d) (hk : k ≤ 60) (hn : n ≤ 100000) : Show d := by
  refine ⟨s.sh, ?_, Nat.le_trans s.dp hk, s.mx⟩
  have h := PyData.shown_le_bulk 70 (by decide) d s.lv
  have h2 := s.bk
  rw [sizeLine_eq]
  have h3 : (70 + 2) * d.bulk ≤ 72 * 100000 := Nat.mul_le_mul (by decide) (by omega)
  omega
structure Pl (k n : Nat) (d : PyData) : Prop where
  ti : tupInt d = true
  dp : d.depth ≤ k
  bk : d.bulk ≤ n
theorem Pl.mono {k n k' n' : Nat} {d : PyData} (h : Pl k n d) (hk : k ≤ k') (hn : n ≤ n') : Pl k' n' d := ⟨h.ti, Nat.le_trans h.dp hk, Nat.le_trans h.bk hn⟩
theorem Sz.mono {k n k' n' : Nat} {d : PyData} (h : Sz k n d) (hk : k ≤ k') (hn : n ≤ n') : Sz k' n' d := ⟨h.lv, h.sh, Nat.le_trans h.dp hk, Nat.le_trans h.bk hn, h.mx⟩
theorem Pl.int {i : Int} (h : i.natAbs < 10 ^ 62) : Pl 0 0 (.int i) := ⟨by simp [tupInt, h], by simp [PyData.depth], by simp [PyData.bulk]⟩
theorem depthAll_le {k : Nat} : ∀ {xs : List PyData}, (∀ x ∈ xs, x.depth ≤ k) → PyData.depthAll xs ≤ k
  | [], _ => by simp [PyData.depthAll]
  | x :: xs, h => by
    simp only [PyData.depthAll]
    have h1 := h x List.mem_cons_self
    have h2 := depthAll_le (xs := xs) fun y hy => h y (List.mem_cons_of_mem _ hy)
    omega
theorem depthAll_mem {x : PyData} : ∀ {xs : List PyData}, x ∈ xs → x.depth ≤ PyData.depthAll xs
  | y :: xs, h => by
    simp only [PyData.depthAll]
    rcases List.mem_cons.mp h with e | h
    · subst e; omega
    · have := depthAll_mem h; omega
theorem bulkAll_le {n : Nat} : ∀ {xs : List PyData}, (∀ x ∈ xs, x.bulk ≤ n) → PyData.bulkAll xs ≤ xs.length * (n + 1)
  | [], _ => by simp [PyData.bulkAll]
  | x :: xs, h => by
    simp only [PyData.bulkAll, List.length_cons, Nat.succ_mul]
    have h1 := h x List.mem_cons_self
    have h2 := bulkAll_le (xs := xs) fun y hy => h y (List.mem_cons_of_mem _ hy)
    omega
theorem bulkAll_len : ∀ (xs : List PyData), xs.length ≤ PyData.bulkAll xs
  | [] => by simp
  | x :: xs => by simp only [PyData.bulkAll, List.length_cons]; have := bulkAll_len xs; omega
theorem bulkAll_mem {x : PyData} : ∀ {xs : List PyData}, x ∈ xs → x.bulk + 1 ≤ PyData.bulkAll xs
  | y :: xs, h => by
    simp only [PyData.bulkAll]
    rcases List.mem_cons.mp h with e | h
    · subst e; omega
    · have := bulkAll_mem h; omega
theorem bulkAll_append : ∀ (xs ys : List PyData), PyData.bulkAll (xs ++ ys) = PyData.bulkAll xs + PyData.bulkAll ys
  | [], ys => by simp [PyData.bulkAll]
  | x :: xs, ys => by simp only [List.cons_append, PyData.bulkAll, bulkAll_append xs ys]; omega
theorem Pl.tup {k n m : Nat} {xs : List PyData} (h : ∀ x ∈ xs, Pl k n x) (hl : xs.length ≤ m) : Pl (k + 1) (m * (n + 1)) (.tuple xs) := by
  refine ⟨?_, ?_, ?_⟩
  · simp only [tupInt]; exact (tupIntAll_iff xs).mpr fun x hx => (h x hx).ti
  · simp only [PyData.depth]; have := depthAll_le fun x hx => (h x hx).dp; omega
  · simp only [PyData.bulk]
    exact Nat.le_trans (bulkAll_le fun x hx => (h x hx).bk) (Nat.mul_le_mul_right _ hl)
theorem Pl.pair {k n m : Nat} {a b : PyData} (h1 : Pl k n a) (h2 : Pl k m b) : Pl (k + 1) (n + m + 2) (.tuple [a, b]) := by
  refine ⟨?_, ?_, ?_⟩
  · simp only [tupInt, tupIntAll, h1.ti, h2.ti, Bool.and_true]
  · simp only [PyData.depth, PyData.depthAll]; have := h1.dp; have := h2.dp; omega
  · simp only [PyData.bulk, PyData.bulkAll]; have := h1.bk; have := h2.bk; omega
theorem Pl.mem {k n : Nat} {xs : List PyData} (h : Pl (k + 1) n (.tuple xs)) {x : PyData} (hx : x ∈ xs) : Pl k n x := by
  refine ⟨?_, ?_, ?_⟩
  · have := h.ti; simp only [tupInt] at this; exact (tupIntAll_iff xs).mp this x hx
  · have := h.dp; simp only [PyData.depth] at this; have := depthAll_mem hx; omega
  · have := h.bk; simp only [PyData.bulk] at this; have := bulkAll_mem hx; omega
mutual
theorem tupInt_leaves : ∀ d : PyData, tupInt d = true → d.leavesShort 70 = true ∧ d.showable = true ∧ d.hasDict = false ∧ noList d = true
  | .int i, h => by
    have h' : i.natAbs < 10 ^ 62 := by simpa [tupInt] using h
    refine ⟨?_, ?_, by simp [PyData.hasDict], by simp [noList]⟩
    · have e : (PyData.shown (.int i)).length ≤ 70 := by
        show (Str.ofString (toString i)).length ≤ 70
        rw [PySem.ofString_length]
        exact Nat.le_trans (int_text_length_le10 (k := 62) (by decide) h') (by decide)
      simp only [PyData.leavesShort, decide_eq_true_eq]
      exact e
    · simp only [PyData.showable, decide_eq_true_eq]
      by_cases h0 : i.natAbs = 0
      · rw [h0]; decide
      · exact Nat.lt_of_lt_of_le ((Nat.log2_lt h0).mpr (Nat.lt_of_lt_of_le h' (by decide : 10 ^ 62 ≤ 2 ^ 207))) (by decide)
  | .tuple xs, h => by
    have := tupIntAll_leaves xs (by simpa only [tupInt] using h)
    simpa only [PyData.leavesShort, PyData.showable, PyData.hasDict, noList] using this
  | .none, h => by simp [tupInt] at h
  | .bool _, h => by simp [tupInt] at h
  | .str _, h => by simp [tupInt] at h
  | .list _, h => by simp [tupInt] at h
  | .dict _, h => by simp [tupInt] at h
theorem tupIntAll_leaves : ∀ xs : List PyData, tupIntAll xs = true → PyData.leavesShortAll 70 xs = true ∧ PyData.showableAll xs = true ∧ PyData.hasDictAll xs = false ∧ noListAll xs = true
  | [], _ => ⟨by simp [PyData.leavesShortAll], by simp [PyData.showableAll], by simp [PyData.hasDictAll], by simp [noListAll]⟩
  | x :: xs, h => by
    simp only [tupIntAll, Bool.and_eq_true] at h
    obtain ⟨a1, a2, a3, a4⟩ := tupInt_leaves x h.1
    obtain ⟨b1, b2, b3, b4⟩ := tupIntAll_leaves xs h.2
    simp [PyData.leavesShortAll, PyData.showableAll, PyData.hasDictAll, noListAll, a1, a2, a3, a4, b1, b2, b3, b4]
end
theorem Pl.sz {k n : Nat} {d : PyData} (h : Pl k n d) : Sz k n d := by
  obtain ⟨a, b, c, e⟩ := tupInt_leaves d h.ti
  exact ⟨a, b, h.dp, h.bk, fun z => by rw [c] at z; cases z⟩
end DL

namespace DL
open PySem PySem.Spec PyProof.Rows L2
section
variable {X : Cx} {pos : Pos} {tg iter elt : Expr} {ifs : List Expr} {te : DT} {tt : DTT} {wi : DTI} {g : TG} {gd : DTG} {scope : Scope} {own : List (Str × Nat)} {vs : List Nat}
/-- the same, the names' places told apart -/
theorem d_lcV (hc : X.calm = true) (hN : X.N.Nodup) (hi : DI X tg iter wi) (ok : BlkOk X.N X.env.scope scope own) (G : CompG X.K vs g gd)
    (hg : ∀ (s : Shared) (H : Hp) (C : Addr) (cl : List (Str × Addr)) (fp : List Addr), PG (X.blk s H scope (compEnvC scope cl C X.env) fp) tg g)
    (ht : ∀ (s : Shared) (H : Hp) (C : Addr) (cl : List (Str × Addr)) (fp : List Addr), DTs (X.blk s H scope (compEnvC scope cl C X.env) fp) ifs tt)
    (he : ∀ (s : Shared) (H : Hp) (C : Addr) (cl : List (Str × Addr)) (fp : List Addr), DE (X.blk s H scope (compEnvC scope cl C X.env) fp) elt te)
    (hv : own.map (·.2) = vs := by rfl) (hs : ∀ (x : Value), foldedSetIterable iter X.env x = pure x := by intro _; rfl) : DE X (.ListComp elt [⟨tg, iter, ifs, 0⟩] scope pos) (dLc wi gd tt te vs) := by
  subst hv
  exact d_lc hc hN hi ok G hg ht he hs
theorem d_lcCV (hc : X.calm = true) (hN : X.N.Nodup) (hi : DI X tg iter wi) (ok : BlkOk X.N X.env.scope scope own) (G : CompG X.K vs g gd)
    (hg : ∀ (s : Shared) (H : Hp) (C : Addr) (cl : List (Str × Addr)) (fp : List Addr), PG (X.blk s H scope (compEnvC scope cl C X.env) fp) tg g)
    (ht : ∀ (s : Shared) (H : Hp) (C : Addr) (cl : List (Str × Addr)) (fp : List Addr), DTs (X.blk s H scope (compEnvC scope cl C X.env) fp) ifs tt)
    (he : ∀ (s : Shared) (H : Hp) (C : Addr) (cl : List (Str × Addr)) (fp : List Addr), DE (X.blk s H scope (compEnvC scope cl C X.env) fp) elt te)
    (hv : own.map (·.2) = vs := by rfl) (hs : ∀ (x : Value), foldedSetIterable iter X.env x = pure x := by intro _; rfl) : DE X (.ListComp elt [⟨tg, iter, ifs, 0⟩] scope pos) (dLcC wi gd tt te vs) := by
  subst hv
  exact d_lcC hc hN hi ok G hg ht he hs
theorem s_setLcV {i : Nat} {y : Str} {py spos : Pos} (hc : X.calm = true) (hN : X.N.Nodup) (hy : X.N[i]? = some y) (hyl : X.env.scope.names.lookup y = some .local) (hsw : swapsWith (.ListComp elt [⟨tg, iter, ifs, 0⟩] scope pos) (some (.Name y py)) spos.line X.env = pure true)
    (hi : DI X tg iter wi) (ok : BlkOk X.N X.env.scope scope own) (G : CompG X.K vs g gd)
    (hg : ∀ (s : Shared) (H : Hp) (C : Addr) (cl : List (Str × Addr)) (fp : List Addr), PG (X.blk s H scope (compEnvC scope cl C X.env) fp) tg g)
    (ht : ∀ (s : Shared) (H : Hp) (C : Addr) (cl : List (Str × Addr)) (fp : List Addr), DTs (X.blk s H scope (compEnvC scope cl C X.env) fp) ifs tt)
    (he : ∀ (s : Shared) (H : Hp) (C : Addr) (cl : List (Str × Addr)) (fp : List Addr), DE (X.blk s H scope (compEnvC scope cl C X.env) fp) elt te)
    (hv : own.map (·.2) = vs := by rfl) (hs : ∀ (x : Value), foldedSetIterable iter X.env x = pure x := by intro _; rfl) : DS X (.Assign [.Name y py] (.ListComp elt [⟨tg, iter, ifs, 0⟩] scope pos) spos) (sAsg (dLc wi gd tt te vs) (gdName i)) := by
  subst hv
  exact s_setLc hc hN hy hyl hsw hi ok G hg ht he hs
end
section
variable {X : Cx} {pos : Pos} {x : Str} {p : Pos} {k : Nat} {ps : List Str} {sp : DSp} {st : Stmt} {tr : DTA}
theorem d_callCKV {n : Nat} {ks : List Str} {g : {α : Type} → List α → List α} {kws : List Keyword} (C : Cal X.prog X.w X.K X.mg X.base k x st ps sp) (hr : RoomG k X.A) (hg : Gl X x) (hb : ∀ f fd, Fun X.K x x st f fd → KB X.K fd ps ks g) (ha : DKw X kws tr) (hn : ks.length = n := by rfl)
    (hall : (backToKw pos (keywordEach kws X.env)).all (·.1.isSome) = true := by rfl) (hks : (backToKw pos (keywordEach kws X.env)).filterMap (·.1) = ks := by rfl) (hdb : (x == ("__debug__" : Str)) = false := by decide)
    (hpl : ((backTo pos (starEach [] X.env)).any (·.1) || (backToKw pos (keywordEach kws X.env)).any (·.1.isNone)) = false := by rfl) :
    DE X (.Call (.Name x p) [] kws pos) (dCallK sp n g tr) := by
  subst hn
  exact d_callCK C hr hg hb ha hall hks hdb hpl
end
end DL

namespace DL
open PySem PySem.Spec PyProof.Rows L2
section
variable {K : PySem.W.Frag} {h : Heap} {mg : Str → Option Value}
/-! ### the facts of the top -/
theorem def_mk {x : Str} {st : Stmt} {f : Addr} {oc : Value} {od an : Option Addr} {osl : Array (Option Value)} {kV doc pm cdv ct : Value} (X : K.In h) (G : h.Ns mainGlobals mg) (a : PySem.W.nsIn K mainGlobals x = some (some (.ref f)))
    (l : K.lookup f = some ⟨oc, od, .func (PySem.W.fnOf x x (defArgs st) (defBody st) (defScope st) .none kV doc pm an cdv ct), osl⟩) (c : PySem.W.codeIn K cdv x = true) (k : PySem.W.keepIn K (.ref f) = true) : DefM K mg x st :=
  ⟨⟨f, _, PySem.W.mg_of X G a, fun_mk (st := st) l c k⟩⟩
theorem kname_mk {x : Str} {ks : List Int} {ad : Addr} {es : Array DictEntry} {n : Nat} (X : K.In h) (G : h.Ns mainGlobals mg) (a : PySem.W.nsIn K mainGlobals x = some (some (.ref ad))) (l : K.lookup ad = some ⟨.type "dict", none, .dict es n, #[]⟩)
    (e : keysI es.toList ks = true) (nd : ks.Nodup) (o : (ad == sysModules) = false) : KName K mg x ks := ⟨⟨ad, PySem.W.mg_of X G a, ⟨⟨es, n, l, e⟩, nd, o⟩⟩⟩
theorem knum_mk {x : Str} {n : Int} {t : Nat} (X : K.In h) (G : h.Ns mainGlobals mg) (a : PySem.W.nsIn K mainGlobals x = some (some (.int n t))) : KNum mg x n := ⟨⟨t, PySem.W.mg_of X G a⟩⟩
end
theorem Cal.never {P : Program} {w : World} {K : PySem.W.Frag} {mg : Str → Option Value} {base : Heap} {k : Nat} {x : Str} {st : Stmt} {ps : List Str} (D : DefM K mg x st) : Cal P w K mg base k x st ps (fun _ _ _ => False) := by
  obtain ⟨f, fd, m, F⟩ := D.ex
  exact ⟨f, fd, ⟨fun _ _ _ h => h.elim, fun _ _ _ _ _ _ _ _ _ _ _ _ _ _ _ _ _ h _ => h.elim⟩, m, F⟩
theorem bl_mk {K : PySem.W.Frag} {h : Heap} {mg : Str → Option Value} (X : K.In h) (G : h.Ns mainGlobals mg)
    (b_isinstance : PySem.W.nsIn K mainGlobals "isinstance" = some none) (b_int : PySem.W.nsIn K mainGlobals "int" = some none) (b_bool : PySem.W.nsIn K mainGlobals "bool" = some none) (b_str : PySem.W.nsIn K mainGlobals "str" = some none) (b_tuple : PySem.W.nsIn K mainGlobals "tuple" = some none) (b_list : PySem.W.nsIn K mainGlobals "list" = some none) (b_dict : PySem.W.nsIn K mainGlobals "dict" = some none) (b_len : PySem.W.nsIn K mainGlobals "len" = some none) (b_all : PySem.W.nsIn K mainGlobals "all" = some none) (b_any : PySem.W.nsIn K mainGlobals "any" = some none) (b_sum : PySem.W.nsIn K mainGlobals "sum" = some none) (b_abs : PySem.W.nsIn K mainGlobals "abs" = some none) (b_max : PySem.W.nsIn K mainGlobals "max" = some none) (b_min : PySem.W.nsIn K mainGlobals "min" = some none) (b_repr : PySem.W.nsIn K mainGlobals "repr" = some none) (b_range : PySem.W.nsIn K mainGlobals "range" = some none) (b_enumerate : PySem.W.nsIn K mainGlobals "enumerate" = some none) (b_zip : PySem.W.nsIn K mainGlobals "zip" = some none) (b_reversed : PySem.W.nsIn K mainGlobals "reversed" = some none) (b_sorted : PySem.W.nsIn K mainGlobals "sorted" = some none) (b_set : PySem.W.nsIn K mainGlobals "set" = some none) : Bl mg := ⟨PySem.W.mg_none_of X G b_isinstance, PySem.W.mg_none_of X G b_int, PySem.W.mg_none_of X G b_bool, PySem.W.mg_none_of X G b_str, PySem.W.mg_none_of X G b_tuple, PySem.W.mg_none_of X G b_list, PySem.W.mg_none_of X G b_dict, PySem.W.mg_none_of X G b_len, PySem.W.mg_none_of X G b_all, PySem.W.mg_none_of X G b_any, PySem.W.mg_none_of X G b_sum, PySem.W.mg_none_of X G b_abs, PySem.W.mg_none_of X G b_max, PySem.W.mg_none_of X G b_min, PySem.W.mg_none_of X G b_repr, PySem.W.mg_none_of X G b_range, PySem.W.mg_none_of X G b_enumerate, PySem.W.mg_none_of X G b_zip, PySem.W.mg_none_of X G b_reversed, PySem.W.mg_none_of X G b_sorted, PySem.W.mg_none_of X G b_set⟩
end DL

namespace DL
open PySem PySem.Spec PyProof.Rows L2

/-! ### dict cells: ints to ints -/
def tget (t : List (Int × Int)) (k : Int) : Option Int := (t.find? fun p => decide (p.1 = k)).map (·.2)
def tput (t : List (Int × Int)) (k v : Int) : List (Int × Int) := if (t.any fun p => decide (p.1 = k)) = true then t.map (fun p => if p.1 = k then (p.1, v) else p) else t ++ [(k, v)]
def tbl (t : List (Int × Int)) : Cell := .dct (t.map fun p => ((Sum.inl p.1 : Key), PyData.int p.2))
def vt (t : List (Int × Int)) : List (Key × V) := t.map fun p => ((Sum.inl p.1 : Key), V.int p.2)
theorem pairs_eq {α β : Type} : ∀ {xs ys : List (α × β)}, xs.map (·.1) = ys.map (·.1) → xs.map (·.2) = ys.map (·.2) → xs = ys
  | [], [], _, _ => rfl
  | [], _ :: _, h, _ => by simp at h
  | _ :: _, [], h, _ => by simp at h
  | x :: xs, y :: ys, h1, h2 => by
    simp only [List.map_cons, List.cons.injEq] at h1 h2
    rw [pairs_eq h1.2 h2.2, Prod.ext h1.1 h2.1]
theorem tbl_v {K : PySem.W.Frag} {μ : Mu} {H : Hp} {a : Addr} {t : List (Int × Int)} (h : CellOk K μ H a (tbl t)) : H a = some (.dK (vt t)) := by
  obtain ⟨ks, h1, h2, h3⟩ := h
  have e : ((t.map fun p => ((Sum.inl p.1 : Key), PyData.int p.2)).map (·.2)) = (t.map (·.2)).map PyData.int := by simp [Function.comp_def]
  rw [e] at h3
  have e3 := h3.ints_inv
  have : ks = vt t := pairs_eq (by rw [h2]; simp [vt, Function.comp_def]) (by rw [e3]; simp [vt, Function.comp_def])
  rw [h1, this]
theorem v_tbl {K : PySem.W.Frag} {μ : Mu} {H : Hp} {a : Addr} {t : List (Int × Int)} (h : H a = some (.dK (vt t))) : CellOk K μ H a (tbl t) := by
  refine ⟨vt t, h, by simp [vt, Function.comp_def], ?_⟩
  have e : ((t.map fun p => ((Sum.inl p.1 : Key), PyData.int p.2)).map (·.2)) = (t.map (·.2)).map PyData.int := by simp [Function.comp_def]
  have e2 : (vt t).map (·.2) = (t.map (·.2)).map V.int := by simp [vt, Function.comp_def]
  rw [e, e2]
  exact DaAll.ints _
theorem inl_eq {a b : Int} : ((Sum.inl a : Key) = Sum.inl b) ↔ a = b := ⟨fun h => Sum.inl.inj h, fun h => by rw [h]⟩
theorem vt_val {t : List (Int × Int)} {k : Int} : valV (vt t) (Sum.inl k : Key) = (tget t k).map V.int := by
  unfold valV tget vt
  induction t with
  | nil => rfl
  | cons p t ih =>
    simp only [List.map_cons, List.find?_cons, inl_eq]
    by_cases h : p.1 = k
    · simp [h]
    · simp only [h, decide_false]
      exact ih
theorem vt_put {t : List (Int × Int)} {k v : Int} : putK (vt t) (Sum.inl k : Key) (V.int v) = vt (tput t k v) := by
  unfold putK tput vt
  have e : ((t.map fun p => ((Sum.inl p.1 : Key), V.int p.2)).any fun kv => decide (kv.1 = (Sum.inl k : Key))) = t.any fun p => decide (p.1 = k) := by
    rw [List.any_map]
    congr 1
    funext p
    simp [inl_eq]
  rw [e]
  by_cases h : (t.any fun p => decide (p.1 = k)) = true
  · rw [if_pos h, if_pos h, List.map_map, List.map_map]
    congr 1
    funext p
    simp only [Function.comp, inl_eq]
    split <;> rfl
  · rw [if_neg h, if_neg h, List.map_append]; rfl
section
variable {X : Cx} {pos : Pos} {a b c e f o i : Expr} {ta tb tc te tf to ti : DT} {K : PySem.W.Frag}
/-- {} as a cell -/
def dDictC : DT := fun _ μ Q => ∀ p, μ p = none → Q (.cell p) (put μ p (tbl []))
theorem d_dictC : DE X (.Dict [] [] pos) dDictC := pe_imp pe_dnewK fun σ H Q ⟨δ, μ, Qd, rs, rm, q, w⟩ p hp =>
  w (.cell p) _ _ _ (ext_cell hp) (rm.cell hp (v_tbl (t := []) upd_same)) rfl (q p (rm.free hp))
/-- d.get(k, e), d a cell -/
def dGetC (to ti td : DT) : DT := fun δ μ Q => to δ μ fun x μ1 => match x with
  | .cell p => (∃ t, μ1 p = some (tbl t)) ∧ ti δ μ1 fun y μ2 => td δ μ2 fun z μ3 => match y, z with
    | .d (.int k), .d (.int d) => ∃ t, μ3 p = some (tbl t) ∧ Q (.d (.int ((tget t k).getD d))) μ3
    | _, _ => False
  | _ => False
theorem d_getC {apos cpos : Pos} (hu : X.A.units + 64 < cLine) (ho : DE X o to) (he : DE X e te) (hf : DE X f tf) (m : M2 X o "get" apos e f cpos := by exact ⟨rfl, rfl, rfl, rfl⟩) : DE X (.Call (.Attribute o "get" apos) [e, f] [] cpos) (dGetC to te tf) :=
  pe_imp (pe_dget2 (by omega) ho he hf m) fun σ H Q ⟨δ, μ, Qd, rs, rm, q, w⟩ => up_use rs rm q fun x μ1 v H1 e1 m1 r1 q1 => by
    split at q1
    · next p =>
      obtain ⟨⟨t, ht⟩, q1⟩ := q1
      cases (show v = .ref p from r1)
      refine ⟨p, rfl, .inl ⟨_, .inl (tbl_v (m1 p _ ht))⟩, up_use (rs.mono e1) m1 q1 fun y μ2 u H2 e2 m2 r2 q2 => up_use ((rs.mono e1).mono e2) m2 q2 fun z μ3 u3 H3 e3 m3 r3 q3 => ?_⟩
      split at q3
      · next k d =>
        obtain ⟨t3, ht3, q3⟩ := q3
        cases (show Da X.K (hid μ2 H2) u (.int k) from r2)
        cases (show Da X.K (hid μ3 H3) u3 (.int d) from r3)
        refine ⟨_, DGet.k (k := (Sum.inl k : Key)) (tbl_v (m3 p _ ht3)), ?_⟩
        rw [vt_val]
        refine w _ _ _ _ (e1.trans (e2.trans e3)) m3 ?_ q3
        cases tget t3 k with
        | none => exact Da.int _
        | some g => exact Da.int _
      · exact q3.elim
    · exact q1.elim
/-- d[k], d a cell -/
def dIxC (to ti : DT) : DT := fun δ μ Q => to δ μ fun x μ1 => ti δ μ1 fun y μ2 => match x, y with
  | .cell p, .d (.int k) => ∃ t v, μ2 p = some (tbl t) ∧ tget t k = some v ∧ Q (.d (.int v)) μ2
  | _, _ => False
theorem d_ixC (hu : X.A.units + 64 < cLine) (ho : DE X o to) (hi : DE X i ti) (hs : NoSl i := by exact fun _ _ => rfl) : DE X (.Subscript o i pos) (dIxC to ti) :=
  pe_imp (pe_dget (by omega) ho hi hs) fun σ H Q ⟨δ, μ, Qd, rs, rm, q, w⟩ => up_use rs rm q fun x μ1 v H1 e1 m1 r1 q1 => up_use (rs.mono e1) m1 q1 fun y μ2 u H2 e2 m2 r2 q2 => by
    split at q2
    · next p k =>
      obtain ⟨t, z, ht, hz, q2⟩ := q2
      cases (show v = .ref p from r1)
      cases (show Da X.K (hid μ2 H2) u (.int k) from r2)
      have g := DGet.k (k := (Sum.inl k : Key)) (tbl_v (m2 p _ ht))
      rw [vt_val, hz] at g
      exact ⟨p, .int z, rfl, g, w (.d (.int z)) μ2 _ H2 (e1.trans e2) m2 (Da.int _) q2⟩
    · exact q2.elim
/-- d[k] = v, d a cell -/
def rdSetD : DV → DV → DV → Mu → (Mu → Prop) → Prop := fun o i v μ Q => match o, i, v with
  | .cell p, .d (.int k), .d (.int x) => ∃ t, μ p = some (tbl t) ∧ t.length < 900000 ∧ Q (put μ p (tbl (tput t k x)))
  | _, _, _ => False
theorem g_subD (hu : X.A.units + 64 < cLine) (ho : DE X o to) (hi : DE X b ti)
    (ha : ∀ v, assign (.Subscript o b pos) X.env v = (do
      let ov ← holding [v] (eval o X.env)
      let iv ← holding [v, ov] (eval b X.env)
      standAt pos
      holding [v, ov, iv] (setItem ov iv v)
      release [v, ov, iv] []) := by intro _; rfl) : DG X (.Subscript o b pos) (gdSub to ti rdSetD) :=
  pg_imp (pg_sub ho hi (set_dict (by omega)) ha) fun v σ H Q ⟨δ, μ, d, Qd, rs, rm, r, q, w⟩ =>
    up_use rs rm q fun x μ1 ov H1 e1 m1 r1 q1 => up_use (rs.mono e1) m1 q1 fun y μ2 iv H2 e2 m2 r2 q2 => by
      unfold rdSetD at q2
      split at q2
      · next p k z =>
        obtain ⟨t, ht, hl, q2⟩ := q2
        cases (show ov = .ref p from r1)
        cases (show Da X.K (hid μ2 H2) iv (.int k) from r2)
        cases (show Da X.K (hid μ H) v (.int z) from r)
        have hH := tbl_v (m2 p _ ht)
        refine ⟨p, _, rfl, DPut.k (k := (Sum.inl k : Key)) (v := .int z) hH ?_, ?_⟩
        · simp only [vt, List.length_map]; exact Nat.lt_of_lt_of_le hl (by decide)
        · rw [vt_put]
          have e12 := e1.trans (e2.trans (ext_write (p := p) (o := .dK (vt (tput t k z))) (c := tbl (tput t k z)) ht))
          exact w δ _ σ _ e12 (m2.write ht (v_tbl upd_same)) (rs.mono e12) q2
      · exact q2.elim
end

/-! ### sorted(d) of int keys, any number -/
theorem call_sortedK {X : Cx} (hcalm : X.calm = true) : CallR X (.builtin "sorted") (fun xs H Q => ∃ (a : Addr) (kvs : List (Key × V)) (ks : List Int), xs = [.ref a] ∧ Rd H a (.dK kvs) ∧ kvs.map (·.1) = ks.map Sum.inl ∧ ks.length ≤ sizeLine ∧
    ∀ (ys : List Int) (p : Addr), ys.Perm ks → ys.Pairwise (· ≤ ·) → H p = none → Q (.ref p) (upd H p (.lst (ys.map V.int)))) := by
  intro pins s σ H xs us Q I r q
  obtain ⟨a, kvs, ks, ex, hd, hks, h64, q⟩ := q
  subst ex
  obtain ⟨u, eu, rx⟩ := vals1 r
  subst eu
  cases rx
  obtain ⟨z, lo, vs, rel, dd⟩ := dk_rd I.hok hd
  obtain ⟨ep, hat⟩ := dd.dictAt
  have hkeys : vs.map (·.1) = ks.map Sum.inl := rel.keys.symm.trans hks
  have hl : vs.length = ks.length := by simpa using congrArg List.length hkeys
  refine Calls.call_function_entry kind_sorted plain_sorted entry_sorted (args_sorted1 _) ?_
  unfold Builtin.«sorted»
  refine wpAny_bind (m := checkCount "sorted" 1 1 _) (wpAny_pure ?_)
  refine wpAny_bind (PySem.W.kdu_collect (A := X.A.in1) (PySem.W.kdl_dict (knd := mixKind X.prog X.w) (kvs := vs) (ep := ep) lo) (I.ok.hd hcalm) hat (by rw [hl]; exact h64) fun h' tk acc hk hacc => ?_)
  have hal : acc.toList.length = ks.length := by rw [Array.length_toList, hacc.1, hl]
  have hS : IntsAre acc.toList ks := ints_each hal fun j v e => by
    obtain ⟨k, x, e1, e2⟩ := hacc.2 j v (by rw [← Array.getElem?_toList]; exact e)
    have e3 : (vs.map (·.1))[j]? = some k := by rw [List.getElem?_map, e1]; rfl
    rw [hkeys, List.getElem?_map] at e3
    cases e4 : ks[j]? with
    | none => rw [e4] at e3; cases e3
    | some y =>
      rw [e4] at e3
      cases (Option.some.inj e3 : Sum.inl y = k)
      rcases keyIs_shape (show keyIs (Sum.inl y) v = true from e2) with ⟨i, t, ek, ev⟩ | ⟨z, t, ek, ev⟩
      · cases ek
        exact ⟨y, t, rfl, ev⟩
      · cases ek
  have I1 : Inv X pins σ H { s with heap := h', toks := tk } := I.kept hk
  refine wpAny_bind (wpAny_newList ?_ (by rw [hal]; exact h64))
  have hoL : (h'.push (seqObj "list" acc.toList.toArray 0)).get? h'.objs.size = some (seqObj "list" acc.toList.toArray 0) := Heap.get?_push_size _ rfl
  show wpAny _ _ _ _ _ { s with heap := h'.push (seqObj "list" acc.toList.toArray 0), toks := tk }
  refine wpAny_bind (wpAny_holding (wpAny_call_entry slot_list_sort ⟨_, hoL, rfl⟩ entry_list_sort
    (SrtO.list_sort_ord (s := { s with heap := h'.push (seqObj "list" acc.toList.toArray 0), toks := tk }) SrtO.swo_int hoL (by rw [hal]; exact h64) (fun h2 => SrtO.ints_sortable hS h2) fun out h1 h2 => ⟨.none, rfl, ?_⟩) (args_list_sort _)))
  obtain ⟨k1, k2, k3⟩ := SrtO.ints_out hS h1 h2
  obtain ⟨e', he'⟩ := sortedHeap_at (vs := acc.toList) (out := out.toArray) hoL
  have hlen : ((out.map SrtO.iv).map V.int).length ≤ sizeLine := by
    rw [List.length_map, k2.length_eq]; exact h64
  refine wpAny_pure ⟨_, rfl, .ref h'.objs.size, upd H h'.objs.size (.lst ((out.map SrtO.iv).map V.int)), I1.laid (t' := tk) (fun b u e => ?_) (Nat.le_refl _)
    (show ObjOk X.prog X.w _ _ _ (.lst ((out.map SrtO.iv).map V.int)) from ⟨hlen, out, e', vals_of_ints k1, he'⟩), rfl, q _ _ k2 k3 (I1.hok.fresh (Nat.le_refl _))⟩
  have hb : b < h'.objs.size := Heap.lt_size e
  rw [sortedHeap_old (Nat.ne_of_lt hb) (by rw [size_push']; exact Nat.lt_succ_of_lt hb)]
  exact Heap.get?_push_of_some _ e
def rdSortD : DRA := fun ds μ Q => match ds with
  | [.cell p] => ∃ t, μ p = some (tbl t) ∧ t.length ≤ 900000 ∧ ∀ ys : List Int, ys.Perm (t.map (·.1)) → ys.Pairwise (· ≤ ·) → Q (.d (.list (ys.map .int))) μ
  | _ => False
theorem u_sortD {K : PySem.W.Frag} : UpA K rdSortD (fun xs H Q => ∃ (a : Addr) (kvs : List (Key × V)) (ks : List Int), xs = [.ref a] ∧ Rd H a (.dK kvs) ∧ kvs.map (·.1) = ks.map Sum.inl ∧ ks.length ≤ sizeLine ∧
    ∀ (ys : List Int) (p : Addr), ys.Perm ks → ys.Pairwise (· ≤ ·) → H p = none → Q (.ref p) (upd H p (.lst (ys.map V.int)))) := fun ds μ Qd vs H Q m r q w => by
  unfold rdSortD at q
  split at q
  · next p =>
    obtain ⟨t, ht, hl, q⟩ := q
    cases r with
    | cons r t0 =>
      cases t0
      cases (show _ = V.ref p from r)
      refine ⟨p, vt t, t.map (·.1), rfl, .inl (tbl_v (m p _ ht)), by simp [vt, Function.comp_def], by rw [List.length_map]; exact Nat.le_trans hl (by decide), fun ys a hp hs ha => ?_⟩
      exact w (.d (.list (ys.map .int))) μ _ _ (ext_new ha) (m.new ha) (.lst (.of (by rw [hid_new m ha])) (DaAll.ints ys)) (q ys hp hs)
  · exact q.elim
end DL

namespace DL
open PySem PySem.Spec PyProof.Rows L2
section
variable {X : Cx} {pos : Pos} {a b c e f o i tg : Expr} {ta tb tc te tf to ti : DT} {K : PySem.W.Frag}
/-! ### more of ints -/
def rdShr : DR2 := rdI (fun _ j => 0 ≤ j) fun i j => .int (i / 2 ^ j.toNat)
theorem d_shr (ha : DE X a ta) (hb : DE X b tb) : DE X (.BinOp a .RShift b pos) (dOp rdShr ta tb) := d_op op_shr (up_I fun _ _ _ => .int _) ha hb
def rdBand : DR2 := rdI0 fun i j => .int (Builtin.bitAnd i j)
theorem d_band (ha : DE X a ta) (hb : DE X b tb) : DE X (.BinOp a .BitAnd b pos) (dOp rdBand ta tb) := d_op op_and (up_I0 fun _ _ _ => .int _) ha hb
theorem band1 (n : Nat) : Builtin.bitAnd (n : Int) 1 = ((n % 2 : Nat) : Int) := by
  rw [bitAnd_m1]
  omega
def rdBitl : DR1 := rdU fun i => .int (Builtin.Int.intBits i : Nat)
theorem d_bitl {apos : Pos} (ho : DE X o to) (hbase : attributeBase o "bit_length" X.env (eval o X.env) = eval o X.env := by rfl) (hline : (apos.endLine == pos.line) = true := by rfl) : DE X (.Call (.Attribute o "bit_length" apos) [] [] pos) (dUn rdBitl to) :=
  pe_imp (pe_bits ho hbase hline) fun σ H Q ⟨δ, μ, Qd, rs, rm, q, w⟩ => up_use rs rm q fun x μ1 v H1 e1 m1 r1 q1 => by
    unfold rdBitl rdU at q1
    split at q1
    · next i =>
      cases (show Da X.K (hid μ1 H1) v (.int i) from r1)
      exact ⟨i, rfl, w (.d (.int _)) μ1 _ H1 e1 m1 (Da.int _) q1⟩
    · exact q1.elim
/-! ### reversed(range(n)) -/
def downD (n : Nat) : List PyData := (List.range n).map fun (i : Nat) => .int ((n : Int) - 1 - (i : Int))
theorem downD_get {n i : Nat} : (downD n)[i]? = if i < n then some (.int ((n : Int) - 1 - (i : Int))) else none := by
  unfold downD
  by_cases h : i < n
  · rw [if_pos h]; simp [List.getElem?_map, h]
  · rw [if_neg h]; simp [List.getElem?_map, h]
theorem walk_down {μ : Mu} {H : Hp} {n : Nat} {lo : Int} (hlo : lo = (n : Int) - 1) : Walk K μ H (Itc lo (-1) n) (downD n) := fun i μ' H' e m => by
  rw [downD_get]
  by_cases h : i < n
  · rw [if_pos h]
    refine ⟨fun d hd => ⟨h, fun x H2 ⟨e1, e2⟩ => ?_⟩, fun z => by cases z⟩
    cases hd
    subst e1; subst e2
    rw [show lo + (i : Nat) * (-1 : Int) = (n : Int) - 1 - (i : Int) by omega]
    exact ⟨.refl _ _, m, .int _⟩
  · rw [if_neg h]
    exact ⟨fun d hd => (by cases hd), fun _ => Nat.le_of_not_lt h⟩
def dwDown (te : DT) : DTI := fun δ μ Q => te δ μ fun x μ1 => match x with
  | .d (.int j) => (-(2 ^ 62) ≤ j ∧ j < 2 ^ 62) ∧ Q (downD j.toNat) μ1
  | _ => False
theorem i_down {p p2 pos2 : Pos} (hg : Gl X "reversed") (hm : X.mg "reversed" = none) (hg2 : Gl X "range") (hm2 : X.mg "range" = none) (ha : DE X a ta) (na : starEach [a] X.env = (false, eval a X.env) :: starEach [] X.env := by rfl)
    (hs : starEach [.Call (.Name "range" p2) [a] [] pos2] X.env = (false, eval (.Call (.Name "range" p2) [a] [] pos2) X.env) :: starEach [] X.env := by rfl) :
    DI X tg (.Call (.Name "reversed" p) [.Call (.Name "range" p2) [a] [] pos2] [] pos) (dwDown ta) :=
  pi_imp (pi_revR hg hm (prg_1 hg2 hm2 ha na) hs) fun σ H R ⟨δ, μ, Qd, rs, rm, q, w⟩ => up_use rs rm q fun x μ1 v H1 e1 m1 r1 q1 => by
    split at q1
    · next j =>
      cases (show Da X.K (hid μ1 H1) v (.int j) from r1)
      refine ⟨j, rfl, by decide, by decide, q1.1.1, q1.1.2, ?_⟩
      rw [Int.sub_zero]
      exact w _ μ1 H1 _ e1 m1 (walk_down (by omega)) q1.2
    · exact q1.elim
/-! ### list(..) as a cell; repr of a cell -/
def rdListC : DRA := fun ds μ Q => match ds with
  | [.d (.list xs)] => ∀ p, μ p = none → Q (.cell p) (put μ p (.lst xs))
  | [.d (.tuple xs)] => ∀ p, μ p = none → Q (.cell p) (put μ p (.lst xs))
  | _ => False
theorem u_listC : UpA K rdListC (fun xs H Q => ∃ p ys, xs = [.ref p] ∧ (SqL K H p ys ∨ SqT K H p ys) ∧ ∀ l, H l = none → Q (.ref l) (upd H l (.lst ys))) := fun ds μ Qd vs H Q m r q w => by
  unfold rdListC at q
  split at q
  · next xs =>
    cases r with
    | cons r t0 =>
      cases t0
      cases (show Da K (hid μ H) _ (.list xs) from r) with
      | @lst p ys _ s t =>
        refine ⟨p, ys, rfl, .inl (unhid.seq s), fun l hl => w (.cell l) (put μ l (.lst xs)) _ _ (ext_cell hl) (m.cell (c := .lst xs) hl ⟨ys, upd_same, t.mono (ext_cell hl)⟩) rfl (q l (m.free hl))⟩
  · next xs =>
    cases r with
    | cons r t0 =>
      cases t0
      cases (show Da K (hid μ H) _ (.tuple xs) from r) with
      | @tup p ys _ s t =>
        refine ⟨p, ys, rfl, .inr (same_seqT unhid s), fun l hl => w (.cell l) (put μ l (.lst xs)) _ _ (ext_cell hl) (m.cell (c := .lst xs) hl ⟨ys, upd_same, t.mono (ext_cell hl)⟩) rfl (q l (m.free hl))⟩
  · exact q.elim
def rdReprC : DRA := fun ds μ Q => match ds with
  | [.cell p] => ∃ xs, μ p = some (.lst xs) ∧ Show (.list xs) ∧ Q (.d (.str (PyData.list xs).shown)) μ
  | _ => False
theorem u_reprC : UpA K rdReprC (rRepr K) := fun ds μ Qd vs H Q m r q w => by
  unfold rdReprC at q
  split at q
  · next p =>
    obtain ⟨xs, hx, hS, q⟩ := q
    cases r with
    | cons r t0 =>
      cases t0
      cases (show _ = V.ref p from r)
      obtain ⟨ys, h1, h2⟩ := m p _ hx
      exact ⟨.ref p, .list xs, rfl, .lst (.of h1) (h2.mono unhid), hS, w (.d (.str _)) μ _ H (.refl _ _) m (Da.str _) q⟩
  · exact q.elim
end
/-! ### a dict of the module, ints to tuples of ints -/
/-- the tuples that stand at the entries -/
inductive KVals (K : PySem.W.Frag) : List DictEntry → List (Int × List Int) → Prop
  | nil : KVals K [] []
  | cons {h k : Int} {tk : Tok} {es : List DictEntry} {ns : List Int} {t : List (Int × List Int)} {b : Addr} {o : Obj} {its : Array Value} {n : Nat} : h = hashInt k → K.lookup b = some o → o.cls = .type "tuple" → o.data = .seq its n → its.size ≤ 1000 → IntsAre its.toList ns → KVals K es t → KVals K (⟨h, .int k tk, .ref b⟩ :: es) ((k, ns) :: t)
structure KTup (K : PySem.W.Frag) (mg : Str → Option Value) (x : Str) (t : List (Int × List Int)) : Prop where
  ex : ∃ (ad : Addr) (es : Array DictEntry) (n : Nat), mg x = some (.ref ad) ∧ K.lookup ad = some ⟨.type "dict", none, .dict es n, #[]⟩ ∧ KVals K es.toList t ∧ (t.map (·.1)).Nodup ∧ (ad == sysModules) = false
def lkp (t : List (Int × List Int)) (k : Int) : Option (List Int) := (t.find? fun p => decide (p.1 = k)).map (·.2)
theorem KVals.use {K : PySem.W.Frag} {P : Program} {w : World} {es : List DictEntry} {t : List (Int × List Int)} (h : KVals K es t) : ∃ kvs : List (Key × Value), Pairs (mixKind P w) es kvs ∧ kvs.map (·.1) = (t.map (·.1)).map Sum.inl ∧ (∀ e ∈ es, ∃ k, (mixKind P w).is k e.key = true ∧ e.hash = (mixKind P w).hash k) ∧
    ∀ k ns, lkp t k = some ns → ∃ (b : Addr), valueAt kvs (Sum.inl k : Key) = some (.ref b) ∧ ∀ H : Hp, SqT K H b (ns.map V.int) := by
  induction h with
  | nil => exact ⟨[], .nil, rfl, fun e h => (by cases h), fun k ns e => (by simp [lkp] at e)⟩
  | @cons hh k tk es ns t b o its n h0 h1 h2 h3 h4 h5 _ ih =>
    obtain ⟨kvs, a1, a2, a3, a4⟩ := ih
    subst h0
    refine ⟨(Sum.inl k, .ref b) :: kvs, .cons (keyIs_int k tk) rfl a1, by rw [List.map_cons, List.map_cons, List.map_cons, a2], fun e he => ?_, fun k2 ns2 e => ?_⟩
    · rcases List.mem_cons.mp he with z | z
      · subst z; exact ⟨Sum.inl k, keyIs_int k tk, rfl⟩
      · exact a3 e z
    · unfold lkp at e
      rw [List.find?_cons] at e
      by_cases hk : k = k2
      · subst hk
        simp only [decide_true, Option.map_some, Option.some.injEq] at e
        subst e
        refine ⟨b, by simp [valueAt], fun H => .inr ⟨o, its, n, h1, h2, h3, Nat.le_trans h4 (by decide), vals_of_ints h5⟩⟩
      · simp only [hk, decide_false] at e
        obtain ⟨b2, c1, c2⟩ := a4 k2 ns2 e
        refine ⟨b2, ?_, c2⟩
        rw [← c1]
        unfold valueAt
        rw [List.find?_cons, decide_eq_false (show ¬ (Sum.inl k : Key) = Sum.inl k2 from fun z => hk (Sum.inl.inj z))]
/-- D[k], D such a dict -/
def dIxK (t : List (Int × List Int)) (ti : DT) : DT := fun δ μ Q => ti δ μ fun y μ1 => match y with
  | .d (.int k) => match lkp t k with
    | some ns => Q (.d (.tuple (ns.map .int))) μ1
    | none => False
  | _ => False
theorem d_ixK {X : Cx} {i : Expr} {ti : DT} {x : Str} {p pos : Pos} {t : List (Int × List Int)} (D : KTup X.K X.mg x t) (hg : Gl X x) (hi : DE X i ti) (hs : NoSl i := by exact fun _ _ => rfl) (hdb : (x == ("__debug__" : Str)) = false := by decide) :
    DE X (.Subscript (.Name x p) i pos) (dIxK t ti) := by
  obtain ⟨ad, es, n, m, l, kv, nd, low⟩ := D.ex
  obtain ⟨kvs, a1, a2, a3, a4⟩ := KVals.use (P := X.prog) (w := X.w) kv
  refine ⟨fun pins s σ H Q I ⟨δ, μ, Qd, rs, rm, q, w⟩ => ?_⟩
  refine subD_of PySem.F.slot_dict_getitem.lookup hs (thn ((pe_glob (v := .ref ad) hg m rfl hdb).run pins s σ H (fun v H1 => v = .ref ad ∧ H1 = H) I ⟨rfl, rfl⟩) fun u s1 ⟨x1, H1, I1, rx, q1⟩ => ?_)
  obtain ⟨rfl, rfl⟩ := q1
  obtain rfl : u = Value.ref ad := rx
  refine thn (hi.run pins s1 σ _ (fun y H2 => ∃ k ns μ2, y = .int k ∧ lkp t k = some ns ∧ Ext μ H1 μ2 H2 ∧ RM X.K μ2 H2 ∧ Qd (.d (.tuple (ns.map .int))) μ2) I1 (up_use rs rm q fun y μ1 v H2 e1 m1 r1 q1 => ?_)) fun iv s2 ⟨y, H2, I2, ry, k, ns, μ2, ey, el, e2, m2, q2⟩ => ?_
  · split at q1
    · next k =>
      split at q1
      · next ns e =>
        cases (show Da X.K (hid μ1 H2) v (.int k) from r1)
        exact ⟨k, ns, μ1, rfl, e, e1, m1, q1⟩
      · exact q1.elim
    · exact q1.elim
  · subst ey
    obtain ⟨tk, rfl⟩ := ry
    have dd : s2.heap.DictOf (mixKind X.prog X.w) ad kvs := ⟨_, es, n, I2.kIn _ _ l, ⟨rfl, rfl, rfl⟩, rfl, fun e he => a3 e (by simpa using he), a1, by rw [a2]; exact List.Pairwise.map _ (fun x y hxy z => hxy (Sum.inl.inj z)) nd⟩
    obtain ⟨b, c1, c2⟩ := a4 k ns el
    refine ⟨dd.typeIs, wpAny_getItem_of (mixKind_int X.prog X.w k tk) dd.mapOf c1 ?_⟩
    exact ⟨.ref b, H2, I2.tok _, rfl, w (.d (.tuple (ns.map .int))) μ2 _ H2 e2 m2 (.tup (c2 _) (DaAll.ints ns)) q2⟩
end DL

namespace DL
open PySem PySem.Spec PyProof.Rows L2
section
variable {X : Cx} {pos : Pos} {a b c : Expr} {ta tb tc : DT}
theorem up_chain {rd rd' : DR2} {rv rv' : R2} (h : Up2 X.K rd rv) (h' : Up2 X.K rd' rv') : ∀ σ H Q, up X.K (dChain rd rd' ta tb tc) σ H Q → tChain rv rv' (up X.K ta) (up X.K tb) (up X.K tc) σ H Q := fun σ H Q ⟨δ, μ, Qd, rs, rm, q, w⟩ =>
  up_use rs rm q fun x μ1 v H1 e1 m1 r1 q1 => up_use (rs.mono e1) m1 q1 fun y μ2 u H2 e2 m2 r2 q2 => h x y μ2 _ v u H2 _ m2 (r1.mono e2) r2 q2 fun z μ3 p H3 e3 m3 r3 q3 => by
    split at q3
    · cases r3
      exact ⟨true, rfl, by
        rw [if_pos rfl]
        exact up_use (rs.mono (e1.trans (e2.trans e3))) m3 q3 fun k μ4 w' H4 e4 m4 r4 q4 => h' y k μ4 Qd u w' H4 Q m4 (r2.mono (e3.trans e4)) r4 q4 (w.step (e1.trans (e2.trans (e3.trans e4))))⟩
    · cases r3
      refine ⟨false, rfl, ?_⟩
      rw [if_neg Bool.false_ne_true]
      exact w (.d (.bool false)) μ3 _ H3 (e1.trans (e2.trans e3)) m3 (Da.bl false) q3
    · exact q3.elim
theorem c_chain {op op' : CmpOp} {rd rd' : DR2} {rv rv' : R2} (ho : OpR X (compareOp op) rv) (h : Up2 X.K rd rv) (ho' : OpR X (compareOp op') rv') (h' : Up2 X.K rd' rv') (ha : DE X a ta) (hb : DE X b tb) (hc : DE X c tc) (hm : lastMarks [op, op'] [b, c] = false := by with_unfolding_all rfl) :
    DC X (.Compare a [op, op'] [b, c] pos) (dB (dChain rd rd' ta tb tc)) := pt_imp (pt_chain ho ho' ha hb hc hm) fun σ H Q ⟨δ, μ, Qd, rs, rm, q, w⟩ => up_chain h h' σ H _ ⟨δ, μ, _, rs, rm, q, fun x μ1 v H1 e1 m1 r1 q1 => by
    split at q1
    · cases r1
      exact ⟨_, rfl, w _ μ1 H1 e1 m1 q1⟩
    · exact q1.elim⟩
end
end DL

namespace RF
open DL
/-! ### terms as functions: what a rule's terms make of f -/
abbrev Tm := List (Int × Int)
def ev (l : Tm) (f : Int → Int) : Int := (l.map fun p => p.2 * f p.1).sum
theorem ev_nil {f : Int → Int} : ev [] f = 0 := rfl
theorem ev_cons {p : Int × Int} {l : Tm} {f : Int → Int} : ev (p :: l) f = p.2 * f p.1 + ev l f := by simp [ev]
theorem ev_app : ∀ {l k : Tm} {f : Int → Int}, ev (l ++ k) f = ev l f + ev k f
  | [], k, f => by simp [ev_nil]
  | p :: l, k, f => by rw [List.cons_append, ev_cons, ev_cons, ev_app, Int.add_assoc]
theorem ev_congr : ∀ {l : Tm} {f g : Int → Int}, (∀ p ∈ l, f p.1 = g p.1) → ev l f = ev l g
  | [], f, g, _ => rfl
  | p :: l, f, g, h => by rw [ev_cons, ev_cons, h p List.mem_cons_self, ev_congr fun q hq => h q (List.mem_cons_of_mem _ hq)]
theorem ev_add : ∀ {l : Tm} {f g : Int → Int}, ev l (fun x => f x + g x) = ev l f + ev l g
  | [], f, g => rfl
  | p :: l, f, g => by
    have ih := ev_add (l := l) (f := f) (g := g)
    rw [ev_cons, ev_cons, ev_cons, ih, Int.mul_add]; omega
theorem ev_mul : ∀ {l : Tm} {c : Int} {f : Int → Int}, ev l (fun x => c * f x) = c * ev l f
  | [], c, f => by simp [ev_nil]
  | p :: l, c, f => by
    have ih := ev_mul (l := l) (c := c) (f := f)
    rw [ev_cons, ev_cons, ih, Int.mul_add, Int.mul_left_comm]
theorem ev_zero : ∀ {l : Tm}, ev l (fun _ => 0) = 0
  | [] => rfl
  | p :: l => by rw [ev_cons, ev_zero]; simp
theorem ev_swap : ∀ {a b : Tm} {f : Int → Int → Int}, ev a (fun p => ev b (fun q => f p q)) = ev b (fun q => ev a (fun p => f p q))
  | [], b, f => by simp only [ev_nil]; exact ev_zero.symm
  | p :: a, b, f => by
    simp only [ev_cons]
    rw [ev_swap (a := a), ev_add, ev_mul]
/-! ### alike modulo m -/
def Md (m a b : Int) : Prop := m ∣ a - b
theorem Md.refl {m a : Int} : Md m a a := ⟨0, by simp⟩
theorem Md.of {m a b : Int} (h : a = b) : Md m a b := h ▸ Md.refl
theorem Md.symm {m a b : Int} : Md m a b → Md m b a := fun ⟨k, h⟩ => ⟨-k, by rw [Int.mul_neg]; omega⟩
theorem Md.trans {m a b c : Int} : Md m a b → Md m b c → Md m a c := fun ⟨k, h⟩ ⟨l, g⟩ => ⟨k + l, by rw [Int.mul_add]; omega⟩
theorem Md.add {m a b c d : Int} : Md m a b → Md m c d → Md m (a + c) (b + d) := fun ⟨k, h⟩ ⟨l, g⟩ => ⟨k + l, by rw [Int.mul_add]; omega⟩
theorem Md.mul {m a b c : Int} : Md m a b → Md m (c * a) (c * b) := fun ⟨k, h⟩ => ⟨c * k, by rw [← Int.mul_sub, h, Int.mul_left_comm]⟩
theorem Md.mulr {m a b c : Int} : Md m a b → Md m (a * c) (b * c) := fun h => by rw [Int.mul_comm a, Int.mul_comm b]; exact h.mul
theorem Md.rest {m a : Int} : Md m (a % m) a := ⟨-(a / m), by have := Int.mul_ediv_add_emod a m; rw [Int.mul_neg]; omega⟩
theorem Md.eq {m a b : Int} (h : Md m a b) (ha : 0 ≤ a) (ha2 : a < m) (hb : 0 ≤ b) (hb2 : b < m) : a = b := by
  have e := Int.emod_emod_of_dvd a (Int.dvd_refl m)
  have h2 := Int.emod_eq_emod_iff_emod_sub_eq_zero.mpr (Int.emod_eq_zero_of_dvd h)
  rw [Int.emod_eq_of_lt ha ha2, Int.emod_eq_of_lt hb hb2] at h2
  exact h2
theorem ev_md {m : Int} : ∀ {l : Tm} {f g : Int → Int}, (∀ x, Md m (f x) (g x)) → Md m (ev l f) (ev l g)
  | [], f, g, _ => .refl
  | p :: l, f, g, h => by rw [ev_cons, ev_cons]; exact (h _).mul.add (ev_md h)
/-! ### canonical terms -/
structure Cn (m : Int) (r : Tm) : Prop where
  so : r.Pairwise fun a b => a.1 < b.1
  vl : ∀ p ∈ r, 0 < p.2 ∧ p.2 < m
def ind (x : Int) : Int → Int := fun y => if y = x then 1 else 0
theorem co_not : ∀ {r : Tm} {x : Int}, (∀ p ∈ r, p.1 ≠ x) → ev r (ind x) = 0
  | [], x, _ => rfl
  | p :: r, x, h => by
    rw [ev_cons, co_not fun q hq => h q (List.mem_cons_of_mem _ hq)]
    simp [ind, h p List.mem_cons_self]
theorem co_mem : ∀ {r : Tm} {x v : Int}, r.Pairwise (fun a b => a.1 < b.1) → (x, v) ∈ r → ev r (ind x) = v
  | p :: r, x, v, h, hm => by
    rw [List.pairwise_cons] at h
    rw [ev_cons]
    rcases List.mem_cons.mp hm with e | hm
    · subst e
      rw [co_not fun q hq => by have := h.1 q hq; dsimp only at this; omega]
      simp [ind]
    · have := h.1 _ hm
      rw [co_mem h.2 hm]
      have : p.1 ≠ x := by dsimp only at this; omega
      simp [ind, this]
theorem sorted_ext : ∀ {r s : Tm}, r.Pairwise (fun a b => a.1 < b.1) → s.Pairwise (fun a b => a.1 < b.1) → (∀ p, p ∈ r ↔ p ∈ s) → r = s
  | [], [], _, _, _ => rfl
  | [], b :: s, _, _, h => absurd ((h b).mpr List.mem_cons_self) (by simp)
  | a :: r, [], _, _, h => absurd ((h a).mp List.mem_cons_self) (by simp)
  | a :: r, b :: s, h1, h2, h => by
    rw [List.pairwise_cons] at h1 h2
    have e : a = b := by
      rcases List.mem_cons.mp ((h a).mp List.mem_cons_self) with e | m1
      · exact e
      · rcases List.mem_cons.mp ((h b).mpr List.mem_cons_self) with e | m2
        · exact e.symm
        · have := h2.1 _ m1
          have := h1.1 _ m2
          omega
    subst e
    refine congrArg (a :: ·) (sorted_ext h1.2 h2.2 fun p => ⟨fun hp => ?_, fun hp => ?_⟩)
    · rcases List.mem_cons.mp ((h p).mp (List.mem_cons_of_mem _ hp)) with e | m1
      · subst e; have := h1.1 _ hp; omega
      · exact m1
    · rcases List.mem_cons.mp ((h p).mpr (List.mem_cons_of_mem _ hp)) with e | m1
      · subst e; have := h2.1 _ hp; omega
      · exact m1
theorem co_cases {m : Int} {r : Tm} (c : Cn m r) (hm : 0 < m) (x : Int) : 0 ≤ ev r (ind x) ∧ ev r (ind x) < m ∧ (ev r (ind x) ≠ 0 → (x, ev r (ind x)) ∈ r) := by
  by_cases h : ∃ p ∈ r, p.1 = x
  · obtain ⟨p, hp, rfl⟩ := h
    have e := co_mem c.so (x := p.1) (v := p.2) hp
    have v := c.vl p hp
    rw [e]
    exact ⟨by omega, v.2, fun _ => hp⟩
  · have e := co_not (r := r) (x := x) fun p hp z => h ⟨p, hp, z⟩
    rw [e]
    exact ⟨by omega, hm, fun z => absurd rfl z⟩
theorem Cn.sub {m : Int} {r s : Tm} (c : Cn m r) (d : Cn m s) (hm : 0 < m) (h : ∀ f, Md m (ev r f) (ev s f)) : ∀ p, p ∈ r → p ∈ s := fun ⟨x, v⟩ hp => by
  have e := co_mem c.so hp
  have v1 := c.vl _ hp
  dsimp only at v1
  obtain ⟨s1, s2, s3⟩ := co_cases d hm x
  have e2 := (h (ind x)).eq (by omega) (by omega) s1 s2
  have := s3 (by omega)
  rw [← e2, e] at this
  exact this
theorem Cn.uniq {m : Int} {r s : Tm} (c : Cn m r) (d : Cn m s) (hm : 0 < m) (h : ∀ f, Md m (ev r f) (ev s f)) : r = s :=
  sorted_ext c.so d.so fun p => ⟨c.sub d hm h p, d.sub c hm (fun f => (h f).symm) p⟩
/-! ### sums, products, powers -/
def IsS (m : Int) (a b r : Tm) : Prop := Cn m r ∧ ∀ f, Md m (ev r f) (ev a f + ev b f)
def IsP (m : Int) (a b r : Tm) : Prop := Cn m r ∧ ∀ f, Md m (ev r f) (ev a fun p => ev b fun q => f (p + q))
def pev (a : Tm) : Nat → (Int → Int) → Int
  | 0, f => f 0
  | n + 1, f => pev a n fun p => ev a fun q => f (p + q)
def IsW (m : Int) (a : Tm) (n : Nat) (r : Tm) : Prop := Cn m r ∧ ∀ f, Md m (ev r f) (pev a n f)
theorem IsS.uniq {m : Int} {a b r s : Tm} (hm : 0 < m) (h : IsS m a b r) (g : IsS m a b s) : r = s := h.1.uniq g.1 hm fun f => (h.2 f).trans (g.2 f).symm
theorem IsS.comm {m : Int} {a b r : Tm} (h : IsS m a b r) : IsS m b a r := ⟨h.1, fun f => by rw [Int.add_comm]; exact h.2 f⟩
theorem IsP.uniq {m : Int} {a b r s : Tm} (hm : 0 < m) (h : IsP m a b r) (g : IsP m a b s) : r = s := h.1.uniq g.1 hm fun f => (h.2 f).trans (g.2 f).symm
theorem IsP.comm {m : Int} {a b r : Tm} (h : IsP m a b r) : IsP m b a r := ⟨h.1, fun f => by
  refine (h.2 f).trans (.of ?_)
  rw [ev_swap]
  exact ev_congr fun p _ => ev_congr fun q _ => by rw [Int.add_comm]⟩
theorem IsW.uniq {m : Int} {a r s : Tm} {n : Nat} (hm : 0 < m) (h : IsW m a n r) (g : IsW m a n s) : r = s := h.1.uniq g.1 hm fun f => (h.2 f).trans (g.2 f).symm
theorem pev_congr {a : Tm} : ∀ {n : Nat} {f g : Int → Int}, (∀ x, f x = g x) → pev a n f = pev a n g := fun {n f g} h => by rw [show f = g from funext h]
theorem pev_md {m : Int} {a : Tm} : ∀ {n : Nat} {f g : Int → Int}, (∀ x, Md m (f x) (g x)) → Md m (pev a n f) (pev a n g)
  | 0, f, g, h => h 0
  | n + 1, f, g, h => pev_md (n := n) fun p => ev_md fun q => h (p + q)
theorem pev_add {a : Tm} {i : Nat} : ∀ {j : Nat} {f : Int → Int}, pev a (i + j) f = pev a i fun p => pev a j fun q => f (p + q)
  | 0, f => pev_congr fun x => by simp [pev]
  | j + 1, f => by
    show pev a (i + j) (fun p => ev a fun q => f (p + q)) = _
    rw [pev_add]
    refine pev_congr fun p => ?_
    show _ = pev a j fun s => ev a fun q => f (p + (s + q))
    exact pev_congr fun s => ev_congr fun q _ => by rw [Int.add_assoc]
theorem IsW.zero {m : Int} {a : Tm} (hm : 1 < m) : IsW m a 0 [(0, 1)] := ⟨⟨by simp, by simpa using hm⟩, fun f => .of (by simp [ev_cons, ev_nil, pev])⟩
theorem IsW.one {m : Int} {a : Tm} (c : Cn m a) : IsW m a 1 a := ⟨c, fun f => .of (by
  show _ = ev a fun q => f (0 + q)
  exact ev_congr fun q _ => by rw [Int.zero_add])⟩
theorem IsW.mul {m : Int} {a r s u : Tm} {i j : Nat} (h : IsW m a i r) (g : IsW m a j s) (k : IsP m r s u) : IsW m a (i + j) u := ⟨k.1, fun f => by
  refine (k.2 f).trans ?_
  rw [pev_add]
  exact (ev_md fun p => g.2 _).trans (h.2 _)⟩
theorem pev_pow {m : Int} {a r : Tm} {i : Nat} (h : IsW m a i r) : ∀ {j : Nat} {f : Int → Int}, Md m (pev r j f) (pev a (i * j) f)
  | 0, f => .refl
  | j + 1, f => by
    show Md m (pev r j fun p => ev r fun q => f (p + q)) _
    refine (pev_pow h).trans ?_
    rw [Nat.mul_succ, pev_add]
    exact pev_md fun p => h.2 _
theorem IsW.pow {m : Int} {a r s : Tm} {i j : Nat} (h : IsW m a i r) (g : IsW m r j s) : IsW m a (i * j) s := ⟨g.1, fun f => (g.2 f).trans (pev_pow h)⟩
/-! ### how wide -/
def Wd (A : Nat) (r : Tm) : Prop := ∀ p ∈ r, p.1.natAbs ≤ A
theorem Wd.mono {A B : Nat} {r : Tm} (h : Wd A r) (hl : A ≤ B) : Wd B r := fun p hp => Nat.le_trans (h p hp) hl
theorem wd_of {m : Int} {r : Tm} {A : Nat} (c : Cn m r) (h : ∀ x : Int, A < x.natAbs → Md m (ev r (ind x)) 0) : Wd A r := fun p hp => by
  rcases Nat.lt_or_ge A p.1.natAbs with hlt | hle
  · have e := co_mem c.so (x := p.1) (v := p.2) hp
    have v := c.vl p hp
    have := (h p.1 hlt).eq (by omega) (by omega) (by omega) (by omega)
    omega
  · exact hle
theorem ev_off {a : Tm} {A : Nat} {f : Int → Int} (w : Wd A a) (h : ∀ y : Int, y.natAbs ≤ A → f y = 0) : ev a f = 0 := by
  rw [ev_congr (g := fun _ => 0) fun p hp => h _ (w p hp)]; exact ev_zero
theorem ind_ne {x y : Int} (h : y ≠ x) : ind x y = 0 := by simp [ind, h]
theorem IsS.wd {m : Int} {a b r : Tm} {A : Nat} (h : IsS m a b r) (wa : Wd A a) (wb : Wd A b) : Wd A r := wd_of h.1 fun x hx => by
  refine (h.2 _).trans (.of ?_)
  rw [ev_off wa fun y hy => ind_ne (by omega), ev_off wb fun y hy => ind_ne (by omega)]; rfl
theorem IsP.wd {m : Int} {a b r : Tm} {A B : Nat} (h : IsP m a b r) (wa : Wd A a) (wb : Wd B b) : Wd (A + B) r := wd_of h.1 fun x hx =>
  (h.2 _).trans (.of (ev_off wa fun y hy => ev_off wb fun z hz => ind_ne (by omega)))
theorem pev_off {a : Tm} {A : Nat} (w : Wd A a) : ∀ {n : Nat} {f : Int → Int}, (∀ y : Int, y.natAbs ≤ n * A → f y = 0) → pev a n f = 0
  | 0, f, h => h 0 (by simp)
  | n + 1, f, h => pev_off w (n := n) fun y hy => ev_off w fun z hz => h _ (by rw [Nat.succ_mul]; omega)
theorem IsW.wd {m : Int} {a r : Tm} {A n : Nat} (h : IsW m a n r) (wa : Wd A a) : Wd (n * A) r := wd_of h.1 fun x hx =>
  (h.2 _).trans (.of (pev_off wa fun y hy => ind_ne (by omega)))
theorem len_of : ∀ {r : Tm} {lo hi : Int}, r.Pairwise (fun a b => a.1 < b.1) → (∀ p ∈ r, lo ≤ p.1 ∧ p.1 ≤ hi) → (r.length : Int) ≤ max 0 (hi - lo + 1)
  | [], lo, hi, _, _ => by simp only [List.length_nil]; omega
  | p :: r, lo, hi, h, w => by
    rw [List.pairwise_cons] at h
    have hp := w p List.mem_cons_self
    have := len_of (lo := p.1 + 1) (hi := hi) h.2 fun q hq => ⟨by have := h.1 q hq; omega, (w q (List.mem_cons_of_mem _ hq)).2⟩
    simp only [List.length_cons]
    omega
theorem Cn.len {m : Int} {r : Tm} {A : Nat} (c : Cn m r) (w : Wd A r) : r.length ≤ 2 * A + 1 := by
  have := len_of (lo := -(A : Int)) (hi := A) c.so fun p hp => by have := w p hp; omega
  omega
/-! ### tables -/
def ins : Tm → Int → Int → Tm
  | [], k, v => [(k, v)]
  | p :: t, k, v => if p.1 = k then (p.1, p.2 + v) :: t else p :: ins t k v
theorem tput_no {t : Tm} {k v : Int} (h : ∀ p ∈ t, p.1 ≠ k) : t.map (fun p => if p.1 = k then (p.1, v) else p) = t := by
  induction t with
  | nil => rfl
  | cons p t ih =>
    rw [List.map_cons, ih fun q hq => h q (List.mem_cons_of_mem _ hq), if_neg (h p List.mem_cons_self)]
theorem put_ins : ∀ {t : Tm} {k v : Int}, (t.map (·.1)).Nodup → tput t k ((tget t k).getD 0 + v) = ins t k v
  | [], k, v, _ => by simp [tput, tget, ins]
  | p :: t, k, v, h => by
    rw [List.map_cons, List.nodup_cons] at h
    by_cases hk : p.1 = k
    · have e1 : tget (p :: t) k = some p.2 := by simp [tget, hk]
      have e2 : ((p :: t).any fun p => decide (p.1 = k)) = true := by simp [hk]
      rw [e1]
      unfold tput ins
      rw [if_pos e2, if_pos hk, List.map_cons, if_pos hk, tput_no fun q hq z => h.1 (by rw [hk, ← z]; exact List.mem_map_of_mem hq)]
      rfl
    · have e1 : tget (p :: t) k = tget t k := by simp [tget, hk]
      have e2 : ((p :: t).any fun p => decide (p.1 = k)) = (t.any fun p => decide (p.1 = k)) := by simp [hk]
      have ih := put_ins (k := k) (v := v) h.2
      rw [e1]
      unfold ins
      rw [if_neg hk, ← ih]
      unfold tput
      rw [e2]
      split
      · rw [List.map_cons, if_neg hk]
      · rfl
theorem ins_ev : ∀ {t : Tm} {k v : Int} {f : Int → Int}, ev (ins t k v) f = ev t f + v * f k
  | [], k, v, f => by simp [ins, ev_cons, ev_nil]
  | p :: t, k, v, f => by
    unfold ins
    split
    · next h => subst h; simp only [ev_cons, Int.add_mul]; omega
    · simp only [ev_cons, ins_ev]; omega
theorem ins_len : ∀ {t : Tm} {k v : Int}, (ins t k v).length ≤ t.length + 1
  | [], k, v => by simp [ins]
  | p :: t, k, v => by
    unfold ins
    split
    · simp
    · have := ins_len (t := t) (k := k) (v := v); simp only [List.length_cons]; omega
theorem ins_key : ∀ {t : Tm} {k v x : Int}, x ∈ (ins t k v).map (·.1) → x = k ∨ x ∈ t.map (·.1)
  | [], k, v, x, h => by simpa [ins] using h
  | p :: t, k, v, x, h => by
    unfold ins at h
    split at h
    · exact .inr (by simpa using h)
    · rw [List.map_cons] at h ⊢
      rcases List.mem_cons.mp h with e | h
      · exact .inr (by rw [e]; exact List.mem_cons_self)
      · exact (ins_key h).imp id fun z => List.mem_cons_of_mem _ z
theorem ins_nd : ∀ {t : Tm} {k v : Int}, (t.map (·.1)).Nodup → ((ins t k v).map (·.1)).Nodup
  | [], k, v, _ => by simp [ins]
  | p :: t, k, v, h => by
    unfold ins
    split
    · simpa using h
    · next hk =>
      rw [List.map_cons, List.nodup_cons] at h ⊢
      exact ⟨fun z => (ins_key z).elim hk h.1, ins_nd h.2⟩
def insB (t : Tm) (p : Int × Int) (b : Tm) : Tm := b.foldl (fun t q => ins t (p.1 + q.1) (p.2 * q.2)) t
def prodT (t a b : Tm) : Tm := a.foldl (fun t p => insB t p b) t
def sumT (t l : Tm) : Tm := l.foldl (fun t p => ins t p.1 p.2) t
structure Tb (t : Tm) (n : Nat) (F : (Int → Int) → Int) : Prop where
  nd : (t.map (·.1)).Nodup
  ln : t.length ≤ n
  ev : ∀ f, ev t f = F f
theorem Tb.nil : Tb [] 0 (fun _ => 0) := ⟨by simp, by simp, fun f => rfl⟩
theorem Tb.ins {t : Tm} {n : Nat} {F : (Int → Int) → Int} (h : Tb t n F) {k v : Int} : Tb (ins t k v) (n + 1) (fun f => F f + v * f k) := ⟨ins_nd h.nd, Nat.le_trans ins_len (by have := h.ln; omega), fun f => by rw [ins_ev, h.ev]⟩
/-! ### tidy -/
def gt (t : Tm) (k : Int) : Int := (tget t k).getD 0
def tidyL (t : Tm) (m : Int) (ys : List Int) : Tm := (ys.filter fun k => decide (gt t k % m ≠ 0)).map fun k => (k, gt t k % m)
theorem perm_sum {xs ys : List Int} (h : xs.Perm ys) : xs.sum = ys.sum := by
  induction h with
  | nil => rfl
  | cons x _ ih => rw [List.sum_cons, List.sum_cons, ih]
  | swap x y l => simp only [List.sum_cons]; omega
  | trans _ _ a b => exact a.trans b
theorem gt_mem {t : Tm} (h : (t.map (·.1)).Nodup) {p : Int × Int} (hp : p ∈ t) : tget t p.1 = some p.2 := by
  induction t with
  | nil => cases hp
  | cons q t ih =>
    rw [List.map_cons, List.nodup_cons] at h
    unfold tget
    rw [List.find?_cons]
    rcases List.mem_cons.mp hp with e | hp
    · subst e; simp
    · have hne : q.1 ≠ p.1 := fun z => h.1 (by rw [z]; exact List.mem_map_of_mem hp)
      simp only [hne, decide_false]
      exact ih h.2 hp
theorem tidy_ev {t : Tm} {m : Int} {f : Int → Int} : ∀ {ys : List Int}, Md m (ev (tidyL t m ys) f) ((ys.map fun k => gt t k * f k).sum)
  | [] => .refl
  | y :: ys => by
    have ih := tidy_ev (t := t) (m := m) (f := f) (ys := ys)
    unfold tidyL at ih ⊢
    rw [List.map_cons, List.sum_cons, List.filter_cons]
    split
    · rw [List.map_cons, ev_cons]
      exact Md.rest.mulr.add ih
    · next h =>
      have h0 : gt t y % m = 0 := by simpa using h
      have : Md m 0 (gt t y * f y) := by
        have := (Md.rest (m := m) (a := gt t y)).mulr (c := f y)
        rw [h0, Int.zero_mul] at this
        exact this
      have := this.add ih
      rw [Int.zero_add] at this
      exact this
theorem tidy_ok {t : Tm} {n : Nat} {F : (Int → Int) → Int} {m : Int} {ys : List Int} (h : Tb t n F) (hm : 0 < m) (hp : ys.Perm (t.map (·.1))) (hs : ys.Pairwise (· ≤ ·)) : Cn m (tidyL t m ys) ∧ ∀ f, Md m (ev (tidyL t m ys) f) (F f) := by
  have nd : ys.Nodup := hp.nodup_iff.mpr h.nd
  have st : ys.Pairwise (· < ·) := by
    have := List.Pairwise.and hs nd
    exact this.imp fun {a b} hab => by have := hab.1; have := hab.2; omega
  refine ⟨⟨?_, fun p hq => ?_⟩, fun f => ?_⟩
  · unfold tidyL
    rw [List.pairwise_map]
    exact st.filter _
  · unfold tidyL at hq
    obtain ⟨k, hk, rfl⟩ := List.mem_map.mp hq
    have hk := (List.mem_filter.mp hk).2
    have h1 := Int.emod_nonneg (gt t k) (b := m) (by omega)
    have h2 := Int.emod_lt_of_pos (gt t k) hm
    have h3 : gt t k % m ≠ 0 := by simpa using hk
    exact ⟨by dsimp only; omega, h2⟩
  · refine tidy_ev.trans (.of ?_)
    rw [perm_sum (hp.map fun k => gt t k * f k), ← h.ev f, List.map_map]
    unfold ev
    congr 1
    refine List.map_congr_left fun p hp => ?_
    show gt t p.1 * f p.1 = p.2 * f p.1
    unfold gt
    rw [gt_mem h.nd hp]; rfl
end RF

namespace K01
open PySem L2 DL
/-! ### what is told -/
def isNum : PyData → Bool
  | .int _ => true
  | _ => false
def isWithin (a b : Int) : PyData → Bool
  | .int i => decide (a ≤ i) && decide (i ≤ b)
  | _ => false
def isTwo : PyData → Bool
  | .tuple xs => decide (xs.length = 2)
  | _ => false
def asc : List Int → Bool
  | x :: y :: r => decide (x < y) && asc (y :: r)
  | _ => true
def isPair (m : Int) : PyData → Bool
  | .tuple [.int _, .int f] => decide (1 ≤ f) && decide (f ≤ m - 1)
  | _ => false
def firsts : List PyData → List Int
  | .tuple (.int o :: _) :: r => o :: firsts r
  | _ :: r => firsts r
  | [] => []
def isPairs (m : Int) : PyData → Bool
  | .tuple xs => xs.all (isPair m) && asc (firsts xs)
  | _ => false
def mods : List Int := [2, 3, 5, 6, 7, 10, 11, 13, 14, 15]
def isMod : PyData → Bool
  | .int i => decide (i ∈ mods)
  | _ => false
def hasMod : PyData → Bool
  | .tuple [a, _] => isMod a
  | _ => false
def isRule : PyData → Bool
  | .tuple [.int m, b] => decide (m ∈ mods) && isPairs m b
  | _ => false
def isRound : PyData → Bool
  | .tuple [.int m, .tuple xs] => decide (m ∈ mods) && (!xs.isEmpty && xs.all (isWithin 0 (m - 1)))
  | _ => false
def isDoing (m : Int) : PyData → Bool
  | .tuple [a, t] => isPairs m a && isWithin 0 (10 ^ 30) t
  | _ => false
def isProgram : PyData → Bool
  | .tuple [.int m, .tuple xs] => decide (m ∈ mods) && xs.all (isDoing m)
  | _ => false
def lawTwo : PyData → Bool
  | .tuple [.int m, .tuple _] => decide (m ∈ mods)
  | _ => false
/-! ### the promises -/
def one (f : PyData → Bool) : DSp := fun ds μ Q => ∃ v, ds = [.d v] ∧ Q (.d (.bool (f v))) μ
def two (f : Int → PyData → Bool) : DSp := fun ds μ Q => ∃ v m, ds = [.d v, .d (.int m)] ∧ Q (.d (.bool (f m v))) μ
def sp_is_number : DSp := one isNum
def sp_is_within : DSp := fun ds μ Q => ∃ v a b, ds = [.d v, .d (.int a), .d (.int b)] ∧ Q (.d (.bool (isWithin a b v))) μ
def sp_is_two : DSp := one isTwo
def sp_ascends : DSp := fun ds μ Q => ∃ ns : List Int, ds = [.d (.list (ns.map .int))] ∧ ns.length ≤ 100000 ∧ Q (.d (.bool (asc ns))) μ
/-- tuples that are not too long -/
def Short : PyData → Prop
  | .tuple xs => xs.length ≤ 100000
  | _ => True
def sp_is_pairs : DSp := fun ds μ Q => ∃ v m, ds = [.d v, .d (.int m)] ∧ Short v ∧ Q (.d (.bool (isPairs m v))) μ
def sp_is_modulus : DSp := one isMod
def sp_has_modulus : DSp := one hasMod
/-- .. within, too -/
def Short2 : PyData → Prop
  | .tuple xs => xs.length ≤ 100000 ∧ ∀ x ∈ xs, Short x
  | _ => True
def Short3 : PyData → Prop
  | .tuple xs => xs.length ≤ 100000 ∧ ∀ x ∈ xs, Short2 x
  | _ => True
def Short4 : PyData → Prop
  | .tuple xs => xs.length ≤ 100000 ∧ ∀ x ∈ xs, Short3 x
  | _ => True
def oneS (S : PyData → Prop) (f : PyData → Bool) : DSp := fun ds μ Q => ∃ v, ds = [.d v] ∧ S v ∧ Q (.d (.bool (f v))) μ
def sp_is_rule : DSp := oneS Short2 isRule
def sp_is_row : DSp := oneS Short2 isRule
def sp_is_round : DSp := oneS Short2 isRound
def sp_is_doing : DSp := fun ds μ Q => ∃ v m, ds = [.d v, .d (.int m)] ∧ Short2 v ∧ Q (.d (.bool (isDoing m v))) μ
def sp_is_program : DSp := oneS Short4 isProgram
def sp__law_number : DSp := one isNum
def sp__law_pairs : DSp := sp_is_pairs
def sp__law_two : DSp := one lawTwo
def sp__law_round : DSp := oneS Short2 isRound
def sp__law_program : DSp := oneS Short4 isProgram
end K01

namespace K01
open PySem L2 DL
def rd_is_number : DTS := (sRet (dAndV (dIsi "int" (dVar 0)) (dNotV (dIsi "bool" (dVar 0)))))
def rd_is_within : DTS := (sRet (dAndV (dCallF sp_is_number (aCons (dVar 0) aNil)) (dChain cLe cLe (dVar 1) (dVar 0) (dVar 2))))
def rd_is_two : DTS := (sRet (dAndV (dIsi "tuple" (dVar 0)) (dOp rdEqX (dCall rdLen (aCons (dVar 0) aNil)) (dC (.int 2)))))
def rd_ascends : DTS := (sRet (dCall rdAll (aCons (dLc (dwZip (aCons (dVar 0) (aCons (dSl (dVar 0) (dPart (dC (.int 1))) dNo) aNil))) (gdTup [1, 2]) dYes (dOp cLt (dVar 1) (dVar 2)) [1, 2]) aNil)))
def rd_is_pairs : DTS := (sSeq (sIf (dNot (dB (dIsi "tuple" (dVar 0)))) (sRet (dC (.bool false))) sNext)
    (sSeq (sIf (dNot (dB (dCall rdAll (aCons (dLc (dwTup (dVar 0)) (gdName 2) dYes (dAndV (dCallF sp_is_two (aCons (dVar 2) aNil)) (dAndV (dCallF sp_is_number (aCons (dOp rdIx (dVar 2) (dC (.int 0))) aNil)) (dCallF sp_is_within (aCons (dOp rdIx (dVar 2) (dC (.int 1))) (aCons (dC (.int 1)) (aCons (dOp (rdI0 fun i j => .int (i - j)) (dVar 1) (dC (.int 1))) aNil)))))) [2]) aNil)))) (sRet (dC (.bool false))) sNext)
    (sRet (dCallF sp_ascends (aCons (dLc (dwTup (dVar 0)) (gdName 2) dYes (dOp rdIx (dVar 2) (dC (.int 0))) [2]) aNil)))))
def rd_is_modulus : DTS := (sRet (dAndV (dCallF sp_is_number (aCons (dVar 0) aNil)) (dInK [2, 3, 5, 6, 7, 10, 11, 13, 14, 15] (dVar 0))))
def rd_has_modulus : DTS := (sRet (dAndV (dCallF sp_is_two (aCons (dVar 0) aNil)) (dCallF sp_is_modulus (aCons (dOp rdIx (dVar 0) (dC (.int 0))) aNil))))
def rd_is_rule : DTS := (sRet (dAndV (dCallF sp_has_modulus (aCons (dVar 0) aNil)) (dCallF sp_is_pairs (aCons (dOp rdIx (dVar 0) (dC (.int 1))) (aCons (dOp rdIx (dVar 0) (dC (.int 0))) aNil)))))
end K01

namespace K01
open PySem L2 DL
local macro_rules | `(tactic| walk_at "dl") => `(tactic| simp only [cLt, cLe, cGt, cGe, dVar, dC, dOp, dUn, rdI, rdI0, rdU, dChain, dB, dAnd, dOr, dNot, dAndV, dOrV, dNotV, dIf, rdIsN, rdNotN, isNone, aNil, aCons, allD, dTup, dLst, dLstC, dCall, rdEq, rdNe, rdIn, seqOf, rdIx, dNo, dPart, dSl, rdLen, rdTuple, rdList, rdSum, rdAll, rdAny, rdAbs, rdMax2, rdMin2, rdInt, rdStr, dIsi, rdRepr, sNext, sSeq, sBreak, sCont, sRet, sDrop, sIf, sNever, gdName, setAll, gdTup, sAsg, sPar, rdSetL, gdSub, dwList, dwTup, dwRange1, dwRange2, dwEnum, dwZip, wipeD, dLc, dLcC, dYes, sFor, dCallF, dCallK, rdPlus, rdEqX, rdEqE, rdNeX, dRev, dDict0, dDict1, dTr, dAppend, dInK, dstart, List.map_cons, List.map_nil, List.length_cons, List.length_nil, List.replicate_succ, List.replicate_zero, List.cons_append, List.nil_append, List.getElem?_cons_zero, List.getElem?_cons_succ, List.getElem?_nil, List.set_cons_zero, List.set_cons_succ, Option.map_some, Option.map_none, Option.bind_some, Option.bind_none, Nat.reduceSub, Nat.reduceAdd, if_true, if_false, Bool.false_eq_true, reduceIte, true_and, and_true, atI0, atI1, Nat.sub_zero, Nat.zero_add, reduceCtorEq])
abbrev fin (Q : DK) : DEnds := { nx := fun _ μ' => Q (.d .none) μ', rt := Q }
def isI : PyData → Bool
  | .int _ => true
  | .bool _ => true
  | _ => false
def isB : PyData → Bool
  | .bool _ => true
  | _ => false
def isT : PyData → Bool
  | .tuple _ => true
  | _ => false
theorem kI : ∀ d, (kitB (kindOf d) "int").getD false = isI d
  | .none => (by decide +kernel : (kitB "NoneType" "int").getD false = false)
  | .bool _ => (by decide +kernel : (kitB "bool" "int").getD false = true)
  | .int _ => (by decide +kernel : (kitB "int" "int").getD false = true)
  | .str _ => (by decide +kernel : (kitB "str" "int").getD false = false)
  | .list _ => (by decide +kernel : (kitB "list" "int").getD false = false)
  | .tuple _ => (by decide +kernel : (kitB "tuple" "int").getD false = false)
  | .dict _ => (by decide +kernel : (kitB "dict" "int").getD false = false)
theorem kB : ∀ d, (kitB (kindOf d) "bool").getD false = isB d
  | .none => (by decide +kernel : (kitB "NoneType" "bool").getD false = false)
  | .bool _ => (by decide +kernel : (kitB "bool" "bool").getD false = true)
  | .int _ => (by decide +kernel : (kitB "int" "bool").getD false = false)
  | .str _ => (by decide +kernel : (kitB "str" "bool").getD false = false)
  | .list _ => (by decide +kernel : (kitB "list" "bool").getD false = false)
  | .tuple _ => (by decide +kernel : (kitB "tuple" "bool").getD false = false)
  | .dict _ => (by decide +kernel : (kitB "dict" "bool").getD false = false)
theorem kT : ∀ d, (kitB (kindOf d) "tuple").getD false = isT d
  | .none => (by decide +kernel : (kitB "NoneType" "tuple").getD false = false)
  | .bool _ => (by decide +kernel : (kitB "bool" "tuple").getD false = false)
  | .int _ => (by decide +kernel : (kitB "int" "tuple").getD false = false)
  | .str _ => (by decide +kernel : (kitB "str" "tuple").getD false = false)
  | .list _ => (by decide +kernel : (kitB "list" "tuple").getD false = false)
  | .tuple _ => (by decide +kernel : (kitB "tuple" "tuple").getD false = true)
  | .dict _ => (by decide +kernel : (kitB "dict" "tuple").getD false = false)
theorem r_is_number : ∀ ds μ Q, sp_is_number ds μ Q → rd_is_number (fin Q) (dstart 1 ds) μ := by
  rintro ds μ Q ⟨v, rfl, q⟩
  unfold rd_is_number
  walk_at "dl"
  rw [kI, kB]
  cases v <;> exact q
theorem r_is_within : ∀ ds μ Q, sp_is_within ds μ Q → rd_is_within (fin Q) (dstart 3 ds) μ := by
  rintro ds μ Q ⟨v, a, b, rfl, q⟩
  unfold rd_is_within
  walk_at "dl"
  refine ⟨_, rfl, ?_⟩
  cases v with
  | int i =>
    by_cases h1 : a ≤ i
    · simpa only [isNum, isWithin, h1, decide_true, Bool.true_and] using q
    · simpa only [isNum, isWithin, h1, decide_false, Bool.false_and] using q
  | _ => exact q
theorem r_is_two : ∀ ds μ Q, sp_is_two ds μ Q → rd_is_two (fin Q) (dstart 1 ds) μ := by
  rintro ds μ Q ⟨v, rfl, q⟩
  unfold rd_is_two
  walk_at "dl"
  rw [kT]
  cases v with
  | tuple xs =>
    have e : decide ((xs.length : Int) = 2) = decide (xs.length = 2) := by rw [Bool.eq_iff_iff]; simp; omega
    simp only [isT]
    rw [e]
    exact q
  | _ => exact q
theorem asc_zip : ∀ ns : List Int, (zipD (ns.map PyData.int) ((ns.map PyData.int).drop 1)).map (fun d => match d with
    | .tuple [.int a, .int b] => PyData.bool (decide (a < b))
    | _ => .none) = ((ns.zip (ns.drop 1)).map fun p => PyData.bool (decide (p.1 < p.2)))
  | [] => rfl
  | [x] => rfl
  | x :: y :: r => by
    have ih := asc_zip (y :: r)
    simp only [List.map_cons, List.drop_succ_cons, List.drop_zero, zipD, List.zip_cons_cons] at ih ⊢
    rw [ih]
theorem asc_all : ∀ ns : List Int, (((ns.zip (ns.drop 1)).map fun p => decide (p.1 < p.2)).all id) = asc ns
  | [] => rfl
  | [x] => rfl
  | x :: y :: r => by
    have ih := asc_all (y :: r)
    simp only [List.drop_succ_cons, List.drop_zero, List.zip_cons_cons, List.map_cons, List.all_cons, id, asc] at ih ⊢
    rw [ih]
theorem zipD_len : ∀ xs ys : List PyData, (zipD xs ys).length ≤ xs.length
  | [], _ => by simp [zipD]
  | _ :: _, [] => by simp [zipD]
  | x :: xs, y :: ys => by simp [zipD, zipD_len xs ys]
theorem zip_mem : ∀ (xs ys : List PyData) (d : PyData), d ∈ zipD xs ys → ∃ x y, x ∈ xs ∧ y ∈ ys ∧ d = .tuple [x, y]
  | x :: xs, y :: ys, d, h => by
    rcases List.mem_cons.mp h with e | h
    · exact ⟨x, y, List.mem_cons_self, List.mem_cons_self, e⟩
    · obtain ⟨a, b, h1, h2, h3⟩ := zip_mem xs ys d h
      exact ⟨a, b, List.mem_cons_of_mem _ h1, List.mem_cons_of_mem _ h2, h3⟩
  | [], _, _, h => by simp [zipD] at h
  | _ :: _, [], _, h => by simp [zipD] at h
theorem cut1 (xs : List PyData) : cutD xs (some 1) none = xs.drop 1 := by
  unfold cutD HT.sIx
  cases xs with
  | nil => rfl
  | cons x xs => simp
theorem r_ascends : ∀ ds μ Q, sp_ascends ds μ Q → rd_ascends (fin Q) (dstart 3 ds) μ := by
  rintro ds μ Q ⟨ns, rfl, hl, q⟩
  unfold rd_ascends
  walk_at "dl"
  rw [cut1]
  refine lc_map (f := fun d => match d with
    | .tuple [.int a, .int b] => PyData.bool (decide (a < b))
    | _ => .none) ?_ ?_ ?_
  · exact Nat.le_trans (zipD_len _ _) (by simp; omega)
  · intro d hd μ' K1 k1
    obtain ⟨x, y, hx, hy, rfl⟩ := zip_mem _ _ _ hd
    obtain ⟨a, _, rfl⟩ := List.mem_map.mp hx
    obtain ⟨b, _, rfl⟩ := List.mem_map.mp (List.mem_of_mem_drop hy)
    walk_at "dl"
    exact k1
  · intro D μ' eD
    rw [eD, asc_zip]
    have e := boolsOf_map (((ns.zip (ns.drop 1)).map fun p => decide (p.1 < p.2)))
    rw [List.map_map] at e
    simp only [Function.comp_def] at e
    simp only [e]
    rw [asc_all]
    exact q
theorem boolsOf_fun {α : Type} (xs : List α) (f : α → Bool) : boolsOf (xs.map fun x => PyData.bool (f x)) = some (xs.map f) := by
  have e := boolsOf_map (xs.map f)
  rwa [List.map_map] at e
theorem all_id {α : Type} (xs : List α) (f : α → Bool) : (xs.map f).all id = xs.all f := by
  rw [List.all_map]; rfl
/-- the first item of a pair, as a number -/
def fst0 : PyData → PyData
  | .tuple (x :: _) => x
  | _ => .none
theorem firsts_map {m : Int} : ∀ xs : List PyData, xs.all (isPair m) = true → xs.map fst0 = (firsts xs).map PyData.int ∧ (firsts xs).length = xs.length
  | [], _ => ⟨rfl, rfl⟩
  | x :: xs, h => by
    rw [List.all_cons, Bool.and_eq_true] at h
    obtain ⟨h1, h2⟩ := h
    obtain ⟨e1, e2⟩ := firsts_map xs h2
    unfold isPair at h1
    split at h1
    · simp only [List.map_cons, fst0, firsts, e1, List.length_cons, e2, and_self]
    · cases h1
theorem r_is_pairs : ∀ ds μ Q, sp_is_pairs ds μ Q → rd_is_pairs (fin Q) (dstart 3 ds) μ := by
  rintro ds μ Q ⟨v, m, rfl, hs, q⟩
  unfold rd_is_pairs
  walk_at "dl"
  rw [kT]
  cases v with
  | tuple xs =>
    simp only [isT, Bool.not_true, Bool.false_eq_true, if_false]
    refine lc_map (f := fun d => PyData.bool (isPair m d)) (Nat.le_trans hs (by decide)) ?_ ?_
    · intro d hd μ' K1 k1
      walk_at "dl"
      refine ⟨_, rfl, ?_⟩
      cases d with
      | tuple ys =>
        match ys with
        | [a, b] =>
          simp only [isTwo, List.length_cons, List.length_nil, decide_true, atI0, atI1]
          refine ⟨_, rfl, ?_⟩
          cases a with
          | int o =>
            refine ⟨_, _, _, rfl, ?_⟩
            cases b <;> exact k1
          | _ => exact k1
        | [] => exact k1
        | [a] => cases a <;> exact k1
        | a :: b :: c :: r =>
          have e : isPair m (.tuple (a :: b :: c :: r)) = false := by unfold isPair; split <;> simp_all
          rw [e] at k1
          simpa [isTwo] using k1
      | _ => exact k1
    · intro D μ' eD
      rw [eD, boolsOf_fun]
      simp only [all_id]
      cases hp : xs.all (isPair m) with
      | false =>
        simp only [isPairs, hp, Bool.false_and] at q
        simpa using q
      | true =>
        simp only [Bool.not_true, Bool.false_eq_true, if_false]
        obtain ⟨e1, e2⟩ := firsts_map xs hp
        refine lc_map (f := fst0) (Nat.le_trans hs (by decide)) ?_ ?_
        · intro d hd μ2 K1 k1
          have hd2 := List.all_eq_true.mp hp d hd
          unfold isPair at hd2
          split at hd2
          · walk_at "dl"
            exact k1
          · cases hd2
        · intro D2 μ2 e3
          rw [e3, e1]
          refine ⟨_, rfl, by rw [e2]; exact hs, ?_⟩
          simpa only [isPairs, hp, Bool.true_and] using q
  | _ => exact q
theorem r_is_modulus : ∀ ds μ Q, sp_is_modulus ds μ Q → rd_is_modulus (fin Q) (dstart 1 ds) μ := by
  rintro ds μ Q ⟨v, rfl, q⟩
  unfold rd_is_modulus
  walk_at "dl"
  refine ⟨_, rfl, ?_⟩
  cases v <;> exact q
theorem r_has_modulus : ∀ ds μ Q, sp_has_modulus ds μ Q → rd_has_modulus (fin Q) (dstart 1 ds) μ := by
  rintro ds μ Q ⟨v, rfl, q⟩
  unfold rd_has_modulus
  walk_at "dl"
  refine ⟨_, rfl, ?_⟩
  cases v with
  | tuple ys =>
    match ys with
    | [a, b] => exact ⟨_, rfl, q⟩
    | [] => exact q
    | [a] => exact q
    | a :: b :: c :: r => exact q
  | _ => exact q
end K01

namespace K01
open PySem L2 DL
local macro_rules | `(tactic| walk_at "dl") => `(tactic| simp only [cLt, cLe, cGt, cGe, dVar, dC, dOp, dUn, rdI, rdI0, rdU, dChain, dB, dAnd, dOr, dNot, dAndV, dOrV, dNotV, dIf, rdIsN, rdNotN, isNone, aNil, aCons, allD, dTup, dLst, dLstC, dCall, rdEq, rdNe, rdIn, seqOf, rdIx, dNo, dPart, dSl, rdLen, rdTuple, rdList, rdSum, rdAll, rdAny, rdAbs, rdMax2, rdMin2, rdInt, rdStr, dIsi, rdRepr, sNext, sSeq, sBreak, sCont, sRet, sDrop, sIf, sNever, gdName, setAll, gdTup, sAsg, sPar, rdSetL, gdSub, dwList, dwTup, dwRange1, dwRange2, dwEnum, dwZip, wipeD, dLc, dLcC, dYes, sFor, dCallF, dCallK, rdPlus, rdEqX, rdEqE, rdNeX, dRev, dDict0, dDict1, dTr, dAppend, dInK, dstart, List.map_cons, List.map_nil, List.length_cons, List.length_nil, List.replicate_succ, List.replicate_zero, List.cons_append, List.nil_append, List.getElem?_cons_zero, List.getElem?_cons_succ, List.getElem?_nil, List.set_cons_zero, List.set_cons_succ, Option.map_some, Option.map_none, Option.bind_some, Option.bind_none, Nat.reduceSub, Nat.reduceAdd, if_true, if_false, Bool.false_eq_true, reduceIte, true_and, and_true, atI0, atI1, Nat.sub_zero, Nat.zero_add, reduceCtorEq])
theorem len3 {α : Type} {a b c : α} {r : List α} : decide ((((a :: b :: c :: r).length : Nat) : Int) = 2) = false := by
  rw [decide_eq_false_iff_not]
  simp only [List.length_cons]
  omega
theorem hasMod_true {v : PyData} (h : hasMod v = true) : ∃ m b, v = .tuple [.int m, b] ∧ m ∈ mods := by
  unfold hasMod at h
  split at h
  · next a b =>
    unfold isMod at h
    split at h
    · exact ⟨_, _, rfl, of_decide_eq_true h⟩
    · cases h
  · cases h
theorem isRule_false {v : PyData} (h : hasMod v = false) : isRule v = false := by
  unfold isRule
  split
  · simp only [hasMod, isMod] at h
    rw [h, Bool.false_and]
  · rfl
theorem isRound_false {v : PyData} (h : hasMod v = false) : isRound v = false := by
  unfold isRound
  split
  · simp only [hasMod, isMod] at h
    rw [h, Bool.false_and]
  · rfl
theorem isProgram_false {v : PyData} (h : hasMod v = false) : isProgram v = false := by
  unfold isProgram
  split
  · simp only [hasMod, isMod] at h
    rw [h, Bool.false_and]
  · rfl
theorem r_is_rule : ∀ ds μ Q, sp_is_rule ds μ Q → rd_is_rule (fin Q) (dstart 1 ds) μ := by
  rintro ds μ Q ⟨v, rfl, hs, q⟩
  unfold rd_is_rule
  walk_at "dl"
  refine ⟨_, rfl, ?_⟩
  cases h : hasMod v with
  | false => rw [isRule_false h] at q; exact q
  | true =>
    obtain ⟨m, b, rfl, hm⟩ := hasMod_true h
    refine ⟨b, m, rfl, hs.2 b (by simp), ?_⟩
    simpa only [isRule, hm, decide_true, Bool.true_and] using q
end K01

namespace K01
open PySem L2 DL
/-! ### the draws -/
def sp__law_source : DSp := fun ds μ Q => ∃ (ns : List Int) (k : Nat), ds = [.d (.list (ns.map .int)), .d (.int k)] ∧ ns.length ≤ 63 ∧ (∀ z ∈ ns, Builtin.Int.intBits z ≤ 1048576) ∧ k ≤ 12 ∧
  ∀ p μ', μ p = none → Src 0 μ' p → Oth p μ μ' → Q (.cell p) μ'
def sp__law_pick : DSp := fun ds μ Q => ∃ (p : Addr) (many : Int) (n : Nat), ds = [.cell p, .d (.int many)] ∧ 1 ≤ many ∧ many ≤ 10 ^ 60 ∧ Src n μ p ∧ n ≤ 1000000 ∧
  ∀ r μ', 0 ≤ r → r < many → Src (n + 1) μ' p → Oth p μ μ' → Q (.d (.int r)) μ'
def primesOf (m : Int) : List Int := [2, 3, 5, 7, 11, 13].filter fun p => decide (m % p = 0)
def sp__law_primes : DSp := fun ds μ Q => ∃ m : Int, ds = [.d (.int m)] ∧ Q (.d (.list ((primesOf m).map .int))) μ
/-- a draw of at most B -/
def drawn (B : Nat) (P : DV → Prop) (p : Addr) (n : Nat) (μ : Mu) (Q : DK) : Prop := Src n μ p ∧ n + B ≤ 1000000 ∧ ∀ r μ', P r → Src (n + B) μ' p → Oth p μ μ' → Q r μ'
def sp__law_modulus : DSp := fun ds μ Q => ∃ p n, ds = [.cell p] ∧ drawn 1 (fun r => ∃ m ∈ mods, r = .d (.int m)) p n μ Q
def sp__law_factor : DSp := fun ds μ Q => ∃ p n m s, ds = [.cell p, .d (.int m), .d (.int s)] ∧ 0 < s ∧ s ≤ 20 ∧ m ≤ 20 ∧ 1 ≤ m / s - 1 ∧ drawn 1 (fun r => ∃ i : Int, r = .d (.int i) ∧ 0 < i ∧ i < m) p n μ Q
end K01

namespace K01
open PySem L2 DL
def rd__law_source : DTS := (sSeq (sAsg (dOp rdPlus (dOp (rdI Bits fun i j => .int (i * j)) (dC (.int 31)) (dVar 1)) (dC (.int 19))) (gdName 2))
    (sSeq (sIf (dB (dOp cLt (dVar 1) (dCall rdLen (aCons (dVar 0) aNil)))) (sAsg (dOp rdIx (dVar 0) (dVar 1)) (gdName 2)) sNext)
    (sSeq (sAsg (dOp rdPlus (dCall rdSum (aCons (dLc (dwEnum (aCons (dVar 0) aNil)) (gdTup [4, 5]) dYes (dOp (rdI Bits fun i j => .int (i * j)) (dOp (rdI (fun _ j => 0 < j) fun i j => .int (i % j)) (dCall rdInt (aCons (dVar 5) aNil)) (dOp rdPlus (dOp (rdI CPowB fun i j => .int (i ^ j.toNat)) (dC (.int 10)) (dC (.int 20))) (dC (.int 39)))) (dOp rdPlus (dVar 4) (dC (.int 3)))) [4, 5]) aNil)) (dOp (rdI Bits fun i j => .int (i * j)) (dC (.int 73)) (dCall rdLen (aCons (dVar 0) aNil)))) (gdName 3))
    (sSeq (sAsg (dOp (rdI (fun _ j => 0 < j) fun i j => .int (i % j)) (dCall rdInt (aCons (dOp rdPlus (dOp rdPlus (dOp rdPlus (dOp (rdI Bits fun i j => .int (i * j)) (dCall rdAbs (aCons (dVar 2) aNil)) (dC (.int 48017))) (dOp (rdI Bits fun i j => .int (i * j)) (dC (.int 5)) (dCall rdInt (aCons (dOp cLt (dVar 2) (dC (.int 0))) aNil)))) (dOp (rdI Bits fun i j => .int (i * j)) (dVar 3) (dC (.int 6367)))) (dVar 1)) aNil)) (dOp rdPlus (dOp (rdI CPowB fun i j => .int (i ^ j.toNat)) (dC (.int 10)) (dC (.int 27))) (dC (.int 103)))) (gdName 6))
    (sRet (dLstC (aCons (dCall rdMax2 (aCons (dC (.int 0)) (aCons (dOp (rdI0 fun i j => .int (i - j)) (dVar 2) (dOp (rdI CPowB fun i j => .int (i ^ j.toNat)) (dC (.int 10)) (dC (.int 18)))) aNil))) (aCons (dVar 6) (aCons (dC (.int 0)) aNil)))))))))
def rd__law_pick : DTS := (sSeq (sIf (dB (dOp cGt (dOp rdIx (dVar 0) (dC (.int 0))) (dC (.int 0)))) (sSeq (sAsg (dOp (rdI (fun _ j => 0 < j) fun i j => .int (i % j)) (dCall rdInt (aCons (dOp rdIx (dVar 0) (dC (.int 0))) aNil)) (dVar 1)) (gdName 2))
    (sSeq (sAsg (dOp (rdI CDivW fun i j => .int (i / j)) (dOp rdIx (dVar 0) (dC (.int 0))) (dVar 1)) (gdSub (dVar 0) (dC (.int 0)) rdSetL))
    (sRet (dVar 2)))) sNext)
    (sSeq (sAsg (dOp rdPlus (dOp rdIx (dVar 0) (dC (.int 2))) (dC (.int 1))) (gdSub (dVar 0) (dC (.int 2)) rdSetL))
    (sSeq (sAsg (dOp (rdI (fun _ j => 0 < j) fun i j => .int (i % j)) (dCall rdInt (aCons (dOp rdPlus (dOp (rdI CPowB fun i j => .int (i ^ j.toNat)) (dOp rdPlus (dOp rdIx (dVar 0) (dC (.int 1))) (dOp (rdI Bits fun i j => .int (i * j)) (dC (.int 773741389)) (dOp rdIx (dVar 0) (dC (.int 2))))) (dC (.int 3))) (dOp (rdI Bits fun i j => .int (i * j)) (dC (.int 11)) (dOp rdIx (dVar 0) (dC (.int 2))))) aNil)) (dOp rdPlus (dOp (rdI CPowB fun i j => .int (i ^ j.toNat)) (dC (.int 10)) (dC (.int 28))) (dC (.int 331)))) (gdName 3))
    (sSeq (sAsg (dOp (rdI (fun _ j => 0 < j) fun i j => .int (i % j)) (dCall rdInt (aCons (dOp (rdI Bits fun i j => .int (i * j)) (dVar 3) (dOp rdPlus (dVar 3) (dOp (rdI Bits fun i j => .int (i * j)) (dC (.int 5413)) (dOp rdIx (dVar 0) (dC (.int 2)))))) aNil)) (dOp rdPlus (dOp (rdI CPowB fun i j => .int (i ^ j.toNat)) (dC (.int 10)) (dC (.int 26))) (dC (.int 67)))) (gdName 3))
    (sRet (dOp (rdI (fun _ j => 0 < j) fun i j => .int (i % j)) (dCall rdInt (aCons (dOp (rdI CDivW fun i j => .int (i / j)) (dVar 3) (dC (.int 7331))) aNil)) (dVar 1)))))))
def rd__law_primes : DTS := (sRet (dLc (dwList (dLst (aCons (dC (.int 2)) (aCons (dC (.int 3)) (aCons (dC (.int 5)) (aCons (dC (.int 7)) (aCons (dC (.int 11)) (aCons (dC (.int 13)) aNil)))))))) (gdName 1) (dB (dOp rdEqX (dOp (rdI (fun _ j => 0 < j) fun i j => .int (i % j)) (dCall rdInt (aCons (dVar 0) aNil)) (dVar 1)) (dC (.int 0)))) (dVar 1) [1]))
def rd__law_modulus : DTS := (sRet (dOp rdIx (dLst (aCons (dC (.int 2)) (aCons (dC (.int 3)) (aCons (dC (.int 5)) (aCons (dC (.int 6)) (aCons (dC (.int 7)) (aCons (dC (.int 10)) (aCons (dC (.int 11)) (aCons (dC (.int 13)) (aCons (dC (.int 14)) (aCons (dC (.int 15)) aNil))))))))))) (dCallF sp__law_pick (aCons (dVar 0) (aCons (dC (.int 10)) aNil)))))
def rd__law_factor : DTS := (sRet (dOp (rdI Bits fun i j => .int (i * j)) (dVar 2) (dOp rdPlus (dC (.int 1)) (dCallF sp__law_pick (aCons (dVar 0) (aCons (dOp (rdI0 fun i j => .int (i - j)) (dOp (rdI CDivW fun i j => .int (i / j)) (dVar 1) (dVar 2)) (dC (.int 1))) aNil))))))
end K01

namespace K01
open PySem L2 DL
local macro_rules | `(tactic| walk_at "dl") => `(tactic| simp only [cLt, cLe, cGt, cGe, dVar, dC, dOp, dUn, rdI, rdI0, rdU, dChain, dB, dAnd, dOr, dNot, dAndV, dOrV, dNotV, dIf, rdIsN, rdNotN, isNone, aNil, aCons, allD, dTup, dLst, dLstC, dCall, rdEq, rdNe, rdIn, seqOf, rdIx, dNo, dPart, dSl, rdLen, rdTuple, rdList, rdSum, rdAll, rdAny, rdAbs, rdMax2, rdMin2, rdInt, rdStr, dIsi, rdRepr, sNext, sSeq, sBreak, sCont, sRet, sDrop, sIf, sNever, gdName, setAll, gdTup, sAsg, sPar, rdSetL, gdSub, dwList, dwTup, dwRange1, dwRange2, dwEnum, dwZip, wipeD, dLc, dLcC, dYes, sFor, dCallF, dCallK, rdPlus, rdEqX, rdEqE, rdNeX, dRev, dDict0, dDict1, dTr, dAppend, dInK, dstart, List.map_cons, List.map_nil, List.length_cons, List.length_nil, List.replicate_succ, List.replicate_zero, List.cons_append, List.nil_append, List.getElem?_cons_zero, List.getElem?_cons_succ, List.getElem?_nil, List.set_cons_zero, List.set_cons_succ, Option.map_some, Option.map_none, Option.bind_some, Option.bind_none, Nat.reduceSub, Nat.reduceAdd, if_true, if_false, Bool.false_eq_true, reduceIte, true_and, and_true, atI0, atI1, Nat.sub_zero, Nat.zero_add, reduceCtorEq])
theorem ix0 {a b c : PyData} : atI [a, b, c] 0 = some a := atI0
theorem ix1 {a b c : PyData} : atI [a, b, c] 1 = some b := atI1
theorem ix2 {a b c : PyData} : atI [a, b, c] 2 = some c := (show atI [a, b, c] ((2 : Nat) : Int) = some c from atI_nat rfl)
theorem jx0 {a b c : PyData} : ixN [a, b, c].length 0 = some 0 := (by decide : ixN 3 0 = some 0)
theorem jx2 {a b c : PyData} : ixN [a, b, c].length 2 = some 2 := (by decide : ixN 3 2 = some 2)
theorem pw (k : Nat) (h : k ≤ 1000) : CPowB 10 (k : Int) := powB (k := 4) (by omega) (by decide) (by omega)
theorem r__law_pick : ∀ ds μ Q, sp__law_pick ds μ Q → rd__law_pick (fin Q) (dstart 4 ds) μ := by
  rintro ds μ Q ⟨p, many, n, rfl, h1, h2, ⟨a, b, c, hp, hb0, hb1, hc0, hc1⟩, hn, q⟩
  unfold rd__law_pick
  walk_at "dl"
  simp only [hp, ix0, ix1, ix2, jx0, jx2, put_same, List.set_cons_zero, List.set_cons_succ]
  by_cases ha : 0 < a
  · simp only [ha, decide_true, if_true]
    refine ⟨by omega, divW (by omega) (Int.lt_of_le_of_lt h2 (by decide)) _, q _ _ (Int.emod_nonneg _ (by omega)) (Int.emod_lt_of_pos _ (by omega)) ?_ .put⟩
    exact ⟨_, b, c, put_same, hb0, hb1, hc0, by omega⟩
  · simp only [ha, decide_false, Bool.false_eq_true, if_false]
    have e1 : (0 : Int) < 10 ^ (28 : Int).toNat + 331 := by decide
    have e2 : (0 : Int) < 10 ^ (26 : Int).toNat + 67 := by decide
    refine ⟨Bits.of (a := 30) (b := 30) (by decide) (bits_le (by omega)) (by decide), powB (k := 120) (by decide) (bits_le ?_) (by decide), Bits.of (a := 4) (b := 30) (by decide) (bits_le (by omega)) (by decide), pw 28 (by decide), e1,
      Bits.of (a := 13) (b := 30) (by decide) (bits_le (by omega)) (by decide), ?_, pw 26 (by decide), e2, divW (by decide) (by decide) _, by omega, ?_⟩
    · have : b < 2 ^ 110 := Int.lt_of_lt_of_le hb1 (by decide)
      omega
    · generalize hx : ((b + 773741389 * (c + 1)) ^ (3 : Int).toNat + 11 * (c + 1)) % (10 ^ (28 : Int).toNat + 331) = x
      have x0 : 0 ≤ x := by rw [← hx]; exact Int.emod_nonneg _ (by decide)
      have x1 : x < 2 ^ 100 := by rw [← hx]; exact Int.lt_of_lt_of_le (Int.emod_lt_of_pos _ e1) (by decide)
      exact Bits.of (a := 100) (b := 120) (bits_le (by omega)) (bits_le (by omega)) (by decide)
    · refine q _ _ (Int.emod_nonneg _ (by omega)) (Int.emod_lt_of_pos _ (by omega)) ⟨a, b, c + 1, put_same, hb0, hb1, by omega, by omega⟩ .put
theorem modsB {m : Int} (h : m ∈ mods) : 2 ≤ m ∧ m ≤ 15 := by
  simp only [mods, List.mem_cons, List.not_mem_nil, or_false] at h
  omega
theorem r__law_primes : ∀ ds μ Q, sp__law_primes ds μ Q → rd__law_primes (fin Q) (dstart 2 ds) μ := by
  rintro ds μ Q ⟨m, rfl, q⟩
  unfold rd__law_primes
  walk_at "dl"
  refine ⟨by decide, lc_pure (f := fun d => d) (p := fun d => match d with
    | .int p => decide (m % p = 0)
    | _ => false) (by decide) ?_ ?_⟩
  · intro d hd μ' K1 K0 h1 h0
    have hd' : ∃ p : Int, d = .int p ∧ 0 < p := by
      simp only [List.mem_cons, List.not_mem_nil, or_false] at hd
      rcases hd with rfl | rfl | rfl | rfl | rfl | rfl <;> exact ⟨_, rfl, by decide⟩
    obtain ⟨p, rfl, hp⟩ := hd'
    walk_at "dl"
    refine ⟨hp, ?_⟩
    by_cases h : m % p = 0
    · simp only [h, decide_true, if_true]
      exact h1 (by simp [h])
    · simp only [h, decide_false, Bool.false_eq_true, if_false]
      exact h0 (by simp [h])
  · intro D μ' e
    rw [e]
    have e2 : (([PyData.int 2, .int 3, .int 5, .int 7, .int 11, .int 13].filter fun d => match d with
      | .int p => decide (m % p = 0)
      | _ => false).map fun d => d) = (primesOf m).map .int := by
      unfold primesOf
      have : [PyData.int 2, .int 3, .int 5, .int 7, .int 11, .int 13] = [2, 3, 5, 7, 11, 13].map PyData.int := rfl
      rw [this, List.filter_map]
      simp [Function.comp_def]
    rw [e2]
    exact q
theorem getI {xs : List PyData} {r : Int} (h0 : 0 ≤ r) (h1 : r < xs.length) : ∃ d, atI xs r = some d ∧ d ∈ xs := by
  obtain ⟨k, rfl⟩ := Int.eq_ofNat_of_zero_le h0
  have hk : k < xs.length := by omega
  exact ⟨xs[k], atI_nat (List.getElem?_eq_getElem hk), List.getElem_mem hk⟩
theorem r__law_modulus : ∀ ds μ Q, sp__law_modulus ds μ Q → rd__law_modulus (fin Q) (dstart 1 ds) μ := by
  rintro ds μ Q ⟨p, n, rfl, hs, hn, q⟩
  unfold rd__law_modulus
  walk_at "dl"
  refine ⟨by decide, p, 10, n, rfl, by decide, by decide, hs, by omega, fun r μ' h0 h1 hs' ho => ?_⟩
  obtain ⟨d, e, hd⟩ := getI (xs := [PyData.int 2, .int 3, .int 5, .int 6, .int 7, .int 10, .int 11, .int 13, .int 14, .int 15]) h0 h1
  simp only [e]
  have : [PyData.int 2, .int 3, .int 5, .int 6, .int 7, .int 10, .int 11, .int 13, .int 14, .int 15] = mods.map PyData.int := rfl
  rw [this] at hd
  obtain ⟨m, hm, rfl⟩ := List.mem_map.mp hd
  exact q _ μ' ⟨m, hm, rfl⟩ hs' ho
theorem r__law_factor : ∀ ds μ Q, sp__law_factor ds μ Q → rd__law_factor (fin Q) (dstart 3 ds) μ := by
  rintro ds μ Q ⟨p, n, m, s, rfl, hs0, hs1, hm, hms, hs, hn, q⟩
  unfold rd__law_factor
  walk_at "dl"
  have hle : m / s ≤ 20 := by
    rcases Int.lt_or_le (m / s) 21 with h | h
    · omega
    · have h1 := Int.mul_le_of_le_ediv hs0 h
      omega
  refine ⟨divW hs0 (Int.lt_of_le_of_lt hs1 (by decide)) _, p, _, n, rfl, hms, Int.le_trans (b := 20) (by omega) (by decide), hs, by omega, fun r μ' h0 h1 hs' ho => ?_⟩
  have hb : (s * (1 + r)).natAbs ≤ 20 * 20 := by
    rw [Int.natAbs_mul]
    exact Nat.mul_le_mul (by omega) (by omega)
  have h3 : s * (1 + r) ≤ s * (m / s - 1) := Int.mul_le_mul_of_nonneg_left (by omega) (by omega)
  have h4 : s * (m / s) ≤ m := Int.mul_ediv_self_le (by omega)
  rw [Int.mul_sub, Int.mul_one] at h3
  have h5 : 0 < s * (1 + r) := Int.mul_pos hs0 (by omega)
  exact ⟨Bits.of (a := 10) (b := 10) (bits_le (by omega)) (bits_le (by omega)) (by decide), q _ μ' ⟨_, rfl, h5, by omega⟩ hs' ho⟩
def crowdF : PyData → PyData
  | .tuple [.int a, .int b] => .int (b % (10 ^ (20 : Int).toNat + 39) * (a + 3))
  | _ => .none
theorem crowd : ∀ (ns : List Int) (k : Nat), k + ns.length ≤ 63 → (∀ z ∈ ns, Builtin.Int.intBits z ≤ 1048576) → (∀ d ∈ enumD k (ns.map .int), ∃ a b : Int, d = .tuple [.int a, .int b] ∧ 0 ≤ a ∧ a ≤ 63 ∧ Builtin.Int.intBits b ≤ 1048576) ∧ ∃ zs : List Int, (enumD k (ns.map .int)).map crowdF = zs.map .int ∧ 0 ≤ zs.sum ∧ zs.sum ≤ ns.length * 10 ^ 22
  | [], k, _, _ => ⟨by simp [enumD], [], by simp [enumD]⟩
  | x :: ns, k, h, hb => by
    simp only [List.length_cons] at h
    obtain ⟨h1, zs, h2, h3, h4⟩ := crowd ns (k + 1) (by omega) fun z hz => hb z (List.mem_cons_of_mem _ hz)
    simp only [List.map_cons, enumD]
    refine ⟨fun d hd => ?_, (x % (10 ^ (20 : Int).toNat + 39) * ((k : Int) + 3)) :: zs, ?_, ?_, ?_⟩
    · rcases List.mem_cons.mp hd with rfl | hd
      · exact ⟨_, _, rfl, by omega, by omega, hb x List.mem_cons_self⟩
      · exact h1 d hd
    · rw [List.map_cons, h2]; rfl
    · rw [List.sum_cons]
      have := Int.mul_nonneg (Int.emod_nonneg x (b := 10 ^ (20 : Int).toNat + 39) (by decide)) (show (0 : Int) ≤ (k : Int) + 3 by omega)
      omega
    · rw [List.sum_cons, List.length_cons]
      have a1 : x % (10 ^ (20 : Int).toNat + 39) ≤ 10 ^ 20 + 39 := Int.le_of_lt (Int.emod_lt_of_pos _ (by decide))
      have a2 : x % (10 ^ (20 : Int).toNat + 39) * ((k : Int) + 3) ≤ (10 ^ 20 + 39) * 66 := Int.mul_le_mul a1 (by omega) (by omega) (by decide)
      omega
theorem crowd_go {ns : List Int} {a0 a1 a2 : Option DV} {μ : Mu} {fin : Addr → List PyData → Mu → Prop} (hl : ns.length ≤ 63) (hb : ∀ z ∈ ns, Builtin.Int.intBits z ≤ 1048576)
    (q : ∀ (D : Addr) (μ' : Mu) (zs : List Int), del μ' D = μ → 0 ≤ zs.sum → zs.sum ≤ 10 ^ 24 → fin D (zs.map .int) μ') : ∀ D, μ D = none → lcGo (gdTup [4, 5]) dYes
              (dOp (rdI Bits fun i j => PyData.int (i * j))
                (dOp (rdI (fun x j => 0 < j) fun i j => PyData.int (i % j)) (dCall rdInt (aCons (dVar 5) aNil))
                  (dOp rdPlus
                    (dOp (rdI CPowB fun i j => PyData.int (i ^ j.toNat)) (dC (PyData.int 10)) (dC (PyData.int 20)))
                    (dC (PyData.int 39))))
                (dOp rdPlus (dVar 4) (dC (PyData.int 3)))) [a0, a1, a2, none, none, none, none] D (fin D) (enumD 0 (ns.map .int)) [] (put μ D (.lst [])) := by
  obtain ⟨h1, zs, h2, h3, h4⟩ := crowd ns 0 (by omega) hb
  refine lc_map (f := crowdF) ?_ ?_ ?_
  · have : ((enumD 0 (ns.map .int)).map crowdF).length = zs.length := by rw [h2, List.length_map]
    have e : ∀ (l : List Int) (k : Nat), (enumD k (l.map .int)).length = l.length := by
      intro l
      induction l with
      | nil => intro k; rfl
      | cons x l ih => intro k; simp only [List.map_cons, enumD, List.length_cons, ih]
    rw [e]; omega
  · intro d hd μ K1 q1
    obtain ⟨a, b, rfl, ha, ha2, hb2⟩ := h1 d hd
    walk_at "dl"
    refine ⟨pw 20 (by decide), by decide, Bits.of (a := 100) (b := 100) (bits_le ?_) (bits_le ?_) (by decide), q1⟩
    · have b0 := Int.emod_nonneg b (b := 10 ^ (20 : Int).toNat + 39) (by decide)
      have b1 : b % (10 ^ (20 : Int).toNat + 39) < 2 ^ 100 := Int.lt_of_lt_of_le (Int.emod_lt_of_pos _ (by decide)) (by decide)
      omega
    · omega
  · intro D μ' e
    rw [h2]
    exact q D μ' zs e h3 (Int.le_trans h4 (by omega))
theorem absB {i : Int} {k : Nat} (h : Builtin.Int.intBits i ≤ k) : Builtin.Int.intBits (if i < 0 then -i else i) ≤ k := by
  split
  · have e : Builtin.Int.intBits (-i) = Builtin.Int.intBits i := by
      unfold Builtin.Int.intBits
      simp only [Int.natAbs_neg]
      by_cases h0 : i = 0
      · subst h0; rfl
      · have h1 : ¬ -i = 0 := by omega
        simp [h0, h1]
    omega
  · exact h
theorem r__law_source : ∀ ds μ Q, sp__law_source ds μ Q → rd__law_source (fin Q) (dstart 7 ds) μ := by
  rintro ds μ Q ⟨ns, k, rfl, hl, hb, hk, q⟩
  unfold rd__law_source
  walk_at "dl"
  have hB : ∀ (zs : List Int), 0 ≤ zs.sum → zs.sum ≤ 10 ^ 24 → Bits (zs.sum + 73 * (ns.length : Int)) 6367 := fun zs h0 h1 => Bits.of (a := 100) (b := 13) (bits_le (by omega)) (bits_le (by decide)) (by decide)
  have hL : Bits 73 (ns.length : Int) := Bits.of (a := 7) (b := 7) (bits_le (by decide)) (bits_le (by omega)) (by decide)
  have h5 : ∀ b : Bool, Bits 5 (if b = true then 1 else 0) := fun b => by cases b <;> exact Bits.of (a := 7) (b := 7) (bits_le (by decide)) (bits_le (by decide)) (by decide)
  have e27 : (0 : Int) < 10 ^ (27 : Int).toNat + 103 := by decide
  refine ⟨Bits.of (a := 10) (b := 10) (bits_le (by decide)) (bits_le (by omega)) (by decide), ?_⟩
  have hq : ∀ (D p : Addr) (μ' : Mu) (a x : Int), del μ' D = μ → del μ' D p = none → Q (.cell p) (put (del μ' D) p (.lst [.int a, .int (x % (10 ^ (27 : Int).toNat + 103)), .int 0])) := fun D p μ' a x e hp => by
    rw [e] at hp ⊢
    exact q p _ hp ⟨_, _, _, put_same, Int.emod_nonneg _ (by decide), Int.lt_of_lt_of_le (Int.emod_lt_of_pos _ e27) (by decide), by decide, by decide⟩ .put
  by_cases hlt : k < ns.length
  · have e : decide ((k : Int) < (ns.length : Int)) = true := decide_eq_true (by omega)
    have e2 : atI (ns.map PyData.int) (k : Int) = some (.int ns[k]) := atI_nat (by simp [hlt])
    simp only [e, e2, if_true, List.length_map]
    refine crowd_go hl hb fun D μ' zs ed z0 z1 => ?_
    have hz := hb ns[k] (List.getElem_mem hlt)
    simp only [intsOf_map]
    exact ⟨hL, Bits.of (a := 1048576) (b := 16) (absB hz) (bits_le (by decide)) (by decide), h5 _, hB zs z0 z1, pw 27 (by decide), e27, pw 18 (by decide), by decide, fun p hp => hq D p μ' _ _ ed hp⟩
  · have e : decide ((k : Int) < (ns.length : Int)) = false := decide_eq_false (by omega)
    simp only [e, Bool.false_eq_true, if_false, List.length_map]
    refine crowd_go hl hb fun D μ' zs ed z0 z1 => ?_
    simp only [intsOf_map]
    exact ⟨hL, Bits.of (a := 100) (b := 16) (absB (bits_le (by omega))) (bits_le (by decide)) (by decide), h5 _, hB zs z0 z1, pw 27 (by decide), e27, pw 18 (by decide), by decide, fun p hp => hq D p μ' _ _ ed hp⟩
end K01

namespace K01
open PySem L2 DL RF
/-! ### rules as data -/
def pr (p : Int × Int) : PyData := .tuple [.int p.1, .int p.2]
def tm (a : Tm) : PyData := .tuple (a.map pr)
def rule (m : Int) (a : Tm) : PyData := .tuple [.int m, tm a]
def primesT : List (Int × List Int) := [(2, [2]), (3, [3]), (5, [5]), (6, [2, 3]), (7, [7]), (10, [2, 5]), (11, [11]), (13, [13]), (14, [2, 7]), (15, [3, 5])]
/-- cells stay -/
def Grow (μ μ' : Mu) : Prop := ∀ b c, μ b = some c → μ' b = some c
/-- a rule as it may be passed on -/
structure Ok (m : Int) (a : Tm) : Prop where
  mo : m ∈ mods
  cn : Cn m a
  wd : Wd 400 a
def sp_need_rule : DSp := fun ds μ Q => ∃ m a, ds = [.d (rule m a)] ∧ Ok m a ∧ Q (.d .none) μ
def sp_need_same : DSp := fun ds μ Q => ∃ m a b, ds = [.d (rule m a), .d (rule m b)] ∧ Q (.d .none) μ
def sp_need_rules : DSp := fun ds μ Q => ∃ m a b, ds = [.d (rule m a), .d (rule m b)] ∧ Ok m a ∧ Ok m b ∧ Q (.d .none) μ
def sp_primes_of : DSp := fun ds μ Q => ∃ m, ds = [.d (.int m)] ∧ m ∈ mods ∧ ∀ p, μ p = none → Q (.cell p) (put μ p (.lst ((primesOf m).map .int)))
def sp_still : DSp := fun ds μ Q => ∃ m, ds = [.d (.int m)] ∧ m ∈ mods ∧ Q (.d (rule m [(0, 1)])) μ
def sp_left_of : DSp := fun ds μ Q => ∃ p m t n F, ds = [.cell p, .d (.int m)] ∧ 0 < m ∧ μ p = some (tbl t) ∧ Tb t n F ∧ n ≤ 900000 ∧ ∀ r, Cn m r → (∀ f, Md m (ev r f) (F f)) → Q (.d (tm r)) μ
def sp_sums_of : DSp := fun ds μ Q => ∃ a b : Tm, ds = [.d (tm a), .d (tm b)] ∧ a.length + b.length ≤ 90000 ∧
  ∀ p μ' t, Grow μ μ' → μ' p = some (tbl t) → Tb t 90000 (fun f => ev a f + ev b f) → Q (.cell p) μ'
/-- small numbers -/
def Sm (a : Tm) : Prop := a.length ≤ 900 ∧ ∀ p ∈ a, p.2.natAbs < 2 ^ 20
def sp_products_of : DSp := fun ds μ Q => ∃ a b : Tm, ds = [.d (tm a), .d (tm b)] ∧ Sm a ∧ Sm b ∧
  ∀ p μ' t, Grow μ μ' → μ' p = some (tbl t) → Tb t 890000 (fun f => ev a fun x => ev b fun y => f (x + y)) → Q (.cell p) μ'
def sp_plus : DSp := fun ds μ Q => ∃ m a b, ds = [.d (rule m a), .d (rule m b)] ∧ Ok m a ∧ Ok m b ∧ ∀ r μ', Grow μ μ' → IsS m a b r → Q (.d (rule m r)) μ'
def sp_behind : DSp := fun ds μ Q => ∃ m a b, ds = [.d (rule m a), .d (rule m b)] ∧ Ok m a ∧ Ok m b ∧ ∀ r μ', Grow μ μ' → IsP m a b r → Q (.d (rule m r)) μ'
def sp_power : DSp := fun ds μ Q => ∃ m a A, ∃ n : Nat, ds = [.d (rule m a), .d (.int n)] ∧ Ok m a ∧ Wd A a ∧ n ≤ 40 ∧ n * A ≤ 400 ∧ ∀ r μ', Grow μ μ' → IsW m a n r → Q (.d (rule m r)) μ'
def sp__law_terms : DSp := fun ds μ Q => ∃ p n m, ds = [.cell p, .d (.int m)] ∧ m ∈ mods ∧ drawn 20 (fun r => ∃ a, r = .d (tm a) ∧ Cn m a ∧ Wd 4 a) p n μ Q
def sp__law_tidy : DSp := sp_left_of
def sp__law_product : DSp := fun ds μ Q => ∃ m a b, ds = [.d (tm a), .d (tm b), .d (.int m)] ∧ 0 < m ∧ Sm a ∧ Sm b ∧ ∀ r μ', Grow μ μ' → IsP m a b r → Q (.d (tm r)) μ'
def sp__law_power : DSp := fun ds μ Q => ∃ m a A, ∃ n : Nat, ds = [.d (tm a), .d (.int n), .d (.int m)] ∧ Ok m a ∧ Wd A a ∧ n ≤ 1000 ∧ n * A ≤ 400 ∧ ∀ r μ', Grow μ μ' → IsW m a n r → Q (.d (tm r)) μ'
def sp__law_sum : DSp := fun ds μ Q => ∃ m a b, ds = [.d (tm a), .d (tm b), .d (.int m)] ∧ 0 < m ∧ Sm a ∧ Sm b ∧ ∀ r μ', Grow μ μ' → IsS m a b r → Q (.d (tm r)) μ'
def sp__law_small_right : DSp := fun ds μ Q => ∃ m, ds = [.d (.int m)] ∧ m ∈ mods ∧ ∀ μ', Grow μ μ' → Q (.d (.bool true)) μ'
def sp__law_two_right : DSp := fun ds μ Q => ∃ m a b, ds = [.d (rule m a), .d (rule m b)] ∧ m ∈ mods ∧ Cn m a ∧ Cn m b ∧ Wd 200 a ∧ Wd 200 b ∧ ∀ μ', Grow μ μ' → Q (.d (.bool true)) μ'
def sp__law_wide_right : DSp := fun ds μ Q => ∃ p n m a b, ds = [.cell p, .d (rule m a), .d (rule m b)] ∧ m ∈ mods ∧ Cn m a ∧ Cn m b ∧ Wd 4 a ∧ Wd 4 b ∧ Src n μ p ∧ n + 10 ≤ 1000000 ∧ ∀ μ', Q (.d (.bool true)) μ'
def sp_law : DSp := fun ds μ Q => ∃ ns : List Int, ds = [.d (.list (ns.map .int))] ∧ (μ = fun _ => none) ∧ ns.length ≤ 63 ∧ (∀ z ∈ ns, Builtin.Int.intBits z ≤ 1048576) ∧ ∀ μ', Q (.d (.bool true)) μ'
end K01

namespace K01
open PySem L2 DL
def g_still_modulus {α : Type} : List α → List α
  | [x0] => [x0]
  | l => l
def g_primes_of_modulus {α : Type} : List α → List α
  | [x0] => [x0]
  | l => l
def g_power_times_rule {α : Type} : List α → List α
  | [x0, x1] => [x1, x0]
  | l => l
def g_plus_other_one {α : Type} : List α → List α
  | [x0, x1] => [x1, x0]
  | l => l
def g_behind_other_one {α : Type} : List α → List α
  | [x0, x1] => [x1, x0]
  | l => l
def rd_need_rule : DTS := (sIf (dNot (dB (dCallF sp_is_rule (aCons (dVar 0) aNil)))) sNever sNext)
def rd_need_same : DTS := (sIf (dB (dOp rdNeX (dOp rdIx (dVar 0) (dC (.int 0))) (dOp rdIx (dVar 1) (dC (.int 0))))) sNever sNext)
def rd_need_rules : DTS := (sSeq (sDrop (dCallF sp_need_rule (aCons (dVar 0) aNil)))
    (sSeq (sDrop (dCallF sp_need_rule (aCons (dVar 1) aNil)))
    (sDrop (dCallF sp_need_same (aCons (dVar 0) (aCons (dVar 1) aNil))))))
def rd_primes_of : DTS := (sSeq (sIf (dNot (dB (dCallF sp_is_modulus (aCons (dVar 0) aNil)))) sNever sNext)
    (sRet (dCall rdListC (aCons (dIxK primesT (dVar 0)) aNil))))
def rd_still : DTS := (sSeq (sIf (dNot (dB (dCallF sp_is_modulus (aCons (dVar 0) aNil)))) sNever sNext)
    (sRet (dTup (aCons (dVar 0) (aCons (dTup (aCons (dTup (aCons (dC (.int 0)) (aCons (dC (.int 1)) aNil))) aNil)) aNil)))))
def rd_left_of : DTS := (sRet (dCall rdTuple (aCons (dLc (dwList (dCall rdSortD (aCons (dVar 0) aNil))) (gdName 2) (dTr (dOp (rdI (fun _ j => 0 < j) fun i j => .int (i % j)) (dIxC (dVar 0) (dVar 2)) (dVar 1))) (dTup (aCons (dVar 2) (aCons (dOp (rdI (fun _ j => 0 < j) fun i j => .int (i % j)) (dIxC (dVar 0) (dVar 2)) (dVar 1)) aNil))) [2]) aNil)))
def lb_sums_of_1 : DTS := (sAsg (dOp rdPlus (dGetC (dVar 2) (dVar 3) (dC (.int 0))) (dVar 4)) (gdSub (dVar 2) (dVar 3) rdSetD))
def rd_sums_of : DTS := (sSeq (sAsg dDictC (gdName 2))
    (sSeq (sFor (dwTup (dOp rdPlus (dVar 0) (dVar 1))) (gdTup [3, 4]) (lb_sums_of_1))
    (sRet (dVar 2))))
def lb_products_of_1 : DTS := (sAsg (dOp rdPlus (dGetC (dVar 2) (dOp rdPlus (dVar 3) (dVar 5)) (dC (.int 0))) (dOp (rdI Bits fun i j => .int (i * j)) (dVar 4) (dVar 6))) (gdSub (dVar 2) (dOp rdPlus (dVar 3) (dVar 5)) rdSetD))
def lb_products_of_2 : DTS := (sFor (dwTup (dVar 1)) (gdTup [5, 6]) (lb_products_of_1))
def rd_products_of : DTS := (sSeq (sAsg dDictC (gdName 2))
    (sSeq (sFor (dwTup (dVar 0)) (gdTup [3, 4]) (lb_products_of_2))
    (sRet (dVar 2))))
def rd_plus : DTS := (sSeq (sDrop (dCallF sp_need_rules (aCons (dVar 0) (aCons (dVar 1) aNil))))
    (sRet (dTup (aCons (dOp rdIx (dVar 0) (dC (.int 0))) (aCons (dCallF sp_left_of (aCons (dCallF sp_sums_of (aCons (dOp rdIx (dVar 0) (dC (.int 1))) (aCons (dOp rdIx (dVar 1) (dC (.int 1))) aNil))) (aCons (dOp rdIx (dVar 0) (dC (.int 0))) aNil))) aNil)))))
def rd_behind : DTS := (sSeq (sDrop (dCallF sp_need_rules (aCons (dVar 0) (aCons (dVar 1) aNil))))
    (sRet (dTup (aCons (dOp rdIx (dVar 0) (dC (.int 0))) (aCons (dCallF sp_left_of (aCons (dCallF sp_products_of (aCons (dOp rdIx (dVar 0) (dC (.int 1))) (aCons (dOp rdIx (dVar 1) (dC (.int 1))) aNil))) (aCons (dOp rdIx (dVar 0) (dC (.int 0))) aNil))) aNil)))))
def lb_power_1 : DTS := (sSeq (sAsg (dCallF sp_behind (aCons (dVar 2) (aCons (dVar 2) aNil))) (gdName 2))
    (sIf (dTr (dOp rdBand (dOp rdShr (dVar 1) (dVar 3)) (dC (.int 1)))) (sAsg (dCallF sp_behind (aCons (dVar 2) (aCons (dVar 0) aNil))) (gdName 2)) sNext))
def rd_power : DTS := (sSeq (sDrop (dCallF sp_need_rule (aCons (dVar 0) aNil)))
    (sSeq (sIf (dNot (dB (dChain cLe cLe (dC (.int 0)) (dVar 1) (dC (.int 40))))) sNever sNext)
    (sSeq (sAsg (dCallF sp_still (aCons (dOp rdIx (dVar 0) (dC (.int 0))) aNil)) (gdName 2))
    (sSeq (sFor (dwDown (dUn rdBitl (dVar 1))) (gdName 3) (lb_power_1))
    (sRet (dVar 2))))))
def rd__law_terms : DTS := (sSeq (sPar 2 3 (aCons (dCallF sp__law_pick (aCons (dVar 0) (aCons (dC (.int 8)) aNil))) (aCons (dCallF sp__law_primes (aCons (dVar 1) aNil)) aNil)))
    (sSeq (sAsg (dTup (aCons (dC (.int 1)) (aCons (dLc (dwRange1 (aCons (dC (.int 9)) aNil)) (gdName 6) dYes (dCallF sp__law_pick (aCons (dVar 0) (aCons (dC (.int 3)) aNil))) [6]) aNil))) (gdTup [4, 5]))
    (sSeq (sAsg (dLc (dwRange2 (aCons (dUn (rdU fun i => .int (-i)) (dC (.int 4))) (aCons (dC (.int 5)) aNil))) (gdName 6) (dB (dOp cGt (dOp rdIx (dVar 5) (dOp rdPlus (dVar 6) (dC (.int 4)))) (dC (.int 0)))) (dVar 6) [6]) (gdName 7))
    (sSeq (sIf (dB (dOp cLt (dVar 2) (dC (.int 3)))) (sAsg (dSl (dVar 7) dNo (dPart (dVar 2))) (gdName 7)) sNext)
    (sSeq (sIf (dAnd (dB (dOp cGt (dVar 2) (dC (.int 5)))) (dB (dOp rdEqX (dCall rdLen (aCons (dVar 3) aNil)) (dC (.int 2))))) (sAsg (dOp rdIx (dVar 3) (dOp (rdI0 fun i j => .int (i - j)) (dVar 2) (dC (.int 6)))) (gdName 4)) sNext)
    (sRet (dCall rdTuple (aCons (dLc (dwList (dVar 7)) (gdName 6) dYes (dTup (aCons (dVar 6) (aCons (dCallF sp__law_factor (aCons (dVar 0) (aCons (dVar 1) (aCons (dVar 4) aNil)))) aNil))) [6]) aNil))))))))
def rd__law_tidy : DTS := (sRet (dCall rdTuple (aCons (dLc (dwList (dCall rdSortD (aCons (dVar 0) aNil))) (gdName 2) (dB (dOp rdNeX (dOp (rdI (fun _ j => 0 < j) fun i j => .int (i % j)) (dCall rdInt (aCons (dIxC (dVar 0) (dVar 2)) aNil)) (dVar 1)) (dC (.int 0)))) (dTup (aCons (dVar 2) (aCons (dOp (rdI (fun _ j => 0 < j) fun i j => .int (i % j)) (dCall rdInt (aCons (dIxC (dVar 0) (dVar 2)) aNil)) (dVar 1)) aNil))) [2]) aNil)))
def lb__law_product_1 : DTS := (sAsg (dOp rdPlus (dGetC (dVar 3) (dOp rdPlus (dVar 4) (dVar 6)) (dC (.int 0))) (dOp (rdI Bits fun i j => .int (i * j)) (dVar 5) (dVar 7))) (gdSub (dVar 3) (dOp rdPlus (dVar 4) (dVar 6)) rdSetD))
def lb__law_product_2 : DTS := (sFor (dwTup (dVar 1)) (gdTup [6, 7]) (lb__law_product_1))
def rd__law_product : DTS := (sSeq (sAsg dDictC (gdName 3))
    (sSeq (sFor (dwTup (dVar 0)) (gdTup [4, 5]) (lb__law_product_2))
    (sRet (dCallF sp__law_tidy (aCons (dVar 3) (aCons (dVar 2) aNil))))))
def lb__law_power_1 : DTS := (sAsg (dCallF sp__law_product (aCons (dVar 3) (aCons (dVar 0) (aCons (dVar 2) aNil)))) (gdName 3))
def rd__law_power : DTS := (sSeq (sAsg (dTup (aCons (dTup (aCons (dC (.int 0)) (aCons (dC (.int 1)) aNil))) aNil)) (gdName 3))
    (sSeq (sFor (dwRange1 (aCons (dVar 1) aNil)) (gdName 4) (lb__law_power_1))
    (sRet (dVar 3))))
def lb__law_sum_1 : DTS := (sAsg (dOp rdPlus (dGetC (dVar 3) (dVar 4) (dC (.int 0))) (dVar 5)) (gdSub (dVar 3) (dVar 4) rdSetD))
def rd__law_sum : DTS := (sSeq (sAsg dDictC (gdName 3))
    (sSeq (sFor (dwTup (dOp rdPlus (dVar 0) (dVar 1))) (gdTup [4, 5]) (lb__law_sum_1))
    (sRet (dCallF sp__law_tidy (aCons (dVar 3) (aCons (dVar 2) aNil))))))
def rd__law_small_right : DTS := (sSeq (sAsg (dCallF sp_primes_of (aCons (dVar 0) aNil)) (gdName 1))
    (sSeq (sIf (dOr (dB (dOp rdNeX (dCall rdReprC (aCons (dVar 1) aNil)) (dCall rdRepr (aCons (dCallF sp__law_primes (aCons (dVar 0) aNil)) aNil)))) (dB (dOp rdNeX (dCall rdRepr (aCons (dCallF sp_still (aCons (dVar 0) aNil)) aNil)) (dCall rdRepr (aCons (dTup (aCons (dVar 0) (aCons (dTup (aCons (dTup (aCons (dC (.int 0)) (aCons (dC (.int 1)) aNil))) aNil)) aNil))) aNil))))) (sRet (dC (.bool false))) sNext)
    (sSeq (sDrop (dAppend (dVar 1) (dC (.int 4))))
    (sSeq (sIf (dB (dOp rdNeX (dCall rdRepr (aCons (dCallK sp_still 1 g_still_modulus (aCons (dVar 0) aNil)) aNil)) (dCall rdRepr (aCons (dTup (aCons (dVar 0) (aCons (dTup (aCons (dTup (aCons (dC (.int 0)) (aCons (dC (.int 1)) aNil))) aNil)) aNil))) aNil)))) (sRet (dC (.bool false))) sNext)
    (sRet (dOp rdEqX (dCall rdReprC (aCons (dCallK sp_primes_of 1 g_primes_of_modulus (aCons (dVar 0) aNil)) aNil)) (dCall rdRepr (aCons (dCallF sp__law_primes (aCons (dVar 0) aNil)) aNil))))))))
def rd__law_two_right : DTS := (sSeq (sAsg (dOp rdIx (dVar 0) (dC (.int 0))) (gdName 2))
    (sSeq (sAsg (dCall rdRepr (aCons (dTup (aCons (dVar 2) (aCons (dCallF sp__law_product (aCons (dOp rdIx (dVar 0) (dC (.int 1))) (aCons (dOp rdIx (dVar 1) (dC (.int 1))) (aCons (dVar 2) aNil)))) aNil))) aNil)) (gdName 3))
    (sSeq (sIf (dOr (dB (dOp rdNeX (dCall rdRepr (aCons (dCallF sp_behind (aCons (dVar 0) (aCons (dVar 1) aNil))) aNil)) (dVar 3))) (dOr (dB (dOp rdNeX (dCall rdRepr (aCons (dCallF sp_behind (aCons (dVar 1) (aCons (dVar 0) aNil))) aNil)) (dVar 3))) (dB (dOp rdNeX (dCall rdRepr (aCons (dCallK sp_behind 2 g_behind_other_one (aCons (dVar 1) (aCons (dVar 0) aNil))) aNil)) (dVar 3))))) (sRet (dC (.bool false))) sNext)
    (sSeq (sAsg (dCall rdRepr (aCons (dTup (aCons (dVar 2) (aCons (dCallF sp__law_sum (aCons (dOp rdIx (dVar 0) (dC (.int 1))) (aCons (dOp rdIx (dVar 1) (dC (.int 1))) (aCons (dVar 2) aNil)))) aNil))) aNil)) (gdName 3))
    (sRet (dAndV (dOp rdEqX (dCall rdRepr (aCons (dCallF sp_plus (aCons (dVar 0) (aCons (dVar 1) aNil))) aNil)) (dVar 3)) (dOp rdEqX (dCall rdRepr (aCons (dCallK sp_plus 2 g_plus_other_one (aCons (dVar 0) (aCons (dVar 1) aNil))) aNil)) (dVar 3))))))))
def rd__law_wide_right : DTS := (sSeq (sPar 3 4 (aCons (dOp rdIx (dVar 1) (dC (.int 0))) (aCons (dOp rdPlus (dC (.int 1)) (dCallF sp__law_pick (aCons (dVar 0) (aCons (dC (.int 5)) aNil)))) aNil)))
    (sSeq (sAsg (dCallF sp_power (aCons (dVar 1) (aCons (dVar 4) aNil))) (gdName 5))
    (sSeq (sIf (dB (dOp rdNeX (dCall rdRepr (aCons (dVar 5) aNil)) (dCall rdRepr (aCons (dTup (aCons (dVar 3) (aCons (dCallF sp__law_power (aCons (dOp rdIx (dVar 1) (dC (.int 1))) (aCons (dVar 4) (aCons (dVar 3) aNil)))) aNil))) aNil)))) (sRet (dC (.bool false))) sNext)
    (sSeq (sAsg (dCallF sp_behind (aCons (dVar 5) (aCons (dCallF sp_power (aCons (dVar 2) (aCons (dVar 4) aNil))) aNil))) (gdName 6))
    (sSeq (sIf (dB (dOp rdNeX (dCall rdRepr (aCons (dVar 6) aNil)) (dCall rdRepr (aCons (dTup (aCons (dVar 3) (aCons (dCallF sp__law_product (aCons (dOp rdIx (dVar 5) (dC (.int 1))) (aCons (dCallF sp__law_power (aCons (dOp rdIx (dVar 2) (dC (.int 1))) (aCons (dVar 4) (aCons (dVar 3) aNil)))) (aCons (dVar 3) aNil)))) aNil))) aNil)))) (sRet (dC (.bool false))) sNext)
    (sSeq (sIf (dOr (dNot (dB (dCallF sp__law_two_right (aCons (dVar 6) (aCons (dVar 2) aNil))))) (dNot (dB (dCallF sp__law_two_right (aCons (dVar 5) (aCons (dVar 6) aNil)))))) (sRet (dC (.bool false))) sNext)
    (sSeq (sIf (dB (dOp rdNeX (dCall rdRepr (aCons (dCallF sp_power (aCons (dVar 6) (aCons (dC (.int 2)) aNil))) aNil)) (dCall rdRepr (aCons (dTup (aCons (dVar 3) (aCons (dCallF sp__law_product (aCons (dOp rdIx (dVar 6) (dC (.int 1))) (aCons (dOp rdIx (dVar 6) (dC (.int 1))) (aCons (dVar 3) aNil)))) aNil))) aNil)))) (sRet (dC (.bool false))) sNext)
    (sSeq (sAsg (dOp rdPlus (dC (.int 2)) (dCallF sp__law_pick (aCons (dVar 0) (aCons (dC (.int 9)) aNil)))) (gdName 7))
    (sSeq (sAsg (dCallF sp__law_pick (aCons (dVar 0) (aCons (dOp rdPlus (dC (.int 1)) (dOp (rdI CDivW fun i j => .int (i / j)) (dOp rdIx (dLst (aCons (dC (.int 40)) (aCons (dC (.int 12)) (aCons (dC (.int 12)) aNil)))) (dCallF sp__law_pick (aCons (dVar 0) (aCons (dC (.int 3)) aNil)))) (dVar 7))) aNil))) (gdName 8))
    (sSeq (sAsg (dTup (aCons (dVar 3) (aCons (dCallF sp__law_power (aCons (dOp rdIx (dVar 1) (dC (.int 1))) (aCons (dOp (rdI Bits fun i j => .int (i * j)) (dVar 7) (dVar 8)) (aCons (dVar 3) aNil)))) aNil))) (gdName 9))
    (sRet (dOp rdEqX (dCall rdRepr (aCons (dCallK sp_power 2 g_power_times_rule (aCons (dVar 8) (aCons (dCallF sp_power (aCons (dVar 1) (aCons (dVar 7) aNil))) aNil))) aNil)) (dCall rdRepr (aCons (dVar 9) aNil))))))))))))))
def lb_law_1 : DTS := (sSeq (sAsg (dCallF sp__law_source (aCons (dVar 0) (aCons (dVar 1) aNil))) (gdName 2))
    (sSeq (sPar 3 4 (aCons (dCallF sp__law_modulus (aCons (dVar 2) aNil)) (aCons (dCallF sp__law_pick (aCons (dVar 2) (aCons (dC (.int 4)) aNil))) aNil)))
    (sSeq (sPar 5 6 (aCons (dTup (aCons (dVar 3) (aCons (dCallF sp__law_terms (aCons (dVar 2) (aCons (dVar 3) aNil))) aNil))) (aCons (dTup (aCons (dVar 3) (aCons (dCallF sp__law_terms (aCons (dVar 2) (aCons (dVar 3) aNil))) aNil))) aNil)))
    (sSeq (sAsg (dCallF sp__law_pick (aCons (dVar 2) (aCons (dC (.int 5)) aNil))) (gdName 7))
    (sSeq (sIf (dAnd (dB (dOp rdEqX (dVar 4) (dC (.int 0)))) (dB (dOp rdEqX (dVar 1) (dC (.int 0))))) (sAsg (dOp rdIx (dLst (aCons (dC (.int 40)) (aCons (dCallF sp__law_pick (aCons (dVar 2) (aCons (dC (.int 41)) aNil))) aNil))) (dCallF sp__law_pick (aCons (dVar 2) (aCons (dC (.int 2)) aNil)))) (gdName 7)) sNext)
    (sSeq (sIf (dOr (dNot (dB (dCallF sp__law_small_right (aCons (dVar 3) aNil)))) (dOr (dNot (dB (dCallF sp__law_two_right (aCons (dVar 5) (aCons (dVar 6) aNil))))) (dNot (dB (dCallF sp__law_two_right (aCons (dVar 5) (aCons (dVar 5) aNil))))))) (sRet (dC (.bool false))) sNext)
    (sSeq (sAsg (dCall rdRepr (aCons (dTup (aCons (dVar 3) (aCons (dCallF sp__law_power (aCons (dOp rdIx (dVar 5) (dC (.int 1))) (aCons (dVar 7) (aCons (dVar 3) aNil)))) aNil))) aNil)) (gdName 8))
    (sSeq (sIf (dOr (dB (dOp rdNeX (dCall rdRepr (aCons (dCallF sp_power (aCons (dVar 5) (aCons (dVar 7) aNil))) aNil)) (dVar 8))) (dB (dOp rdNeX (dCall rdRepr (aCons (dCallK sp_power 2 g_power_times_rule (aCons (dVar 7) (aCons (dVar 5) aNil))) aNil)) (dVar 8)))) (sRet (dC (.bool false))) sNext)
    (sIf (dAnd (dB (dOp rdEqX (dVar 1) (dC (.int 0)))) (dNot (dB (dCallF sp__law_wide_right (aCons (dVar 2) (aCons (dVar 5) (aCons (dVar 6) aNil))))))) (sRet (dC (.bool false))) sNext)))))))))
def rd_law : DTS := (sSeq (sFor (dwRange1 (aCons (dCall rdMax2 (aCons (dC (.int 1)) (aCons (dCall rdMin2 (aCons (dC (.int 6)) (aCons (dCall rdLen (aCons (dVar 0) aNil)) aNil))) aNil))) aNil)) (gdName 1) (lb_law_1))
    (sRet (dC (.bool true))))
end K01

namespace K01
open PySem L2 DL RF
local macro_rules | `(tactic| walk_at "dk") => `(tactic| simp only [cLt, cLe, cGt, cGe, dVar, dC, dOp, dUn, rdI, rdI0, rdU, dChain, dB, dAnd, dOr, dNot, dAndV, dOrV, dNotV, dIf, rdIsN, rdNotN, isNone, aNil, aCons, allD, dTup, dLst, dLstC, dCall, rdEq, rdNe, rdIn, seqOf, rdIx, dNo, dPart, dSl, rdLen, rdTuple, rdList, rdSum, rdAll, rdAny, rdAbs, rdMax2, rdMin2, rdInt, rdStr, dIsi, rdRepr, sNext, sSeq, sBreak, sCont, sRet, sDrop, sIf, sNever, gdName, setAll, gdTup, sAsg, sPar, rdSetL, gdSub, dwList, dwTup, dwRange1, dwRange2, dwEnum, dwZip, wipeD, dLc, dLcC, dYes, sFor, dCallF, dCallK, rdPlus, rdEqX, rdEqE, rdNeX, dRev, dDict0, dDict1, dTr, dAppend, dInK, dDictC, dGetC, dIxC, rdSetD, rdSortD, rdShr, rdBand, rdBitl, dwDown, rdListC, rdReprC, dIxK, dstart, List.map_cons, List.map_nil, List.length_cons, List.length_nil, List.replicate_succ, List.replicate_zero, List.cons_append, List.nil_append, List.getElem?_cons_zero, List.getElem?_cons_succ, List.getElem?_nil, List.set_cons_zero, List.set_cons_succ, Option.map_some, Option.map_none, Option.bind_some, Option.bind_none, Nat.reduceSub, Nat.reduceAdd, if_true, if_false, Bool.false_eq_true, reduceIte, true_and, and_true, atI0, atI1, Nat.sub_zero, Nat.zero_add, reduceCtorEq])

theorem Grow.refl (μ : Mu) : Grow μ μ := fun _ _ h => h
theorem Grow.trans {μ μ1 μ2 : Mu} (a : Grow μ μ1) (b : Grow μ1 μ2) : Grow μ μ2 := fun p c h => b p c (a p c h)
theorem Grow.new {μ : Mu} {p : Addr} {c : Cell} (h : μ p = none) : Grow μ (put μ p c) := fun b d e => by
  rw [put_ne (fun z => by subst z; rw [h] at e; cases e)]; exact e
theorem Grow.src {μ μ' : Mu} {p : Addr} {n : Nat} (g : Grow μ μ') (h : Src n μ p) : Src n μ' p := by
  obtain ⟨a, b, c, h1, h2⟩ := h
  exact ⟨a, b, c, g _ _ h1, h2⟩
/-- a comprehension that reads other cells -/
theorem lcGo_see {gd : DTG} {tt : DTT} {te : DT} {δw : DSt} {D : Addr} {μ0 : Mu} {fin : List PyData → Mu → Prop} {f : PyData → PyData} {p : PyData → Bool} : ∀ (ds acc : List PyData) (μ : Mu), (∀ b, b ≠ D → μ b = μ0 b) → μ D = some (.lst acc) → acc.length + ds.length ≤ 900000 →
    (∀ d ∈ ds, ∀ (μ : Mu) (K1 : DK) (K0 : Mu → Prop), (∀ b, b ≠ D → μ b = μ0 b) → (p d = true → K1 (.d (f d)) μ) → (p d = false → K0 μ) → gd (.d d) δw μ fun δ2 μ2 => tt δ2 μ2 fun b μ3 => if b = true then te δ2 μ3 K1 else K0 μ3) →
    (∀ μ', (∀ b, b ≠ D → μ' b = μ0 b) → fin (acc ++ (ds.filter p).map f) μ') → lcGo gd tt te δw D fin ds acc μ
  | [], acc, μ, hm, hD, hl, H, q => by
    unfold lcGo
    simpa using q μ hm
  | d :: ds, acc, μ, hm, hD, hl, H, q => by
    unfold lcGo
    refine H d List.mem_cons_self μ _ _ hm (fun hp => ?_) (fun hp => ?_)
    · refine ⟨hD, by simp at hl; omega, lcGo_see ds (acc ++ [f d]) _ (fun b hb => (put_ne hb).trans (hm b hb)) put_same (by simp at hl ⊢; omega) (fun e he => H e (List.mem_cons_of_mem _ he)) fun μ' h1 => ?_⟩
      have := q μ' h1
      simpa [List.filter_cons, hp] using this
    · refine ⟨hD, lcGo_see ds acc μ hm hD (by simp at hl; omega) (fun e he => H e (List.mem_cons_of_mem _ he)) fun μ' h1 => ?_⟩
      have := q μ' h1
      simpa [List.filter_cons, hp] using this
theorem lc_see {gd : DTG} {tt : DTT} {te : DT} {δw : DSt} {f : PyData → PyData} {p : PyData → Bool} {ds : List PyData} {μ : Mu} {fin : Addr → List PyData → Mu → Prop} (hl : ds.length ≤ 900000)
    (H : ∀ d ∈ ds, ∀ (μ' : Mu) (K1 : DK) (K0 : Mu → Prop), Grow μ μ' → (p d = true → K1 (.d (f d)) μ') → (p d = false → K0 μ') → gd (.d d) δw μ' fun δ2 μ2 => tt δ2 μ2 fun b μ3 => if b = true then te δ2 μ3 K1 else K0 μ3)
    (q : ∀ D μ', del μ' D = μ → fin D ((ds.filter p).map f) μ') : ∀ D, μ D = none → lcGo gd tt te δw D (fin D) ds [] (put μ D (.lst [])) := fun D hD =>
  lcGo_see (μ0 := μ) ds [] _ (fun b hb => put_ne hb) put_same (by simpa using hl) (fun d hd μ' K1 K0 hm h1 h0 => H d hd μ' K1 K0 (fun b c e => by
    rw [hm b fun z => by subst z; rw [hD] at e; cases e]; exact e) h1 h0) fun μ' h1 => by
    have e : del μ' D = μ := by
      funext b
      by_cases hb : b = D
      · subst hb; rw [del_same, hD]
      · rw [del_ne hb, h1 b hb]
    simpa using q D μ' e
theorem isPairs_tm {m : Int} {a : Tm} (c : Cn m a) : isPairs m (tm a) = true := by
  have h1 : (a.map pr).all (isPair m) = true := by
    simp only [List.all_eq_true, List.mem_map]
    rintro x ⟨p, hp, rfl⟩
    have := c.vl p hp
    simp only [pr, isPair, Bool.and_eq_true, decide_eq_true_eq]
    omega
  have h2 : ∀ (a : Tm), firsts (a.map pr) = a.map (·.1) := by
    intro a
    induction a with
    | nil => rfl
    | cons p a ih => simp only [List.map_cons, pr, firsts, List.cons.injEq, true_and]; exact ih
  have h3 : ∀ (a : Tm), a.Pairwise (fun a b => a.1 < b.1) → asc (a.map (·.1)) = true := by
    intro a
    induction a with
    | nil => intro _; rfl
    | cons p a ih =>
      intro h
      rw [List.pairwise_cons] at h
      cases a with
      | nil => rfl
      | cons q a =>
        simp only [List.map_cons, asc, Bool.and_eq_true, decide_eq_true_eq]
        exact ⟨h.1 q List.mem_cons_self, by simpa using ih h.2⟩
  simp only [tm, isPairs, h1, h2, h3 a c.so, Bool.and_self]
theorem Ok.len {m : Int} {a : Tm} (h : Ok m a) : a.length ≤ 801 := h.cn.len h.wd
theorem Ok.rule {m : Int} {a : Tm} (h : Ok m a) : isRule (rule m a) = true := by
  simp only [K01.rule, tm, isRule]
  rw [show isPairs m (.tuple (a.map pr)) = true from isPairs_tm h.cn]
  simp [h.mo]
theorem Ok.short {m : Int} {a : Tm} (h : Ok m a) : Short2 (K01.rule m a) := by
  have := h.len
  refine ⟨by simp, fun x hx => ?_⟩
  simp only [List.mem_cons, List.not_mem_nil, or_false] at hx
  rcases hx with rfl | rfl
  · trivial
  · show (a.map pr).length ≤ 100000
    rw [List.length_map]; omega
theorem Ok.sm {m : Int} {a : Tm} (h : Ok m a) : Sm a := ⟨by have := h.len; omega, fun p hp => by have := h.cn.vl p hp; have := modsB h.mo; omega⟩
theorem r_need_rule : ∀ ds μ Q, sp_need_rule ds μ Q → rd_need_rule (fin Q) (dstart 1 ds) μ := by
  rintro ds μ Q ⟨m, a, rfl, h, q⟩
  unfold rd_need_rule
  walk_at "dk"
  refine ⟨_, rfl, h.short, ?_⟩
  rw [h.rule]
  walk_at "dk"
  simp only [Bool.not_true, Bool.false_eq_true, if_false]
  exact q
theorem r_need_same : ∀ ds μ Q, sp_need_same ds μ Q → rd_need_same (fin Q) (dstart 2 ds) μ := by
  rintro ds μ Q ⟨m, a, b, rfl, q⟩
  unfold rd_need_same rule
  walk_at "dk"
  simp only [decide_true, Bool.not_true, Bool.false_eq_true, if_false]
  exact q
theorem r_need_rules : ∀ ds μ Q, sp_need_rules ds μ Q → rd_need_rules (fin Q) (dstart 2 ds) μ := by
  rintro ds μ Q ⟨m, a, b, rfl, ha, hb, q⟩
  unfold rd_need_rules
  walk_at "dk"
  refine ⟨m, a, rfl, ha, m, b, rfl, hb, m, a, b, rfl, q⟩
theorem r_still : ∀ ds μ Q, sp_still ds μ Q → rd_still (fin Q) (dstart 1 ds) μ := by
  rintro ds μ Q ⟨m, rfl, h, q⟩
  unfold rd_still
  walk_at "dk"
  refine ⟨_, rfl, ?_⟩
  simp only [isMod, h, decide_true]
  simp only [Bool.not_true, Bool.false_eq_true, if_false]
  exact ⟨by decide, by decide, by decide, q⟩
theorem lkp_mods : ∀ m ∈ mods, lkp primesT m = some (primesOf m) := by decide
theorem r_primes_of : ∀ ds μ Q, sp_primes_of ds μ Q → rd_primes_of (fin Q) (dstart 1 ds) μ := by
  rintro ds μ Q ⟨m, rfl, h, q⟩
  unfold rd_primes_of
  walk_at "dk"
  refine ⟨_, rfl, ?_⟩
  simp only [isMod, h, decide_true]
  simp only [Bool.not_true, Bool.false_eq_true, if_false, lkp_mods m h]
  exact q
def itemP (t : Tm) (m : Int) : PyData → Bool
  | .int k => decide (gt t k % m ≠ 0)
  | _ => false
def itemF (t : Tm) (m : Int) : PyData → PyData
  | .int k => .tuple [.int k, .int (gt t k % m)]
  | _ => .none
theorem tidy_data {t : Tm} {m : Int} {ys : List Int} : tm (tidyL t m ys) = .tuple (((ys.map PyData.int).filter (itemP t m)).map (itemF t m)) := by
  unfold tm tidyL
  rw [List.filter_map, List.map_map, List.map_map]
  rfl
theorem r_left_of : ∀ ds μ Q, sp_left_of ds μ Q → rd_left_of (fin Q) (dstart 3 ds) μ := by
  rintro ds μ Q ⟨p, m, t, n, F, rfl, hm, hp, ht, hn, q⟩
  unfold rd_left_of
  walk_at "dk"
  refine ⟨t, hp, Nat.le_trans ht.ln hn, fun ys h1 h2 => ?_⟩
  have hy : ∀ k ∈ ys, ∃ v, tget t k = some v := fun k hk => by
    obtain ⟨z, hz, rfl⟩ := List.mem_map.mp (h1.mem_iff.mp hk)
    exact ⟨_, gt_mem ht.nd hz⟩
  refine lc_see (f := itemF t m) (p := itemP t m) (by rw [List.length_map, h1.length_eq, List.length_map]; exact Nat.le_trans ht.ln hn) (fun d hd μ' K1 K0 hg k1 k0 => ?_) fun D μ' e => ?_
  · obtain ⟨k, hk, rfl⟩ := List.mem_map.mp hd
    obtain ⟨v, hv⟩ := hy k hk
    have eg : gt t k = v := by unfold gt; rw [hv]; rfl
    simp only [itemP, itemF, eg] at k1 k0
    walk_at "dk"
    refine ⟨t, v, hg p _ hp, hv, hm, ?_⟩
    by_cases h : v % m = 0
    · rw [if_neg (by simp [h])]
      exact k0 (by simp [h])
    · rw [if_pos (by simp [h])]
      exact ⟨t, v, hg p _ hp, hv, hm, by decide, k1 (by simp [h])⟩
  · rw [e]
    have := q _ (tidy_ok ht hm h1 h2).1 (tidy_ok ht hm h1 h2).2
    rw [tidy_data] at this
    exact this
theorem r__law_tidy : ∀ ds μ Q, sp__law_tidy ds μ Q → rd__law_tidy (fin Q) (dstart 3 ds) μ := by
  rintro ds μ Q ⟨p, m, t, n, F, rfl, hm, hp, ht, hn, q⟩
  unfold rd__law_tidy
  walk_at "dk"
  refine ⟨t, hp, Nat.le_trans ht.ln hn, fun ys h1 h2 => ?_⟩
  have hy : ∀ k ∈ ys, ∃ v, tget t k = some v := fun k hk => by
    obtain ⟨z, hz, rfl⟩ := List.mem_map.mp (h1.mem_iff.mp hk)
    exact ⟨_, gt_mem ht.nd hz⟩
  refine lc_see (f := itemF t m) (p := itemP t m) (by rw [List.length_map, h1.length_eq, List.length_map]; exact Nat.le_trans ht.ln hn) (fun d hd μ' K1 K0 hg k1 k0 => ?_) fun D μ' e => ?_
  · obtain ⟨k, hk, rfl⟩ := List.mem_map.mp hd
    obtain ⟨v, hv⟩ := hy k hk
    have eg : gt t k = v := by unfold gt; rw [hv]; rfl
    simp only [itemP, itemF, eg] at k1 k0
    walk_at "dk"
    refine ⟨t, v, hg p _ hp, hv, hm, ?_⟩
    by_cases h : v % m = 0
    · rw [if_neg (by simp [h])]
      exact k0 (by simp [h])
    · rw [if_pos (by simp [h])]
      exact ⟨t, v, hg p _ hp, hv, hm, by decide, k1 (by simp [h])⟩
  · rw [e]
    have := q _ (tidy_ok ht hm h1 h2).1 (tidy_ok ht hm h1 h2).2
    rw [tidy_data] at this
    exact this
end K01

namespace K01
open PySem L2 DL RF
local macro_rules | `(tactic| walk_at "dk") => `(tactic| simp only [cLt, cLe, cGt, cGe, dVar, dC, dOp, dUn, rdI, rdI0, rdU, dChain, dB, dAnd, dOr, dNot, dAndV, dOrV, dNotV, dIf, rdIsN, rdNotN, isNone, aNil, aCons, allD, dTup, dLst, dLstC, dCall, rdEq, rdNe, rdIn, seqOf, rdIx, dNo, dPart, dSl, rdLen, rdTuple, rdList, rdSum, rdAll, rdAny, rdAbs, rdMax2, rdMin2, rdInt, rdStr, dIsi, rdRepr, sNext, sSeq, sBreak, sCont, sRet, sDrop, sIf, sNever, gdName, setAll, gdTup, sAsg, sPar, rdSetL, gdSub, dwList, dwTup, dwRange1, dwRange2, dwEnum, dwZip, wipeD, dLc, dLcC, dYes, sFor, dCallF, dCallK, rdPlus, rdEqX, rdEqE, rdNeX, dRev, dDict0, dDict1, dTr, dAppend, dInK, dDictC, dGetC, dIxC, rdSetD, rdSortD, rdShr, rdBand, rdBitl, dwDown, rdListC, rdReprC, dIxK, dstart, List.map_cons, List.map_nil, List.length_cons, List.length_nil, List.replicate_succ, List.replicate_zero, List.cons_append, List.nil_append, List.getElem?_cons_zero, List.getElem?_cons_succ, List.getElem?_nil, List.set_cons_zero, List.set_cons_succ, Option.map_some, Option.map_none, Option.bind_some, Option.bind_none, Nat.reduceSub, Nat.reduceAdd, if_true, if_false, Bool.false_eq_true, reduceIte, true_and, and_true, atI0, atI1, Nat.sub_zero, Nat.zero_add, reduceCtorEq])
theorem grow_oth {μ μ1 μ2 : Mu} {p : Addr} (h : μ p = none) (g : Grow μ μ1) (o : Oth p μ1 μ2) : Grow μ μ2 := fun b c e => by
  rw [o b fun z => by subst z; rw [h] at e; cases e]
  exact g b c e
theorem _root_.RF.Tb.to {t : Tm} {n k : Nat} {F G : (Int → Int) → Int} (h : Tb t n F) (hn : n ≤ k) (hf : ∀ f, F f = G f) : Tb t k G := ⟨h.nd, Nat.le_trans h.ln hn, fun f => (h.ev f).trans (hf f)⟩
theorem _root_.RF.Tb.put {t : Tm} {n : Nat} {F : (Int → Int) → Int} (h : Tb t n F) (k v : Int) : Tb (tput t k ((tget t k).getD 0 + v)) (n + 1) (fun f => F f + v * f k) := by
  rw [put_ins h.nd]; exact h.ins
theorem tm_app {a b : Tm} : a.map pr ++ b.map pr = (a ++ b).map pr := by rw [List.map_append]
theorem loop_sums {D : DEnds} {x0 x1 : Option DV} {p : Addr} : ∀ (l : Tm) (t : Tm) (n : Nat) (F : (Int → Int) → Int) (y z : Option DV) (μ : Mu), μ p = some (tbl t) → Tb t n F → n + l.length ≤ 890000 →
    (∀ y z μ' t', Oth p μ μ' → μ' p = some (tbl t') → Tb t' (n + l.length) (fun f => F f + ev l f) → D.nx [x0, x1, some (.cell p), y, z] μ') → forGo (gdTup [3, 4]) lb_sums_of_1 D (l.map pr) [x0, x1, some (.cell p), y, z] μ
  | [], t, n, F, y, z, μ, hp, ht, hl, q => by
    unfold forGo
    exact q y z μ t (Oth.refl _ _) hp (ht.to (Nat.le_add_right _ _) fun f => by simp [ev_nil])
  | x :: l, t, n, F, y, z, μ, hp, ht, hl, q => by
    simp only [List.length_cons] at hl
    rw [List.map_cons]
    unfold forGo lb_sums_of_1 pr
    walk_at "dk"
    refine ⟨⟨t, hp⟩, t, hp, t, hp, Nat.lt_of_le_of_lt ht.ln (by omega), ?_⟩
    refine loop_sums l _ (n + 1) _ _ _ _ put_same (ht.put _ _) (by omega) fun y z μ' t' o h1 h2 => q y z μ' t' (Oth.put.trans o) h1 (h2.to (by simp only [List.length_cons]; omega) fun f => by simp only [ev_cons]; omega)
theorem loop_lsum {D : DEnds} {x0 x1 x2 : Option DV} {p : Addr} : ∀ (l : Tm) (t : Tm) (n : Nat) (F : (Int → Int) → Int) (y z : Option DV) (μ : Mu), μ p = some (tbl t) → Tb t n F → n + l.length ≤ 890000 →
    (∀ y z μ' t', Oth p μ μ' → μ' p = some (tbl t') → Tb t' (n + l.length) (fun f => F f + ev l f) → D.nx [x0, x1, x2, some (.cell p), y, z] μ') → forGo (gdTup [4, 5]) lb__law_sum_1 D (l.map pr) [x0, x1, x2, some (.cell p), y, z] μ
  | [], t, n, F, y, z, μ, hp, ht, hl, q => by
    unfold forGo
    exact q y z μ t (Oth.refl _ _) hp (ht.to (Nat.le_add_right _ _) fun f => by simp [ev_nil])
  | x :: l, t, n, F, y, z, μ, hp, ht, hl, q => by
    simp only [List.length_cons] at hl
    rw [List.map_cons]
    unfold forGo lb__law_sum_1 pr
    walk_at "dk"
    refine ⟨⟨t, hp⟩, t, hp, t, hp, Nat.lt_of_le_of_lt ht.ln (by omega), ?_⟩
    refine loop_lsum l _ (n + 1) _ _ _ _ put_same (ht.put _ _) (by omega) fun y z μ' t' o h1 h2 => q y z μ' t' (Oth.put.trans o) h1 (h2.to (by simp only [List.length_cons]; omega) fun f => by simp only [ev_cons]; omega)
theorem r_sums_of : ∀ ds μ Q, sp_sums_of ds μ Q → rd_sums_of (fin Q) (dstart 5 ds) μ := by
  rintro ds μ Q ⟨a, b, rfl, hl, q⟩
  unfold rd_sums_of
  simp only [tm]
  walk_at "dk"
  intro p hp
  rw [tm_app]
  refine ⟨by rw [List.length_map, List.length_map]; omega, loop_sums (a ++ b) [] 0 _ _ _ _ put_same .nil (by rw [List.length_append]; omega) fun y z μ' t' o h1 h2 => ?_⟩
  walk_at "dk"
  exact q p μ' t' (grow_oth hp (.new hp) o) h1 (h2.to (by rw [List.length_append]; omega) fun f => by rw [ev_app, Int.zero_add])
theorem r__law_sum : ∀ ds μ Q, sp__law_sum ds μ Q → rd__law_sum (fin Q) (dstart 6 ds) μ := by
  rintro ds μ Q ⟨m, a, b, rfl, hm, ha, hb, q⟩
  have la := ha.1
  have lb := hb.1
  unfold rd__law_sum
  simp only [tm]
  walk_at "dk"
  intro p hp
  rw [tm_app]
  refine ⟨by rw [List.length_map, List.length_map]; omega, loop_lsum (a ++ b) [] 0 _ _ _ _ put_same .nil (by rw [List.length_append]; omega) fun y z μ' t' o h1 h2 => ?_⟩
  walk_at "dk"
  exact ⟨p, m, t', 890000, _, rfl, hm, h1, h2.to (by rw [List.length_append]; omega) (fun f => by rw [ev_app, Int.zero_add]), by decide, fun r h3 h4 => q r μ' (grow_oth hp (.new hp) o) ⟨h3, h4⟩⟩
theorem loop_prod_in {D : DEnds} {x0 x1 : Option DV} {p : Addr} {i v : Int} (hv : v.natAbs < 2 ^ 20) : ∀ (l : Tm) (t : Tm) (n : Nat) (F : (Int → Int) → Int) (y z : Option DV) (μ : Mu), (∀ x ∈ l, x.2.natAbs < 2 ^ 20) → μ p = some (tbl t) → Tb t n F → n + l.length ≤ 890000 →
    (∀ y z μ' t', Oth p μ μ' → μ' p = some (tbl t') → Tb t' (n + l.length) (fun f => F f + v * ev l fun x => f (i + x)) → D.nx [x0, x1, some (.cell p), some (.d (.int i)), some (.d (.int v)), y, z] μ') → forGo (gdTup [5, 6]) lb_products_of_1 D (l.map pr) [x0, x1, some (.cell p), some (.d (.int i)), some (.d (.int v)), y, z] μ
  | [], t, n, F, y, z, μ, hs, hp, ht, hl, q => by
    unfold forGo
    exact q y z μ t (Oth.refl _ _) hp (ht.to (Nat.le_add_right _ _) fun f => by simp [ev_nil])
  | x :: l, t, n, F, y, z, μ, hs, hp, ht, hl, q => by
    simp only [List.length_cons] at hl
    have hx := hs x List.mem_cons_self
    rw [List.map_cons]
    unfold forGo lb_products_of_1 pr
    walk_at "dk"
    refine ⟨⟨t, hp⟩, t, hp, Bits.of (a := 20) (b := 20) (bits_le hv) (bits_le hx) (by decide), t, hp, Nat.lt_of_le_of_lt ht.ln (by omega), ?_⟩
    refine loop_prod_in hv l _ (n + 1) _ _ _ _ (fun e he => hs e (List.mem_cons_of_mem _ he)) put_same (ht.put _ _) (by omega) fun y z μ' t' o h1 h2 => q y z μ' t' (Oth.put.trans o) h1 (h2.to (by simp only [List.length_cons]; omega) fun f => by
      simp only [ev_cons, Int.mul_add, Int.mul_assoc]; omega)
theorem loop_prod {D : DEnds} {x0 : Option DV} {p : Addr} {b : Tm} (hb : Sm b) : ∀ (l : Tm) (t : Tm) (n : Nat) (F : (Int → Int) → Int) (y z u w : Option DV) (μ : Mu), (∀ x ∈ l, x.2.natAbs < 2 ^ 20) → μ p = some (tbl t) → Tb t n F → n + l.length * b.length ≤ 890000 →
    (∀ y z u w μ' t', Oth p μ μ' → μ' p = some (tbl t') → Tb t' (n + l.length * b.length) (fun f => F f + ev l fun x => ev b fun y => f (x + y)) → D.nx [x0, some (.d (tm b)), some (.cell p), y, z, u, w] μ') → forGo (gdTup [3, 4]) lb_products_of_2 D (l.map pr) [x0, some (.d (tm b)), some (.cell p), y, z, u, w] μ
  | [], t, n, F, y, z, u, w, μ, hs, hp, ht, hl, q => by
    unfold forGo
    exact q y z u w μ t (Oth.refl _ _) hp (ht.to (Nat.le_add_right _ _) fun f => by simp [ev_nil])
  | x :: l, t, n, F, y, z, u, w, μ, hs, hp, ht, hl, q => by
    simp only [List.length_cons, Nat.succ_mul] at hl
    have hx := hs x List.mem_cons_self
    rw [List.map_cons]
    unfold forGo lb_products_of_2 pr
    simp only [tm]
    walk_at "dk"
    refine loop_prod_in hx b t n F _ _ _ hb.2 hp ht (by omega) fun y z μ' t' o h1 h2 => ?_
    refine loop_prod hb l t' _ _ _ _ _ _ _ (fun e he => hs e (List.mem_cons_of_mem _ he)) h1 h2 (by omega) fun y z u w μ2 t2 o2 h3 h4 => q y z u w μ2 t2 (o.trans o2) h3 (h4.to (by simp only [List.length_cons, Nat.succ_mul]; omega) fun f => by
      simp only [ev_cons]; omega)
theorem loop_lprod_in {D : DEnds} {x0 x1 x2 : Option DV} {p : Addr} {i v : Int} (hv : v.natAbs < 2 ^ 20) : ∀ (l : Tm) (t : Tm) (n : Nat) (F : (Int → Int) → Int) (y z : Option DV) (μ : Mu), (∀ x ∈ l, x.2.natAbs < 2 ^ 20) → μ p = some (tbl t) → Tb t n F → n + l.length ≤ 890000 →
    (∀ y z μ' t', Oth p μ μ' → μ' p = some (tbl t') → Tb t' (n + l.length) (fun f => F f + v * ev l fun x => f (i + x)) → D.nx [x0, x1, x2, some (.cell p), some (.d (.int i)), some (.d (.int v)), y, z] μ') → forGo (gdTup [6, 7]) lb__law_product_1 D (l.map pr) [x0, x1, x2, some (.cell p), some (.d (.int i)), some (.d (.int v)), y, z] μ
  | [], t, n, F, y, z, μ, hs, hp, ht, hl, q => by
    unfold forGo
    exact q y z μ t (Oth.refl _ _) hp (ht.to (Nat.le_add_right _ _) fun f => by simp [ev_nil])
  | x :: l, t, n, F, y, z, μ, hs, hp, ht, hl, q => by
    simp only [List.length_cons] at hl
    have hx := hs x List.mem_cons_self
    rw [List.map_cons]
    unfold forGo lb__law_product_1 pr
    walk_at "dk"
    refine ⟨⟨t, hp⟩, t, hp, Bits.of (a := 20) (b := 20) (bits_le hv) (bits_le hx) (by decide), t, hp, Nat.lt_of_le_of_lt ht.ln (by omega), ?_⟩
    refine loop_lprod_in hv l _ (n + 1) _ _ _ _ (fun e he => hs e (List.mem_cons_of_mem _ he)) put_same (ht.put _ _) (by omega) fun y z μ' t' o h1 h2 => q y z μ' t' (Oth.put.trans o) h1 (h2.to (by simp only [List.length_cons]; omega) fun f => by
      simp only [ev_cons, Int.mul_add, Int.mul_assoc]; omega)
theorem loop_lprod {D : DEnds} {x0 x2 : Option DV} {p : Addr} {b : Tm} (hb : Sm b) : ∀ (l : Tm) (t : Tm) (n : Nat) (F : (Int → Int) → Int) (y z u w : Option DV) (μ : Mu), (∀ x ∈ l, x.2.natAbs < 2 ^ 20) → μ p = some (tbl t) → Tb t n F → n + l.length * b.length ≤ 890000 →
    (∀ y z u w μ' t', Oth p μ μ' → μ' p = some (tbl t') → Tb t' (n + l.length * b.length) (fun f => F f + ev l fun x => ev b fun y => f (x + y)) → D.nx [x0, some (.d (tm b)), x2, some (.cell p), y, z, u, w] μ') → forGo (gdTup [4, 5]) lb__law_product_2 D (l.map pr) [x0, some (.d (tm b)), x2, some (.cell p), y, z, u, w] μ
  | [], t, n, F, y, z, u, w, μ, hs, hp, ht, hl, q => by
    unfold forGo
    exact q y z u w μ t (Oth.refl _ _) hp (ht.to (Nat.le_add_right _ _) fun f => by simp [ev_nil])
  | x :: l, t, n, F, y, z, u, w, μ, hs, hp, ht, hl, q => by
    simp only [List.length_cons, Nat.succ_mul] at hl
    have hx := hs x List.mem_cons_self
    rw [List.map_cons]
    unfold forGo lb__law_product_2 pr
    simp only [tm]
    walk_at "dk"
    refine loop_lprod_in hx b t n F _ _ _ hb.2 hp ht (by omega) fun y z μ' t' o h1 h2 => ?_
    refine loop_lprod hb l t' _ _ _ _ _ _ _ (fun e he => hs e (List.mem_cons_of_mem _ he)) h1 h2 (by omega) fun y z u w μ2 t2 o2 h3 h4 => q y z u w μ2 t2 (o.trans o2) h3 (h4.to (by simp only [List.length_cons, Nat.succ_mul]; omega) fun f => by
      simp only [ev_cons]; omega)
theorem r_products_of : ∀ ds μ Q, sp_products_of ds μ Q → rd_products_of (fin Q) (dstart 7 ds) μ := by
  rintro ds μ Q ⟨a, b, rfl, ha, hb, q⟩
  have hab : a.length * b.length ≤ 900 * 900 := Nat.mul_le_mul ha.1 hb.1
  unfold rd_products_of
  walk_at "dk"
  intro p hp
  simp only [tm]
  refine loop_prod hb a [] 0 _ _ _ _ _ _ ha.2 put_same .nil (by omega) fun y z u w μ' t' o h1 h2 => ?_
  walk_at "dk"
  exact q p μ' t' (grow_oth hp (.new hp) o) h1 (h2.to (by omega) fun f => by rw [Int.zero_add])
theorem r__law_product : ∀ ds μ Q, sp__law_product ds μ Q → rd__law_product (fin Q) (dstart 8 ds) μ := by
  rintro ds μ Q ⟨m, a, b, rfl, hm, ha, hb, q⟩
  have hab : a.length * b.length ≤ 900 * 900 := Nat.mul_le_mul ha.1 hb.1
  unfold rd__law_product
  walk_at "dk"
  intro p hp
  simp only [tm]
  refine loop_lprod hb a [] 0 _ _ _ _ _ _ ha.2 put_same .nil (by omega) fun y z u w μ' t' o h1 h2 => ?_
  walk_at "dk"
  exact ⟨p, m, t', 890000, _, rfl, hm, h1, h2.to (by omega) (fun f => by rw [Int.zero_add]), by decide, fun r h3 h4 => q r μ' (grow_oth hp (.new hp) o) ⟨h3, h4⟩⟩
end K01

namespace K01
open PySem L2 DL RF
local macro_rules | `(tactic| walk_at "dk") => `(tactic| simp only [cLt, cLe, cGt, cGe, dVar, dC, dOp, dUn, rdI, rdI0, rdU, dChain, dB, dAnd, dOr, dNot, dAndV, dOrV, dNotV, dIf, rdIsN, rdNotN, isNone, aNil, aCons, allD, dTup, dLst, dLstC, dCall, rdEq, rdNe, rdIn, seqOf, rdIx, dNo, dPart, dSl, rdLen, rdTuple, rdList, rdSum, rdAll, rdAny, rdAbs, rdMax2, rdMin2, rdInt, rdStr, dIsi, rdRepr, sNext, sSeq, sBreak, sCont, sRet, sDrop, sIf, sNever, gdName, setAll, gdTup, sAsg, sPar, rdSetL, gdSub, dwList, dwTup, dwRange1, dwRange2, dwEnum, dwZip, wipeD, dLc, dLcC, dYes, sFor, dCallF, dCallK, rdPlus, rdEqX, rdEqE, rdNeX, dRev, dDict0, dDict1, dTr, dAppend, dInK, dDictC, dGetC, dIxC, rdSetD, rdSortD, rdShr, rdBand, rdBitl, dwDown, rdListC, rdReprC, dIxK, dstart, List.map_cons, List.map_nil, List.length_cons, List.length_nil, List.replicate_succ, List.replicate_zero, List.cons_append, List.nil_append, List.getElem?_cons_zero, List.getElem?_cons_succ, List.getElem?_nil, List.set_cons_zero, List.set_cons_succ, Option.map_some, Option.map_none, Option.bind_some, Option.bind_none, Nat.reduceSub, Nat.reduceAdd, if_true, if_false, Bool.false_eq_true, reduceIte, true_and, and_true, atI0, atI1, Nat.sub_zero, Nat.zero_add, reduceCtorEq])
theorem rngL {n : Nat} : (rangeD 0 n).length = n := by unfold rangeD; simp
theorem mods_pos {m : Int} (h : m ∈ mods) : 0 < m := by have := modsB h; omega
theorem Ok.of {m : Int} {a : Tm} {A : Nat} (h : m ∈ mods) (c : Cn m a) (w : Wd A a) (hA : A ≤ 400) : Ok m a := ⟨h, c, w.mono hA⟩
theorem r_plus : ∀ ds μ Q, sp_plus ds μ Q → rd_plus (fin Q) (dstart 2 ds) μ := by
  rintro ds μ Q ⟨m, a, b, rfl, ha, hb, q⟩
  have la := ha.len
  have lb := hb.len
  unfold rd_plus
  walk_at "dk"
  refine ⟨m, a, b, rfl, ha, hb, ?_⟩
  simp only [rule]
  walk_at "dk"
  refine ⟨a, b, rfl, by omega, fun p μ' t g h1 h2 => ?_⟩
  refine ⟨p, m, t, _, _, rfl, mods_pos ha.mo, h1, h2, by decide, fun r h3 h4 => ?_⟩
  walk_at "dk"
  exact ⟨by decide, q r μ' g ⟨h3, h4⟩⟩
theorem r_behind : ∀ ds μ Q, sp_behind ds μ Q → rd_behind (fin Q) (dstart 2 ds) μ := by
  rintro ds μ Q ⟨m, a, b, rfl, ha, hb, q⟩
  unfold rd_behind
  walk_at "dk"
  refine ⟨m, a, b, rfl, ha, hb, ?_⟩
  simp only [rule]
  walk_at "dk"
  refine ⟨a, b, rfl, ha.sm, hb.sm, fun p μ' t g h1 h2 => ?_⟩
  refine ⟨p, m, t, _, _, rfl, mods_pos ha.mo, h1, h2, by decide, fun r h3 h4 => ?_⟩
  walk_at "dk"
  exact ⟨by decide, q r μ' g ⟨h3, h4⟩⟩
theorem loop_lpow {D : DEnds} {m : Int} {a : Tm} {A : Nat} {x1 : Option DV} (ha : Ok m a) (wa : Wd A a) : ∀ (k i : Nat) (l : List PyData) (r : Tm) (y : Option DV) (μ : Mu), l.length = k → IsW m a i r → (i + k) * A ≤ 400 →
    (∀ y r μ', Grow μ μ' → IsW m a (i + k) r → D.nx [some (.d (tm a)), x1, some (.d (.int m)), some (.d (tm r)), y] μ') → forGo (gdName 4) lb__law_power_1 D l [some (.d (tm a)), x1, some (.d (.int m)), some (.d (tm r)), y] μ
  | 0, i, [], r, y, μ, _, hr, hA, q => by
    unfold forGo
    exact q y r μ (.refl _) hr
  | k + 1, i, d :: l, r, y, μ, hk, hr, hA, q => by
    have hiA : i * A ≤ 400 := Nat.le_trans (Nat.mul_le_mul_right A (by omega)) hA
    have hro : Ok m r := Ok.of ha.mo hr.1 (hr.wd wa) hiA
    unfold forGo lb__law_power_1
    walk_at "dk"
    refine ⟨m, r, a, rfl, mods_pos ha.mo, hro.sm, ha.sm, fun s μ' g hs => ?_⟩
    walk_at "dk"
    have hs' : IsW m a (i + 1) s := hr.mul (.one ha.cn) hs
    exact loop_lpow ha wa k (i + 1) l s _ μ' (by simpa using hk) hs' (by rw [Nat.add_assoc, Nat.add_comm 1]; exact hA) fun y r μ2 g2 h2 => q y r μ2 (g.trans g2) (by rw [Nat.add_assoc, Nat.add_comm 1] at h2; exact h2)
theorem r__law_power : ∀ ds μ Q, sp__law_power ds μ Q → rd__law_power (fin Q) (dstart 5 ds) μ := by
  rintro ds μ Q ⟨m, a, A, n, rfl, ha, wa, hn, hA, q⟩
  unfold rd__law_power
  walk_at "dk"
  refine ⟨by decide, by decide, by omega, ?_⟩
  have hl : (rangeD 0 ((n : Int)).toNat).length = n := by rw [rngL]; omega
  refine loop_lpow (x1 := some (.d (.int n))) ha wa n 0 _ [(0, 1)] _ _ hl (.zero (by have := modsB ha.mo; omega)) (by rw [Nat.zero_add]; exact hA) fun y r μ' g h => ?_
  walk_at "dk"
  rw [Nat.zero_add] at h
  exact q r μ' g h
theorem half_bit (n k : Nat) : n / 2 ^ k = 2 * (n / 2 ^ (k + 1)) + n / 2 ^ k % 2 := by
  rw [Nat.pow_succ, ← Nat.div_div_eq_div_mul]
  omega
theorem loop_pow {D : DEnds} {m : Int} {a : Tm} {A n : Nat} (ha : Ok m a) (wa : Wd A a) (hA : n * A ≤ 400) : ∀ (k : Nat) (r : Tm) (y : Option DV) (μ : Mu), IsW m a (n / 2 ^ k) r →
    (∀ y r μ', Grow μ μ' → IsW m a n r → D.nx [some (.d (rule m a)), some (.d (.int n)), some (.d (rule m r)), y] μ') → forGo (gdName 3) lb_power_1 D (downD k) [some (.d (rule m a)), some (.d (.int n)), some (.d (rule m r)), y] μ
  | 0, r, y, μ, hr, q => by
    unfold forGo downD
    simp only [List.range_zero, List.map_nil]
    exact q y r μ (.refl _) (by simpa using hr)
  | k + 1, r, y, μ, hr, q => by
    have small : ∀ j, n / 2 ^ j * A ≤ 400 := fun j => Nat.le_trans (Nat.mul_le_mul_right A (Nat.div_le_self _ _)) hA
    have hro : Ok m r := Ok.of ha.mo hr.1 (hr.wd wa) (small _)
    have e : downD (k + 1) = .int (k : Int) :: downD k := by
      unfold downD
      rw [List.range_succ_eq_map, List.map_cons, List.map_map]
      congr 1
      · congr 1; omega
      · refine List.map_congr_left fun i _ => ?_
        show PyData.int _ = PyData.int _
        congr 1
        show ((k + 1 : Nat) : Int) - 1 - ((i + 1 : Nat) : Int) = (k : Int) - 1 - (i : Int)
        omega
    rw [e]
    unfold forGo lb_power_1
    walk_at "dk"
    refine ⟨m, r, r, rfl, hro, hro, fun s μ' g hs => ?_⟩
    have hs2 : IsW m a (2 * (n / 2 ^ (k + 1))) s := by rw [Nat.two_mul]; exact hr.mul hr hs
    have le2 : 2 * (n / 2 ^ (k + 1)) ≤ n / 2 ^ k := by have := half_bit n k; omega
    have hso : Ok m s := Ok.of ha.mo hs.1 (hs2.wd wa) (Nat.le_trans (Nat.mul_le_mul_right A le2) (small k))
    walk_at "dk"
    refine ⟨by omega, ?_⟩
    have hb : Builtin.bitAnd ((n : Int) / 2 ^ ((k : Int)).toNat) 1 = ((n / 2 ^ k % 2 : Nat) : Int) := by
      rw [Int.toNat_natCast, show (n : Int) / 2 ^ k = ((n / 2 ^ k : Nat) : Int) by simp]
      exact band1 _
    rw [hb]
    have hh := half_bit n k
    by_cases h1 : n / 2 ^ k % 2 = 1
    · rw [h1, if_pos (by decide)]
      refine ⟨m, s, a, rfl, hso, ha, fun u μ2 g2 hu => ?_⟩
      have hu2 : IsW m a (n / 2 ^ k) u := by
        have := hs2.mul (.one ha.cn) hu
        rw [h1] at hh
        rw [hh]; exact this
      exact loop_pow ha wa hA k u _ μ2 hu2 fun y r μ3 g3 h3 => q y r μ3 ((g.trans g2).trans g3) h3
    · have h0 : n / 2 ^ k % 2 = 0 := by omega
      rw [h0, if_neg (by decide)]
      have hs3 : IsW m a (n / 2 ^ k) s := by
        rw [h0] at hh
        rw [hh]; exact hs2
      exact loop_pow ha wa hA k s _ μ' hs3 fun y r μ3 g3 h3 => q y r μ3 (g.trans g3) h3
theorem bits_up (n : Nat) : n / 2 ^ (Builtin.Int.intBits (n : Int)) = 0 := by
  refine Nat.div_eq_of_lt ?_
  unfold Builtin.Int.intBits
  by_cases h : n = 0
  · subst h; decide
  · have : ¬ (((n : Int)) == 0) = true := by simp; omega
    rw [if_neg this, Int.natAbs_natCast]
    exact Nat.lt_log2_self
theorem r_power : ∀ ds μ Q, sp_power ds μ Q → rd_power (fin Q) (dstart 4 ds) μ := by
  rintro ds μ Q ⟨m, a, A, n, rfl, ha, wa, hn, hA, q⟩
  unfold rd_power
  walk_at "dk"
  refine ⟨m, a, rfl, ha, ?_⟩
  simp only [rule]
  walk_at "dk"
  have e1 : decide ((0 : Int) ≤ (n : Int)) = true := decide_eq_true (by omega)
  have e2 : decide ((n : Int) ≤ 40) = true := decide_eq_true (by omega)
  simp only [e1, e2, Bool.not_true, Bool.false_eq_true, if_false]
  refine ⟨m, rfl, ha.mo, ?_⟩
  have hb : Builtin.Int.intBits (n : Int) ≤ 6 := bits_le (by omega)
  refine ⟨⟨by omega, by omega⟩, ?_⟩
  rw [Int.toNat_natCast]
  refine loop_pow ha wa hA _ [(0, 1)] _ μ (by rw [bits_up]; exact .zero (by have := modsB ha.mo; omega)) fun y r μ' g h => ?_
  walk_at "dk"
  exact q r μ' g h
end K01

namespace K01
open PySem L2 DL RF
local macro_rules | `(tactic| walk_at "dk") => `(tactic| simp only [cLt, cLe, cGt, cGe, dVar, dC, dOp, dUn, rdI, rdI0, rdU, dChain, dB, dAnd, dOr, dNot, dAndV, dOrV, dNotV, dIf, rdIsN, rdNotN, isNone, aNil, aCons, allD, dTup, dLst, dLstC, dCall, rdEq, rdNe, rdIn, seqOf, rdIx, dNo, dPart, dSl, rdLen, rdTuple, rdList, rdSum, rdAll, rdAny, rdAbs, rdMax2, rdMin2, rdInt, rdStr, dIsi, rdRepr, sNext, sSeq, sBreak, sCont, sRet, sDrop, sIf, sNever, gdName, setAll, gdTup, sAsg, sPar, rdSetL, gdSub, dwList, dwTup, dwRange1, dwRange2, dwEnum, dwZip, wipeD, dLc, dLcC, dYes, sFor, dCallF, dCallK, rdPlus, rdEqX, rdEqE, rdNeX, dRev, dDict0, dDict1, dTr, dAppend, dInK, dDictC, dGetC, dIxC, rdSetD, rdSortD, rdShr, rdBand, rdBitl, dwDown, rdListC, rdReprC, dIxK, dstart, List.map_cons, List.map_nil, List.length_cons, List.length_nil, List.replicate_succ, List.replicate_zero, List.cons_append, List.nil_append, List.getElem?_cons_zero, List.getElem?_cons_succ, List.getElem?_nil, List.set_cons_zero, List.set_cons_succ, Option.map_some, Option.map_none, Option.bind_some, Option.bind_none, Nat.reduceSub, Nat.reduceAdd, if_true, if_false, Bool.false_eq_true, reduceIte, true_and, and_true, atI0, atI1, Nat.sub_zero, Nat.zero_add, reduceCtorEq])
theorem pick {p : Addr} {many : Int} {n : Nat} {μ : Mu} {Q : DK} (h : Src n μ p) (h1 : 1 ≤ many) (h2 : many ≤ 10 ^ 60) (hn : n ≤ 1000000) (q : ∀ r μ', 0 ≤ r → r < many → Src (n + 1) μ' p → Oth p μ μ' → Q (.d (.int r)) μ') : sp__law_pick [.cell p, .d (.int many)] μ Q :=
  ⟨p, many, n, rfl, h1, h2, h, hn, q⟩
theorem shares : ∀ m ∈ mods, (primesOf m).length = 2 → ∀ d ∈ primesOf m, 0 < d ∧ d ≤ 20 ∧ 1 ≤ m / d - 1 := by decide
theorem Paired.rights {α β : Type} {F : α → β → Prop} {G : β → Prop} (h : ∀ a b, F a b → G b) {l : List α} {r : List β} (p : Paired F l r) : ∀ b ∈ r, G b := fun b hb => by
  obtain ⟨a, ha⟩ := PySem.Paired.right p b hb
  exact h _ _ ha
def rangeI : List Int := [-4, -3, -2, -1, 0, 1, 2, 3, 4]
theorem paired_terms {m : Int} : ∀ {ns : List Int} {rs : List PyData}, Paired (fun d r => ∃ o f : Int, d = .int o ∧ r = .tuple [.int o, .int f] ∧ 0 < f ∧ f < m) (ns.map PyData.int) rs → ∃ a : Tm, rs = a.map pr ∧ a.map (·.1) = ns ∧ ∀ p ∈ a, 0 < p.2 ∧ p.2 < m
  | [], _, .nil => ⟨[], rfl, rfl, fun p h => by cases h⟩
  | n :: ns, _, .cons h t => by
    obtain ⟨o, f, e, rfl, h1, h2⟩ := h
    cases e
    obtain ⟨a, rfl, e2, h3⟩ := paired_terms t
    exact ⟨(n, f) :: a, rfl, by rw [List.map_cons, e2], fun p hp => (List.mem_cons.mp hp).elim (fun e => by rw [e]; exact ⟨h1, h2⟩) (h3 p)⟩
theorem terms_go {p : Addr} {m s : Int} {a2 a3 a5 a7 : Option DV} {offs : List Int} {μ : Mu} {n B : Nat} {Q : DK} (hs : Src n μ p) (h1 : 0 < s) (h2 : s ≤ 20) (h3 : m ≤ 20) (h4 : 1 ≤ m / s - 1) (ho : offs.Sublist rangeI) (hn : n + 9 ≤ B) (hB : B ≤ 1000000)
    (q : ∀ r μ', (∃ a, r = .d (tm a) ∧ Cn m a ∧ Wd 4 a) → Src B μ' p → Oth p μ μ' → Q r μ') : ∀ D, μ D = none → lcGo (gdName 6) dYes (dTup (aCons (dVar 6) (aCons (dCallF sp__law_factor (aCons (dVar 0) (aCons (dVar 1) (aCons (dVar 4) aNil)))) aNil)))
      [some (.cell p), some (.d (.int m)), a2, a3, some (.d (.int s)), a5, none, a7] D (fun acc μ' => Q (.d (.tuple acc)) (del μ' D)) (offs.map .int) [] (put μ D (.lst [])) := by
  have hl : offs.length ≤ 9 := ho.length_le
  refine lc_src (fin := fun D acc μ' => Q (.d (.tuple acc)) (del μ' D)) (P := fun d r => ∃ o f : Int, d = .int o ∧ r = .tuple [.int o, .int f] ∧ 0 < f ∧ f < m) 1 hs (by rw [List.length_map]; omega) (fun d hd μ2 k K1 hs2 hk1 hk2 h => ?_) fun D rs μ2 hp hs2 o2 => ?_
  · obtain ⟨o, ho, rfl⟩ := List.mem_map.mp hd
    rw [List.length_map] at hk2
    walk_at "dk"
    refine ⟨p, k, m, s, rfl, h1, h2, h3, h4, hs2, by omega, fun r μ' ⟨i, hi, hb, hb2⟩ hs3 o3 => ?_⟩
    subst hi
    walk_at "dk"
    exact ⟨by decide, h _ _ ⟨o, i, rfl, rfl, hb, hb2⟩ hs3 o3⟩
  · obtain ⟨a, rfl, e, hv⟩ := paired_terms hp
    rw [List.length_map] at hs2
    have hso : a.Pairwise fun x y => x.1 < y.1 := by
      have : (a.map (·.1)).Pairwise (· < ·) := by rw [e]; exact List.Pairwise.sublist ho (by decide)
      exact List.pairwise_map.mp this
    refine q _ _ ⟨a, rfl, ⟨hso, hv⟩, fun p hp => ?_⟩ (hs2.mono (by omega)) o2
    have : p.1 ∈ rangeI := ho.subset (by rw [← e]; exact List.mem_map_of_mem hp)
    revert this
    generalize p.1 = x
    intro hx
    simp only [rangeI, List.mem_cons, List.not_mem_nil, or_false] at hx
    omega
theorem r__law_terms : ∀ ds μ Q, sp__law_terms ds μ Q → rd__law_terms (fin Q) (dstart 8 ds) μ := by
  rintro ds μ Q ⟨p, n, m, rfl, hm, hs, hn, q⟩
  obtain ⟨m2, m15⟩ := modsB hm
  unfold rd__law_terms
  walk_at "dk"
  refine pick hs (by decide) (by decide) (by omega) fun way μ1 w0 w1 hs1 o1 => ⟨m, rfl, ?_⟩
  walk_at "dk"
  refine ⟨by decide, lc_src (P := fun _ r => ∃ i : Int, r = .int i) 1 hs1 (by decide) (fun d hd μ2 k K1 hs2 hk1 hk2 h => ?_) fun D marks μ2 hp hs2 o2 => ?_⟩
  · walk_at "dk"
    have hk3 : (rangeD 0 (Int.toNat 9)).length = 9 := rfl
    exact pick hs2 (by decide) (by decide) (by omega) fun r μ3 _ _ hs3 o3 => h _ _ ⟨r, rfl⟩ hs3 o3
  · have hlen : marks.length = 9 := by rw [← PySem.Paired.length hp]; rfl
    have hs2' : Src (n + 10) (del μ2 D) p := hs2
    generalize del μ2 D = μ3 at *
    refine ⟨by decide, by decide, lc_pure (f := fun d => d) (p := fun d => match d with
      | .int o => match atI marks (o + 4) with
        | some (.int k) => decide (0 < k)
        | _ => false
      | _ => false) (by decide) ?_ ?_⟩
    · intro d hd μ4 K1 K0 k1 k0
      have hd' : ∃ o : Int, d = .int o ∧ 0 ≤ o + 4 ∧ o + 4 < 9 := by
        unfold rangeD at hd
        obtain ⟨i, hi, rfl⟩ := List.mem_map.mp hd
        have hi := List.mem_range.mp hi
        have h9 : Int.toNat (5 - -4) = 9 := by decide
        exact ⟨_, rfl, by omega, by omega⟩
      obtain ⟨o, rfl, h0, h9⟩ := hd'
      obtain ⟨x, hx, hx2⟩ := getI (xs := marks) h0 (by omega)
      obtain ⟨k, rfl⟩ := Paired.rights (G := fun b => ∃ k : Int, b = .int k) (fun _ _ h => h) hp x hx2
      walk_at "dk"
      simp only [hx] at k1 k0 ⊢
      by_cases hk : 0 < k
      · simp only [hk, decide_true, if_true] at k1 ⊢
        exact k1 trivial
      · simp only [hk, decide_false, Bool.false_eq_true, if_false] at k0 ⊢
        exact k0 trivial
    · intro D2 μ4 e4
      rw [e4]
      generalize hacc : List.map (fun d => d) (List.filter _ _) = acc
      have ha : ∃ ns : List Int, acc = ns.map .int ∧ ns.Sublist rangeI := by
        rw [← hacc, List.map_id', show rangeD (-4) (Int.toNat (5 - -4)) = rangeI.map PyData.int from rfl, List.filter_map]
        exact ⟨_, rfl, List.filter_sublist⟩
      obtain ⟨ns, rfl, hns⟩ := ha
      have hc : ∀ lo hi, ∃ l : List Int, cutD (ns.map PyData.int) lo hi = l.map .int ∧ l.Sublist rangeI := fun lo hi => by
        unfold cutD
        rw [← List.map_drop, ← List.map_take]
        exact ⟨_, rfl, ((List.take_sublist _ _).trans (List.drop_sublist _ _)).trans hns⟩
      have go : ∀ (a2 a3 a5 a7 : Option DV) (l : List Int) (s : Int), l.Sublist rangeI → 0 < s → s ≤ 20 → 1 ≤ m / s - 1 → ∀ D, μ3 D = none → lcGo (gdName 6) dYes (dTup (aCons (dVar 6) (aCons (dCallF sp__law_factor (aCons (dVar 0) (aCons (dVar 1) (aCons (dVar 4) aNil)))) aNil)))
          [some (.cell p), some (.d (.int m)), a2, a3, some (.d (.int s)), a5, none, a7] D (fun acc μ' => Q (.d (.tuple acc)) (del μ' D)) (l.map .int) [] (put μ3 D (.lst [])) := fun a2 a3 a5 a7 l s h1 h3 h4 h5 =>
        terms_go (B := n + 20) hs2' h3 h4 (by omega) h5 h1 (by omega) hn fun r μ' a b c => q r μ' a b ((o1.trans o2).trans c)
      have s1 : 1 ≤ m / 1 - 1 := by rw [Int.ediv_one]; omega
      have sh : (primesOf m).length = 2 → 5 < way → ∃ d : Int, atI ((primesOf m).map PyData.int) (way - 6) = some (.int d) ∧ 0 < d ∧ d ≤ 20 ∧ 1 ≤ m / d - 1 := fun h hw => by
        obtain ⟨x, h1, h2⟩ := getI (xs := (primesOf m).map PyData.int) (r := way - 6) (by omega) (by rw [List.length_map]; omega)
        obtain ⟨d, hd, rfl⟩ := List.mem_map.mp h2
        exact ⟨d, h1, shares m hm h d hd⟩
      simp only [List.length_map]
      by_cases c3 : way < 3
      · have c5 : ¬ 5 < way := by omega
        simp only [c3, c5, decide_true, decide_false, if_true, if_false, Bool.false_eq_true]
        obtain ⟨l, e, hl⟩ := hc none (some way)
        rw [e]
        exact go _ _ _ _ l _ hl (by decide) (by decide) s1
      · simp only [c3, decide_false, if_false, Bool.false_eq_true]
        by_cases c5 : 5 < way
        · simp only [c5, decide_true, if_true]
          by_cases c2 : (primesOf m).length = 2
          · obtain ⟨d, e, x1, x2, x3⟩ := sh c2 c5
            have c2' : ((primesOf m).length : Int) = 2 := by omega
            simp only [c2', decide_true, if_true, e]
            exact go _ _ _ _ ns _ hns x1 x2 x3
          · have c2' : ¬ ((primesOf m).length : Int) = 2 := by omega
            simp only [c2', decide_false, if_false, Bool.false_eq_true]
            exact go _ _ _ _ ns _ hns (by decide) (by decide) s1
        · simp only [c5, decide_false, if_false, Bool.false_eq_true]
          exact go _ _ _ _ ns _ hns (by decide) (by decide) s1
end K01

namespace K01
open PySem L2 DL RF
local macro_rules | `(tactic| walk_at "dk") => `(tactic| simp only [cLt, cLe, cGt, cGe, dVar, dC, dOp, dUn, rdI, rdI0, rdU, dChain, dB, dAnd, dOr, dNot, dAndV, dOrV, dNotV, dIf, rdIsN, rdNotN, isNone, aNil, aCons, allD, dTup, dLst, dLstC, dCall, rdEq, rdNe, rdIn, seqOf, rdIx, dNo, dPart, dSl, rdLen, rdTuple, rdList, rdSum, rdAll, rdAny, rdAbs, rdMax2, rdMin2, rdInt, rdStr, dIsi, rdRepr, sNext, sSeq, sBreak, sCont, sRet, sDrop, sIf, sNever, gdName, setAll, gdTup, sAsg, sPar, rdSetL, gdSub, dwList, dwTup, dwRange1, dwRange2, dwEnum, dwZip, wipeD, dLc, dLcC, dYes, sFor, dCallF, dCallK, rdPlus, rdEqX, rdEqE, rdNeX, dRev, dDict0, dDict1, dTr, dAppend, dInK, dDictC, dGetC, dIxC, rdSetD, rdSortD, rdShr, rdBand, rdBitl, dwDown, rdListC, rdReprC, dIxK, dstart, List.map_cons, List.map_nil, List.length_cons, List.length_nil, List.replicate_succ, List.replicate_zero, List.cons_append, List.nil_append, List.getElem?_cons_zero, List.getElem?_cons_succ, List.getElem?_nil, List.set_cons_zero, List.set_cons_succ, Option.map_some, Option.map_none, Option.bind_some, Option.bind_none, Nat.reduceSub, Nat.reduceAdd, if_true, if_false, Bool.false_eq_true, reduceIte, true_and, and_true, atI0, atI1, Nat.sub_zero, Nat.zero_add, reduceCtorEq])
theorem _root_.DL.Sz.lst {k n : Nat} {xs : List PyData} (a : Pl k n (.tuple xs)) : Sz k n (.list xs) := by
  obtain ⟨a1, a2, a3, a4⟩ := tupInt_leaves _ a.ti
  have a5 := a.dp
  have a6 := a.bk
  simp only [PyData.leavesShort, PyData.showable, PyData.hasDict, noList, PyData.depth, PyData.bulk] at *
  refine ⟨?_, ?_, ?_, ?_, ?_⟩ <;> simp only [PyData.leavesShort, PyData.showable, PyData.hasDict, noList, PyData.depth, PyData.bulk, a1, a2, a3, a5, a6, Bool.false_eq_true, false_implies]
theorem prPl {m : Int} {a : Tm} (h : Ok m a) : ∀ x ∈ a.map pr, Pl 1 2 x := by
  rintro x hx
  obtain ⟨p, hp, rfl⟩ := List.mem_map.mp hx
  have h1 := h.wd p hp
  have h2 := h.cn.vl p hp
  have h3 := modsB h.mo
  refine Pl.pair (k := 0) (n := 0) (m := 0) (Pl.int ?_) (Pl.int ?_)
  · exact Nat.lt_of_le_of_lt h1 (by decide)
  · exact Nat.lt_of_lt_of_le (m := 15) (by omega) (by decide)
theorem Ok.show {m : Int} {a : Tm} (h : Ok m a) : Show (K01.rule m a) := by
  have h1 : Pl 2 (801 * 3) (tm a) := Pl.tup (k := 1) (n := 2) (m := 801) (prPl h) (by rw [List.length_map]; exact h.len)
  have h2 : Pl 2 0 (.int m) := (Pl.int (Nat.lt_of_lt_of_le (m := 16) (by have := modsB h.mo; omega) (by decide))).mono (by decide) (by decide)
  exact (Pl.pair h2 h1).sz.show (by decide) (by decide)
theorem primes_show {m : Int} : Show (.list ((primesOf m).map .int)) := by
  have h1 : Pl 1 (6 * 1) (.tuple ((primesOf m).map PyData.int)) := Pl.tup (k := 0) (n := 0) (m := 6) (by
    intro x hx
    obtain ⟨p, hp, rfl⟩ := List.mem_map.mp hx
    have hp := (List.mem_filter.mp hp).1
    simp only [List.mem_cons, List.not_mem_nil, or_false] at hp
    exact Pl.int (Nat.lt_of_lt_of_le (m := 14) (by omega) (by decide))) (by rw [List.length_map]; exact List.length_filter_le _ _)
  exact (Sz.lst h1).show (by decide) (by decide)
theorem one_ok {m : Int} (h : m ∈ mods) : Ok m [(0, 1)] := ⟨h, ⟨by simp, by have := modsB h; simp; omega⟩, fun p hp => by simp at hp; rw [hp]; decide⟩
theorem r__law_small_right : ∀ ds μ Q, sp__law_small_right ds μ Q → rd__law_small_right (fin Q) (dstart 2 ds) μ := by
  rintro ds μ Q ⟨m, rfl, hm, q⟩
  have hS := (one_ok hm).show
  unfold rd__law_small_right
  walk_at "dk"
  refine ⟨m, rfl, hm, fun p hp => ?_⟩
  walk_at "dk"
  refine ⟨_, put_same, primes_show, m, rfl, ?_⟩
  walk_at "dk"
  refine ⟨primes_show, ?_⟩
  rw [if_neg (by simp)]
  refine ⟨m, rfl, hm, ?_⟩
  simp only [rule, tm, pr, List.map_cons, List.map_nil] at hS ⊢
  try walk_at "dk"
  refine ⟨hS, by decide, by decide, by decide, hS, ?_⟩
  rw [if_neg (by simp)]
  refine ⟨⟨_, put_same⟩, ?_⟩
  simp only [put_same]
  have hl : ((primesOf m).map PyData.int).length ≤ 6 := by rw [List.length_map]; exact List.length_filter_le _ _
  refine ⟨by omega, m, rfl, hm, ?_⟩
  simp only [rule, tm, pr, List.map_cons, List.map_nil]
  try walk_at "dk"
  refine ⟨hS, by decide, by decide, by decide, hS, ?_⟩
  rw [if_neg (by simp)]
  refine ⟨m, rfl, hm, fun p2 hp2 => ?_⟩
  try walk_at "dk"
  refine ⟨_, put_same, primes_show, m, rfl, ?_⟩
  try walk_at "dk"
  refine ⟨primes_show, ?_⟩
  simp only [decide_true]
  refine q _ ?_
  rw [put_put] at hp2 ⊢
  exact (Grow.new hp).trans (Grow.new hp2)
theorem r__law_two_right : ∀ ds μ Q, sp__law_two_right ds μ Q → rd__law_two_right (fin Q) (dstart 4 ds) μ := by
  rintro ds μ Q ⟨m, a, b, rfl, hm, ca, cb, wa, wb, q⟩
  have oa : Ok m a := Ok.of hm ca wa (by decide)
  have ob : Ok m b := Ok.of hm cb wb (by decide)
  have m0 := mods_pos hm
  unfold rd__law_two_right
  simp only [rule]
  try walk_at "dk"
  refine ⟨m, a, b, rfl, m0, oa.sm, ob.sm, fun r μ1 g1 h1 => ?_⟩
  have hr : Ok m r := Ok.of hm h1.1 (h1.wd wa wb) (by decide)
  try walk_at "dk"
  refine ⟨by decide, hr.show, m, a, b, rfl, oa, ob, fun r2 μ2 g2 h2 => ?_⟩
  obtain rfl := h1.uniq m0 h2
  have hS := hr.show
  simp only [rule] at hS ⊢
  try walk_at "dk"
  refine ⟨hS, ?_⟩
  rw [if_neg (by simp)]
  refine ⟨m, b, a, rfl, ob, oa, fun r3 μ3 g3 h3 => ?_⟩
  obtain rfl := h1.comm.uniq m0 h3
  simp only [rule]
  try walk_at "dk"
  refine ⟨hS, ?_⟩
  rw [if_neg (by simp)]
  refine ⟨m, a, b, rfl, oa, ob, fun r4 μ4 g4 h4 => ?_⟩
  obtain rfl := h1.uniq m0 h4
  simp only [rule]
  try walk_at "dk"
  refine ⟨hS, ?_⟩
  rw [if_neg (by simp)]
  refine ⟨m, a, b, rfl, m0, oa.sm, ob.sm, fun s μ5 g5 h5 => ?_⟩
  have hs : Ok m s := Ok.of hm h5.1 (h5.wd wa wb) (by decide)
  have hS2 := hs.show
  simp only [rule] at hS2
  try walk_at "dk"
  refine ⟨by decide, hS2, m, a, b, rfl, oa, ob, fun s2 μ6 g6 h6 => ?_⟩
  obtain rfl := h5.uniq m0 h6
  simp only [rule]
  try walk_at "dk"
  refine ⟨hS2, ?_⟩
  simp only [decide_true]
  refine ⟨m, b, a, rfl, ob, oa, fun s3 μ7 g7 h7 => ?_⟩
  obtain rfl := h5.comm.uniq m0 h7
  simp only [rule]
  try walk_at "dk"
  refine ⟨hS2, ?_⟩
  simp only [decide_true]
  exact q _ (((((((g1.trans g2).trans g3).trans g4).trans g5).trans g6).trans g7))
end K01

namespace K01
open PySem L2 DL RF
local macro_rules | `(tactic| walk_at "dk") => `(tactic| simp only [cLt, cLe, cGt, cGe, dVar, dC, dOp, dUn, rdI, rdI0, rdU, dChain, dB, dAnd, dOr, dNot, dAndV, dOrV, dNotV, dIf, rdIsN, rdNotN, isNone, aNil, aCons, allD, dTup, dLst, dLstC, dCall, rdEq, rdNe, rdIn, seqOf, rdIx, dNo, dPart, dSl, rdLen, rdTuple, rdList, rdSum, rdAll, rdAny, rdAbs, rdMax2, rdMin2, rdInt, rdStr, dIsi, rdRepr, sNext, sSeq, sBreak, sCont, sRet, sDrop, sIf, sNever, gdName, setAll, gdTup, sAsg, sPar, rdSetL, gdSub, dwList, dwTup, dwRange1, dwRange2, dwEnum, dwZip, wipeD, dLc, dLcC, dYes, sFor, dCallF, dCallK, rdPlus, rdEqX, rdEqE, rdNeX, dRev, dDict0, dDict1, dTr, dAppend, dInK, dDictC, dGetC, dIxC, rdSetD, rdSortD, rdShr, rdBand, rdBitl, dwDown, rdListC, rdReprC, dIxK, dstart, List.map_cons, List.map_nil, List.length_cons, List.length_nil, List.replicate_succ, List.replicate_zero, List.cons_append, List.nil_append, List.getElem?_cons_zero, List.getElem?_cons_succ, List.getElem?_nil, List.set_cons_zero, List.set_cons_succ, Option.map_some, Option.map_none, Option.bind_some, Option.bind_none, Nat.reduceSub, Nat.reduceAdd, if_true, if_false, Bool.false_eq_true, reduceIte, true_and, and_true, atI0, atI1, Nat.sub_zero, Nat.zero_add, reduceCtorEq])
theorem r__law_wide_right : ∀ ds μ Q, sp__law_wide_right ds μ Q → rd__law_wide_right (fin Q) (dstart 10 ds) μ := by
  rintro ds μ Q ⟨p, k, m, a, b, rfl, hm, ca, cb, wa, wb, hs, hk, q⟩
  have oa : Ok m a := Ok.of hm ca wa (by decide)
  have ob : Ok m b := Ok.of hm cb wb (by decide)
  have m0 := mods_pos hm
  unfold rd__law_wide_right
  simp only [rule]
  walk_at "dk"
  refine pick hs (by decide) (by decide) (by omega) fun x μ1 x0 x1 hs1 o1 => ?_
  obtain ⟨n, hn⟩ := Int.eq_ofNat_of_zero_le (show 0 ≤ 1 + x by omega)
  have hn5 : n ≤ 5 := by omega
  walk_at "dk"
  rw [hn]
  refine ⟨m, a, 4, n, rfl, oa, wa, by omega, by omega, fun w μ2 g2 hw => ?_⟩
  have wdw : Wd 20 w := (hw.wd wa).mono (by omega)
  have ow : Ok m w := Ok.of hm hw.1 wdw (by decide)
  have Sw := ow.show
  simp only [rule] at Sw ⊢
  try walk_at "dk"
  refine ⟨Sw, m, a, 4, n, rfl, oa, wa, by omega, by omega, fun w2 μ3 g3 hw2 => ?_⟩
  obtain rfl := hw.uniq m0 hw2
  try walk_at "dk"
  refine ⟨by decide, Sw, ?_⟩
  rw [if_neg (by simp)]
  refine ⟨m, b, 4, n, rfl, ob, wb, by omega, by omega, fun u μ4 g4 hu => ?_⟩
  have wdu : Wd 20 u := (hu.wd wb).mono (by omega)
  have ou : Ok m u := Ok.of hm hu.1 wdu (by decide)
  try walk_at "dk"
  refine ⟨m, w, u, rfl, ow, ou, fun z μ5 g5 hz => ?_⟩
  have wdz : Wd 40 z := hz.wd wdw wdu
  have oz : Ok m z := Ok.of hm hz.1 wdz (by decide)
  have Sz := oz.show
  simp only [rule] at Sz ⊢
  try walk_at "dk"
  refine ⟨Sz, m, b, 4, n, rfl, ob, wb, by omega, by omega, fun u2 μ6 g6 hu2 => ?_⟩
  obtain rfl := hu.uniq m0 hu2
  try walk_at "dk"
  refine ⟨m, w, u, rfl, m0, ow.sm, ou.sm, fun z2 μ7 g7 hz2 => ?_⟩
  obtain rfl := hz.uniq m0 hz2
  try walk_at "dk"
  refine ⟨by decide, Sz, ?_⟩
  rw [if_neg (by simp)]
  refine ⟨m, z, b, rfl, hm, hz.1, cb, wdz.mono (by decide), wb.mono (by decide), fun μ8 g8 => ?_⟩
  try walk_at "dk"
  simp only [Bool.not_true, Bool.false_eq_true, if_false]
  refine ⟨m, w, z, rfl, hm, hw.1, hz.1, wdw.mono (by decide), wdz.mono (by decide), fun μ9 g9 => ?_⟩
  try walk_at "dk"
  simp only [Bool.not_true, Bool.false_eq_true, if_false]
  refine ⟨m, z, 40, 2, rfl, oz, wdz, by decide, by decide, fun y μ10 g10 hy => ?_⟩
  have oy : Ok m y := Ok.of hm hy.1 (hy.wd wdz) (by decide)
  have Sy := oy.show
  simp only [rule] at Sy ⊢
  try walk_at "dk"
  refine ⟨Sy, m, z, z, rfl, m0, oz.sm, oz.sm, fun y2 μ11 g11 hy2 => ?_⟩
  obtain rfl := hy.uniq m0 ((IsW.one hz.1).mul (IsW.one hz.1) hy2)
  try walk_at "dk"
  refine ⟨by decide, Sy, ?_⟩
  rw [if_neg (by simp)]
  have gg : Grow μ1 μ11 := g2.trans (g3.trans (g4.trans (g5.trans (g6.trans (g7.trans (g8.trans (g9.trans (g10.trans g11))))))))
  refine pick (gg.src hs1) (by decide) (by decide) (by omega) fun i μ12 i0 i1 hs12 o12 => ?_
  try walk_at "dk"
  obtain ⟨f, hf⟩ := Int.eq_ofNat_of_zero_le (show 0 ≤ 2 + i by omega)
  rw [hf]
  refine ⟨by decide, pick hs12 (by decide) (by decide) (by omega) fun c μ13 c0 c1 hs13 o13 => ?_⟩
  obtain ⟨d, e, hd⟩ := getI (xs := [.int 40, .int 12, .int 12]) c0 c1
  simp only [e]
  have hd' : ∃ t : Int, d = .int t ∧ 0 < t ∧ t ≤ 40 := by
    simp only [List.mem_cons, List.not_mem_nil, or_false] at hd
    rcases hd with rfl | rfl | rfl <;> exact ⟨_, rfl, by decide, by decide⟩
  obtain ⟨t, rfl, t0, t1⟩ := hd'
  try walk_at "dk"
  have f0 : (0 : Int) < f := by omega
  have q0 : 0 ≤ t / (f : Int) := Int.ediv_nonneg (by omega) (by omega)
  have q1 : t / (f : Int) ≤ t := Int.ediv_le_self _ (by omega)
  have q2 : (f : Int) * (t / (f : Int)) ≤ t := Int.mul_ediv_self_le (by omega)
  refine ⟨divW f0 (Int.lt_of_le_of_lt (b := 10) (by omega) (by decide)) _, pick hs13 (by omega) (Int.le_trans (b := 41) (by omega) (by decide)) (by omega) fun v μ14 v0 v1 hs14 o14 => ?_⟩
  obtain ⟨s, hs'⟩ := Int.eq_ofNat_of_zero_le v0
  subst hs'
  try walk_at "dk"
  have hfs : f * s ≤ 40 := by
    have h1 : (f : Int) * (s : Int) ≤ (f : Int) * (t / (f : Int)) := Int.mul_le_mul_of_nonneg_left (by omega) (by omega)
    have h2 : ((f * s : Nat) : Int) ≤ 40 := by rw [Int.natCast_mul]; omega
    omega
  have hf10 : f ≤ 10 := by omega
  rw [← Int.natCast_mul]
  refine ⟨Bits.of (a := 10) (b := 10) (bits_le (by omega)) (bits_le (by omega)) (by decide), m, a, 4, f * s, rfl, oa, wa, by omega, by omega, fun r μ15 g15 hr => ?_⟩
  have or_ : Ok m r := Ok.of hm hr.1 (hr.wd wa) (by omega)
  have Sr := or_.show
  simp only [rule] at Sr
  try walk_at "dk"
  refine ⟨by decide, m, a, 4, f, rfl, oa, wa, by omega, by omega, fun g μ16 g16 hg => ?_⟩
  have wdg : Wd (f * 4) g := hg.wd wa
  have og : Ok m g := Ok.of hm hg.1 wdg (by omega)
  refine ⟨m, g, f * 4, s, rfl, og, wdg, by omega, ?_, fun r2 μ17 g17 hr2 => ?_⟩
  · rw [← Nat.mul_assoc, Nat.mul_comm s f]; omega
  obtain rfl := hr.uniq m0 (hg.pow hr2)
  simp only [rule]
  try walk_at "dk"
  refine ⟨Sr, Sr, ?_⟩
  simp only [decide_true]
  exact q _
theorem told_use {m : Int} {a b : Tm} {μ : Mu} {Q : DK} (hm : m ∈ mods) (ca : Cn m a) (cb : Cn m b) (wa : Wd 4 a) (wb : Wd 4 b) (q : ∀ μ', Grow μ μ' → Q (.d (.bool true)) μ') : sp__law_two_right [.d (rule m a), .d (rule m b)] μ Q :=
  ⟨m, a, b, rfl, hm, ca, cb, wa.mono (by decide), wb.mono (by decide), q⟩
theorem loop_law {D : DEnds} {ns : List Int} (hl : ns.length ≤ 63) (hb : ∀ z ∈ ns, Builtin.Int.intBits z ≤ 1048576) (q : ∀ (xs : List (Option DV)) μ', xs.length = 8 → D.nx (some (.d (.list (ns.map .int))) :: xs) μ') : ∀ (ds : List PyData) (x1 x2 x3 x4 x5 x6 x7 x8 : Option DV) (μ : Mu), (∀ d ∈ ds, ∃ k : Nat, d = .int ((0 : Int) + k) ∧ k ≤ 12) → forGo (gdName 1) lb_law_1 D ds [some (.d (.list (ns.map .int))), x1, x2, x3, x4, x5, x6, x7, x8] μ
  | [], x1, x2, x3, x4, x5, x6, x7, x8, μ, h => by
    unfold forGo
    exact q [x1, x2, x3, x4, x5, x6, x7, x8] μ rfl
  | d :: ds, x1, x2, x3, x4, x5, x6, x7, x8, μ, h => by
    obtain ⟨k, rfl, hk⟩ := h d List.mem_cons_self
    have rest := fun x1 x2 x3 x4 x5 x6 x7 x8 μ => loop_law hl hb q ds x1 x2 x3 x4 x5 x6 x7 x8 μ fun d hd => h d (List.mem_cons_of_mem _ hd)
    unfold forGo lb_law_1
    try walk_at "dk"
    refine ⟨ns, k, by simp, hl, hb, hk, fun p μ1 hp hs1 o1 => ?_⟩
    try walk_at "dk"
    refine ⟨p, 0, rfl, hs1, by decide, fun r μ2 ⟨m, hm, e⟩ hs2 o2 => ?_⟩
    subst e
    have m0 := mods_pos hm
    try walk_at "dk"
    refine pick hs2 (by decide) (by decide) (by decide) fun many μ3 y0 y1 hs3 o3 => ?_
    try walk_at "dk"
    refine ⟨p, _, m, rfl, hm, hs3, by decide, fun r μ4 ⟨a, e, ca, wa⟩ hs4 o4 => ?_⟩
    subst e
    try walk_at "dk"
    refine ⟨by decide, p, _, m, rfl, hm, hs4, by decide, fun r μ5 ⟨b, e, cb, wb⟩ hs5 o5 => ?_⟩
    subst e
    have oa : Ok m a := Ok.of hm ca wa (by decide)
    try walk_at "dk"
    refine ⟨by decide, pick hs5 (by decide) (by decide) (by decide) fun t μ6 t0 t1 hs6 o6 => ?_⟩
    try walk_at "dk"
    obtain ⟨n, rfl⟩ := Int.eq_ofNat_of_zero_le t0
    by_cases hk0 : (0 : Int) + k = 0
    · by_cases hm0 : many = 0
      · simp only [hk0, hm0, decide_true, if_true]
        refine pick hs6 (by decide) (by decide) (by decide) fun u μ7 u0 u1 hs7 o7 => ?_
        obtain ⟨n2, rfl⟩ := Int.eq_ofNat_of_zero_le u0
        try walk_at "dk"
        refine ⟨by decide, pick hs7 (by decide) (by decide) (by decide) fun c μ8 c0 c1 hs8 o8 => ?_⟩
        obtain ⟨d, e, hd⟩ := getI (xs := [.int 40, .int n2]) c0 c1
        simp only [e]
        have hd' : ∃ j : Nat, d = .int (j : Int) ∧ j ≤ 40 := by
          simp only [List.mem_cons, List.not_mem_nil, or_false] at hd
          rcases hd with rfl | rfl
          · exact ⟨40, rfl, by decide⟩
          · exact ⟨n2, rfl, by omega⟩
        obtain ⟨j, rfl, hj⟩ := hd'
        refine ⟨m, rfl, hm, fun μa ga => ?_⟩
        try walk_at "dk"
        simp only [Bool.not_true, Bool.false_eq_true, if_false]
        refine told_use hm ca cb wa wb fun μb gb => ?_
        try walk_at "dk"
        simp only [Bool.not_true, Bool.false_eq_true, if_false]
        refine told_use hm ca ca wa wa fun μc gc => ?_
        try walk_at "dk"
        simp only [Bool.not_true, Bool.false_eq_true, if_false]
        refine ⟨m, a, 4, j, rfl, oa, wa, by omega, by omega, fun r μd gd hr => ?_⟩
        have or_ : Ok m r := Ok.of hm hr.1 (hr.wd wa) (by omega)
        have Sr := or_.show
        simp only [rule] at Sr
        try walk_at "dk"
        refine ⟨by decide, Sr, m, a, 4, j, rfl, oa, wa, by omega, by omega, fun r2 μe ge hr2 => ?_⟩
        obtain rfl := hr.uniq m0 hr2
        simp only [rule]
        try walk_at "dk"
        refine ⟨Sr, ?_⟩
        rw [if_neg (by simp)]
        refine ⟨m, a, 4, j, rfl, oa, wa, by omega, by omega, fun r3 μf gf hr3 => ?_⟩
        obtain rfl := hr.uniq m0 hr3
        simp only [rule]
        try walk_at "dk"
        refine ⟨Sr, ?_⟩
        rw [if_neg (by simp)]
        refine ⟨p, _, m, a, b, rfl, hm, ca, cb, wa, wb, (ga.trans (gb.trans (gc.trans (gd.trans (ge.trans gf))))).src hs8, by decide, fun μg => ?_⟩
        try walk_at "dk"
        simp only [Bool.not_true, Bool.false_eq_true, if_false]
        exact rest _ _ _ _ _ _ _ _ _
      · simp only [hk0, hm0, decide_true, decide_false, if_true, if_false, Bool.false_eq_true]
        refine ⟨m, rfl, hm, fun μa ga => ?_⟩
        try walk_at "dk"
        simp only [Bool.not_true, Bool.false_eq_true, if_false]
        refine told_use hm ca cb wa wb fun μb gb => ?_
        try walk_at "dk"
        simp only [Bool.not_true, Bool.false_eq_true, if_false]
        refine told_use hm ca ca wa wa fun μc gc => ?_
        try walk_at "dk"
        simp only [Bool.not_true, Bool.false_eq_true, if_false]
        refine ⟨m, a, 4, n, rfl, oa, wa, by omega, by omega, fun r μd gd hr => ?_⟩
        have or_ : Ok m r := Ok.of hm hr.1 (hr.wd wa) (by omega)
        have Sr := or_.show
        simp only [rule] at Sr
        try walk_at "dk"
        refine ⟨by decide, Sr, m, a, 4, n, rfl, oa, wa, by omega, by omega, fun r2 μe ge hr2 => ?_⟩
        obtain rfl := hr.uniq m0 hr2
        simp only [rule]
        try walk_at "dk"
        refine ⟨Sr, ?_⟩
        rw [if_neg (by simp)]
        refine ⟨m, a, 4, n, rfl, oa, wa, by omega, by omega, fun r3 μf gf hr3 => ?_⟩
        obtain rfl := hr.uniq m0 hr3
        simp only [rule]
        try walk_at "dk"
        refine ⟨Sr, ?_⟩
        rw [if_neg (by simp)]
        refine ⟨p, _, m, a, b, rfl, hm, ca, cb, wa, wb, (ga.trans (gb.trans (gc.trans (gd.trans (ge.trans gf))))).src hs6, by decide, fun μg => ?_⟩
        try walk_at "dk"
        simp only [Bool.not_true, Bool.false_eq_true, if_false]
        exact rest _ _ _ _ _ _ _ _ _
    · simp only [hk0, decide_false, if_false, Bool.false_eq_true, ite_self]
      refine ⟨m, rfl, hm, fun μa ga => ?_⟩
      try walk_at "dk"
      simp only [Bool.not_true, Bool.false_eq_true, if_false]
      refine told_use hm ca cb wa wb fun μb gb => ?_
      try walk_at "dk"
      simp only [Bool.not_true, Bool.false_eq_true, if_false]
      refine told_use hm ca ca wa wa fun μc gc => ?_
      try walk_at "dk"
      simp only [Bool.not_true, Bool.false_eq_true, if_false]
      refine ⟨m, a, 4, n, rfl, oa, wa, by omega, by omega, fun r μd gd hr => ?_⟩
      have or_ : Ok m r := Ok.of hm hr.1 (hr.wd wa) (by omega)
      have Sr := or_.show
      simp only [rule] at Sr
      try walk_at "dk"
      refine ⟨by decide, Sr, m, a, 4, n, rfl, oa, wa, by omega, by omega, fun r2 μe ge hr2 => ?_⟩
      obtain rfl := hr.uniq m0 hr2
      simp only [rule]
      try walk_at "dk"
      refine ⟨Sr, ?_⟩
      rw [if_neg (by simp)]
      refine ⟨m, a, 4, n, rfl, oa, wa, by omega, by omega, fun r3 μf gf hr3 => ?_⟩
      obtain rfl := hr.uniq m0 hr3
      simp only [rule]
      try walk_at "dk"
      refine ⟨Sr, ?_⟩
      rw [if_neg (by simp)]
      exact rest _ _ _ _ _ _ _ _ _
theorem r_law : ∀ ds μ Q, sp_law ds μ Q → rd_law (fin Q) (dstart 9 ds) μ := by
  rintro ds μ Q ⟨ns, rfl, he, hl, hb, q⟩
  unfold rd_law
  simp only [dstart, List.map_cons, List.map_nil, List.length_cons, List.length_nil, Nat.reduceSub, Nat.reduceAdd, List.replicate_succ, List.replicate_zero, List.cons_append, List.nil_append]
  walk_at "dk"
  rw [List.length_map]
  generalize hN : (if (if (ns.length : Int) < 6 then (ns.length : Int) else 6) > 1 then (if (ns.length : Int) < 6 then (ns.length : Int) else 6) else 1) = N
  have hN' : 0 ≤ N ∧ N ≤ 12 := by
    rw [← hN]
    constructor <;> (split <;> (try split) <;> omega)
  refine ⟨⟨by omega, by omega⟩, loop_law hl hb (fun xs μ' hx => ?_) _ _ _ _ _ _ _ _ _ _ fun d hd => ?_⟩
  · walk_at "dk"
    exact q μ'
  · unfold rangeD at hd
    obtain ⟨i, hi, rfl⟩ := List.mem_map.mp hd
    have hi := List.mem_range.mp hi
    exact ⟨i, rfl, by omega⟩
end K01

namespace K01
open PySem PySem.Spec PyProof.Rows L2 DL
def topS (i : Nat) : Stmt := PySem.Challenge.pw_nearadds_k01_rules_put_together.main.body.getD i (.Pass ⟨0, 0, 0, 0⟩)
abbrev st_is_number : Stmt := topS 7
abbrev N_is_number : List Str := ["value"]
abbrev ps_is_number : List Str := ["value"]
abbrev st_is_within : Stmt := topS 8
abbrev N_is_within : List Str := ["value", "least", "greatest"]
abbrev ps_is_within : List Str := ["value", "least", "greatest"]
abbrev st_is_two : Stmt := topS 9
abbrev N_is_two : List Str := ["value"]
abbrev ps_is_two : List Str := ["value"]
abbrev st_ascends : Stmt := topS 10
abbrev N_ascends : List Str := ["numbers", "low", "high"]
abbrev ps_ascends : List Str := ["numbers"]
abbrev st_is_pairs : Stmt := topS 11
abbrev N_is_pairs : List Str := ["value", "modulus", "pair"]
abbrev ps_is_pairs : List Str := ["value", "modulus"]
abbrev st_renewed : Stmt := topS 12
abbrev N_renewed : List Str := ["value", "part"]
abbrev ps_renewed : List Str := ["value"]
abbrev st_is_modulus : Stmt := topS 16
abbrev N_is_modulus : List Str := ["value"]
abbrev ps_is_modulus : List Str := ["value"]
abbrev st_has_modulus : Stmt := topS 17
abbrev N_has_modulus : List Str := ["value"]
abbrev ps_has_modulus : List Str := ["value"]
abbrev st_is_rule : Stmt := topS 18
abbrev N_is_rule : List Str := ["value"]
abbrev ps_is_rule : List Str := ["value"]
abbrev st_need_rule : Stmt := topS 19
abbrev N_need_rule : List Str := ["value"]
abbrev ps_need_rule : List Str := ["value"]
abbrev st_need_same : Stmt := topS 20
abbrev N_need_same : List Str := ["one", "other"]
abbrev ps_need_same : List Str := ["one", "other"]
abbrev st_need_rules : Stmt := topS 21
abbrev N_need_rules : List Str := ["one", "other"]
abbrev ps_need_rules : List Str := ["one", "other"]
abbrev st_primes_of : Stmt := topS 22
abbrev N_primes_of : List Str := ["modulus"]
abbrev ps_primes_of : List Str := ["modulus"]
abbrev st_still : Stmt := topS 23
abbrev N_still : List Str := ["modulus"]
abbrev ps_still : List Str := ["modulus"]
abbrev st_left_of : Stmt := topS 24
abbrev N_left_of : List Str := ["sums", "modulus", "place"]
abbrev ps_left_of : List Str := ["sums", "modulus"]
abbrev st_sums_of : Stmt := topS 25
abbrev N_sums_of : List Str := ["one", "other", "sums", "place", "value"]
abbrev ps_sums_of : List Str := ["one", "other"]
abbrev st_products_of : Stmt := topS 26
abbrev N_products_of : List Str := ["one", "other", "sums", "place", "value", "offset", "factor"]
abbrev ps_products_of : List Str := ["one", "other"]
abbrev st_plus : Stmt := topS 27
abbrev N_plus : List Str := ["one", "other"]
abbrev ps_plus : List Str := ["one", "other"]
abbrev st_behind : Stmt := topS 28
abbrev N_behind : List Str := ["one", "other"]
abbrev ps_behind : List Str := ["one", "other"]
abbrev st_power : Stmt := topS 29
abbrev N_power : List Str := ["rule", "times", "made", "at"]
abbrev ps_power : List Str := ["rule", "times"]
abbrev st__law_source : Stmt := topS 31
abbrev N__law_source : List Str := ["_law_script", "_law_k", "_law_cell", "_law_crowd", "_law_place", "_law_other", "_law_seed"]
abbrev ps__law_source : List Str := ["_law_script", "_law_k"]
abbrev st__law_pick : Stmt := topS 32
abbrev N__law_pick : List Str := ["_law_source_here", "_law_many", "_law_found", "_law_stir"]
abbrev ps__law_pick : List Str := ["_law_source_here", "_law_many"]
abbrev st__law_primes : Stmt := topS 33
abbrev N__law_primes : List Str := ["_law_modulus_here", "_law_prime"]
abbrev ps__law_primes : List Str := ["_law_modulus_here"]
abbrev st__law_modulus : Stmt := topS 34
abbrev N__law_modulus : List Str := ["_law_source_here"]
abbrev ps__law_modulus : List Str := ["_law_source_here"]
abbrev st__law_factor : Stmt := topS 35
abbrev N__law_factor : List Str := ["_law_source_here", "_law_modulus_here", "_law_share"]
abbrev ps__law_factor : List Str := ["_law_source_here", "_law_modulus_here", "_law_share"]
abbrev st__law_terms : Stmt := topS 36
abbrev N__law_terms : List Str := ["_law_source_here", "_law_modulus_here", "_law_way", "_law_primes_here", "_law_share", "_law_marks", "_law_offset", "_law_offsets"]
abbrev ps__law_terms : List Str := ["_law_source_here", "_law_modulus_here"]
abbrev st__law_tidy : Stmt := topS 37
abbrev N__law_tidy : List Str := ["_law_table", "_law_modulus_here", "_law_place"]
abbrev ps__law_tidy : List Str := ["_law_table", "_law_modulus_here"]
abbrev st__law_product : Stmt := topS 38
abbrev N__law_product : List Str := ["_law_one", "_law_other", "_law_modulus_here", "_law_table", "_law_offset", "_law_factor_here", "_law_further", "_law_number"]
abbrev ps__law_product : List Str := ["_law_one", "_law_other", "_law_modulus_here"]
abbrev st__law_power : Stmt := topS 39
abbrev N__law_power : List Str := ["_law_terms_here", "_law_times", "_law_modulus_here", "_law_found", "_law_turn"]
abbrev ps__law_power : List Str := ["_law_terms_here", "_law_times", "_law_modulus_here"]
abbrev st__law_sum : Stmt := topS 40
abbrev N__law_sum : List Str := ["_law_one", "_law_other", "_law_modulus_here", "_law_table", "_law_offset", "_law_factor_here"]
abbrev ps__law_sum : List Str := ["_law_one", "_law_other", "_law_modulus_here"]
abbrev st__law_small_right : Stmt := topS 41
abbrev N__law_small_right : List Str := ["_law_modulus_here", "_law_told"]
abbrev ps__law_small_right : List Str := ["_law_modulus_here"]
abbrev st__law_two_right : Stmt := topS 42
abbrev N__law_two_right : List Str := ["_law_one", "_law_other", "_law_modulus_here", "_law_due"]
abbrev ps__law_two_right : List Str := ["_law_one", "_law_other"]
abbrev st__law_wide_right : Stmt := topS 43
abbrev N__law_wide_right : List Str := ["_law_source_here", "_law_one", "_law_other", "_law_modulus_here", "_law_times", "_law_wide", "_law_far", "_law_first", "_law_second", "_law_due"]
abbrev ps__law_wide_right : List Str := ["_law_source_here", "_law_one", "_law_other"]
abbrev st_law : Stmt := topS 44
abbrev N_law : List Str := ["_law_script", "_law_k", "_law_source_here", "_law_modulus_here", "_law_many", "_law_one", "_law_other", "_law_times", "_law_due"]
abbrev ps_law : List Str := ["_law_script"]
theorem bd_is_number {K : PySem.W.Frag} : ∀ f fd, Fun K "is_number" "is_number" st_is_number f fd → Binds K fd ps_is_number [] := fun _ _ F => F.binds (ps := ps_is_number) fun _ _ _ _ _ _ us hl => match us, hl with | [_], _ => rfl
theorem bd_is_within {K : PySem.W.Frag} : ∀ f fd, Fun K "is_within" "is_within" st_is_within f fd → Binds K fd ps_is_within [] := fun _ _ F => F.binds (ps := ps_is_within) fun _ _ _ _ _ _ us hl => match us, hl with | [_, _, _], _ => rfl
theorem bd_is_two {K : PySem.W.Frag} : ∀ f fd, Fun K "is_two" "is_two" st_is_two f fd → Binds K fd ps_is_two [] := fun _ _ F => F.binds (ps := ps_is_two) fun _ _ _ _ _ _ us hl => match us, hl with | [_], _ => rfl
theorem bd_ascends {K : PySem.W.Frag} : ∀ f fd, Fun K "ascends" "ascends" st_ascends f fd → Binds K fd ps_ascends [] := fun _ _ F => F.binds (ps := ps_ascends) fun _ _ _ _ _ _ us hl => match us, hl with | [_], _ => rfl
theorem bd_is_pairs {K : PySem.W.Frag} : ∀ f fd, Fun K "is_pairs" "is_pairs" st_is_pairs f fd → Binds K fd ps_is_pairs [] := fun _ _ F => F.binds (ps := ps_is_pairs) fun _ _ _ _ _ _ us hl => match us, hl with | [_, _], _ => rfl
theorem bd_renewed {K : PySem.W.Frag} : ∀ f fd, Fun K "renewed" "renewed" st_renewed f fd → Binds K fd ps_renewed [] := fun _ _ F => F.binds (ps := ps_renewed) fun _ _ _ _ _ _ us hl => match us, hl with | [_], _ => rfl
theorem bd_is_modulus {K : PySem.W.Frag} : ∀ f fd, Fun K "is_modulus" "is_modulus" st_is_modulus f fd → Binds K fd ps_is_modulus [] := fun _ _ F => F.binds (ps := ps_is_modulus) fun _ _ _ _ _ _ us hl => match us, hl with | [_], _ => rfl
theorem bd_has_modulus {K : PySem.W.Frag} : ∀ f fd, Fun K "has_modulus" "has_modulus" st_has_modulus f fd → Binds K fd ps_has_modulus [] := fun _ _ F => F.binds (ps := ps_has_modulus) fun _ _ _ _ _ _ us hl => match us, hl with | [_], _ => rfl
theorem bd_is_rule {K : PySem.W.Frag} : ∀ f fd, Fun K "is_rule" "is_rule" st_is_rule f fd → Binds K fd ps_is_rule [] := fun _ _ F => F.binds (ps := ps_is_rule) fun _ _ _ _ _ _ us hl => match us, hl with | [_], _ => rfl
theorem bd_need_rule {K : PySem.W.Frag} : ∀ f fd, Fun K "need_rule" "need_rule" st_need_rule f fd → Binds K fd ps_need_rule [] := fun _ _ F => F.binds (ps := ps_need_rule) fun _ _ _ _ _ _ us hl => match us, hl with | [_], _ => rfl
theorem bd_need_same {K : PySem.W.Frag} : ∀ f fd, Fun K "need_same" "need_same" st_need_same f fd → Binds K fd ps_need_same [] := fun _ _ F => F.binds (ps := ps_need_same) fun _ _ _ _ _ _ us hl => match us, hl with | [_, _], _ => rfl
theorem bd_need_rules {K : PySem.W.Frag} : ∀ f fd, Fun K "need_rules" "need_rules" st_need_rules f fd → Binds K fd ps_need_rules [] := fun _ _ F => F.binds (ps := ps_need_rules) fun _ _ _ _ _ _ us hl => match us, hl with | [_, _], _ => rfl
theorem bd_primes_of {K : PySem.W.Frag} : ∀ f fd, Fun K "primes_of" "primes_of" st_primes_of f fd → Binds K fd ps_primes_of [] := fun _ _ F => F.binds (ps := ps_primes_of) fun _ _ _ _ _ _ us hl => match us, hl with | [_], _ => rfl
theorem bd_still {K : PySem.W.Frag} : ∀ f fd, Fun K "still" "still" st_still f fd → Binds K fd ps_still [] := fun _ _ F => F.binds (ps := ps_still) fun _ _ _ _ _ _ us hl => match us, hl with | [_], _ => rfl
theorem bd_left_of {K : PySem.W.Frag} : ∀ f fd, Fun K "left_of" "left_of" st_left_of f fd → Binds K fd ps_left_of [] := fun _ _ F => F.binds (ps := ps_left_of) fun _ _ _ _ _ _ us hl => match us, hl with | [_, _], _ => rfl
theorem bd_sums_of {K : PySem.W.Frag} : ∀ f fd, Fun K "sums_of" "sums_of" st_sums_of f fd → Binds K fd ps_sums_of [] := fun _ _ F => F.binds (ps := ps_sums_of) fun _ _ _ _ _ _ us hl => match us, hl with | [_, _], _ => rfl
theorem bd_products_of {K : PySem.W.Frag} : ∀ f fd, Fun K "products_of" "products_of" st_products_of f fd → Binds K fd ps_products_of [] := fun _ _ F => F.binds (ps := ps_products_of) fun _ _ _ _ _ _ us hl => match us, hl with | [_, _], _ => rfl
theorem bd_plus {K : PySem.W.Frag} : ∀ f fd, Fun K "plus" "plus" st_plus f fd → Binds K fd ps_plus [] := fun _ _ F => F.binds (ps := ps_plus) fun _ _ _ _ _ _ us hl => match us, hl with | [_, _], _ => rfl
theorem bd_behind {K : PySem.W.Frag} : ∀ f fd, Fun K "behind" "behind" st_behind f fd → Binds K fd ps_behind [] := fun _ _ F => F.binds (ps := ps_behind) fun _ _ _ _ _ _ us hl => match us, hl with | [_, _], _ => rfl
theorem bd_power {K : PySem.W.Frag} : ∀ f fd, Fun K "power" "power" st_power f fd → Binds K fd ps_power [] := fun _ _ F => F.binds (ps := ps_power) fun _ _ _ _ _ _ us hl => match us, hl with | [_, _], _ => rfl
theorem bd__law_source {K : PySem.W.Frag} : ∀ f fd, Fun K "_law_source" "_law_source" st__law_source f fd → Binds K fd ps__law_source [] := fun _ _ F => F.binds (ps := ps__law_source) fun _ _ _ _ _ _ us hl => match us, hl with | [_, _], _ => rfl
theorem bd__law_pick {K : PySem.W.Frag} : ∀ f fd, Fun K "_law_pick" "_law_pick" st__law_pick f fd → Binds K fd ps__law_pick [] := fun _ _ F => F.binds (ps := ps__law_pick) fun _ _ _ _ _ _ us hl => match us, hl with | [_, _], _ => rfl
theorem bd__law_primes {K : PySem.W.Frag} : ∀ f fd, Fun K "_law_primes" "_law_primes" st__law_primes f fd → Binds K fd ps__law_primes [] := fun _ _ F => F.binds (ps := ps__law_primes) fun _ _ _ _ _ _ us hl => match us, hl with | [_], _ => rfl
theorem bd__law_modulus {K : PySem.W.Frag} : ∀ f fd, Fun K "_law_modulus" "_law_modulus" st__law_modulus f fd → Binds K fd ps__law_modulus [] := fun _ _ F => F.binds (ps := ps__law_modulus) fun _ _ _ _ _ _ us hl => match us, hl with | [_], _ => rfl
theorem bd__law_factor {K : PySem.W.Frag} : ∀ f fd, Fun K "_law_factor" "_law_factor" st__law_factor f fd → Binds K fd ps__law_factor [] := fun _ _ F => F.binds (ps := ps__law_factor) fun _ _ _ _ _ _ us hl => match us, hl with | [_, _, _], _ => rfl
theorem bd__law_terms {K : PySem.W.Frag} : ∀ f fd, Fun K "_law_terms" "_law_terms" st__law_terms f fd → Binds K fd ps__law_terms [] := fun _ _ F => F.binds (ps := ps__law_terms) fun _ _ _ _ _ _ us hl => match us, hl with | [_, _], _ => rfl
theorem bd__law_tidy {K : PySem.W.Frag} : ∀ f fd, Fun K "_law_tidy" "_law_tidy" st__law_tidy f fd → Binds K fd ps__law_tidy [] := fun _ _ F => F.binds (ps := ps__law_tidy) fun _ _ _ _ _ _ us hl => match us, hl with | [_, _], _ => rfl
theorem bd__law_product {K : PySem.W.Frag} : ∀ f fd, Fun K "_law_product" "_law_product" st__law_product f fd → Binds K fd ps__law_product [] := fun _ _ F => F.binds (ps := ps__law_product) fun _ _ _ _ _ _ us hl => match us, hl with | [_, _, _], _ => rfl
theorem bd__law_power {K : PySem.W.Frag} : ∀ f fd, Fun K "_law_power" "_law_power" st__law_power f fd → Binds K fd ps__law_power [] := fun _ _ F => F.binds (ps := ps__law_power) fun _ _ _ _ _ _ us hl => match us, hl with | [_, _, _], _ => rfl
theorem bd__law_sum {K : PySem.W.Frag} : ∀ f fd, Fun K "_law_sum" "_law_sum" st__law_sum f fd → Binds K fd ps__law_sum [] := fun _ _ F => F.binds (ps := ps__law_sum) fun _ _ _ _ _ _ us hl => match us, hl with | [_, _, _], _ => rfl
theorem bd__law_small_right {K : PySem.W.Frag} : ∀ f fd, Fun K "_law_small_right" "_law_small_right" st__law_small_right f fd → Binds K fd ps__law_small_right [] := fun _ _ F => F.binds (ps := ps__law_small_right) fun _ _ _ _ _ _ us hl => match us, hl with | [_], _ => rfl
theorem bd__law_two_right {K : PySem.W.Frag} : ∀ f fd, Fun K "_law_two_right" "_law_two_right" st__law_two_right f fd → Binds K fd ps__law_two_right [] := fun _ _ F => F.binds (ps := ps__law_two_right) fun _ _ _ _ _ _ us hl => match us, hl with | [_, _], _ => rfl
theorem bd__law_wide_right {K : PySem.W.Frag} : ∀ f fd, Fun K "_law_wide_right" "_law_wide_right" st__law_wide_right f fd → Binds K fd ps__law_wide_right [] := fun _ _ F => F.binds (ps := ps__law_wide_right) fun _ _ _ _ _ _ us hl => match us, hl with | [_, _, _], _ => rfl
theorem bd_law {K : PySem.W.Frag} : ∀ f fd, Fun K "law" "law" st_law f fd → Binds K fd ps_law [] := fun _ _ F => F.binds (ps := ps_law) fun _ _ _ _ _ _ us hl => match us, hl with | [_], _ => rfl
theorem kb_behind_other_one {K : PySem.W.Frag} : ∀ f fd, Fun K "behind" "behind" st_behind f fd → KB K fd ps_behind ["other", "one"] g_behind_other_one := by
  rintro f fd F
  obtain ⟨oc, od, kV, doc, pm, an, cdv, ct, osl, rfl, lk, hcd⟩ := F.ex
  exact ⟨fun s ws hl => .of_eq (match ws, hl with | [x0, x1], _ => rfl), fun hl r => match r, hl with | .cons h0 (.cons h1 (.nil)), _ => (.cons h1 (.cons h0 Paired.nil)), fun hl r => match r, hl with | .cons h0 (.cons h1 (.nil)), _ => (.cons h1 (.cons h0 Paired.nil))⟩
theorem kb_plus_other_one {K : PySem.W.Frag} : ∀ f fd, Fun K "plus" "plus" st_plus f fd → KB K fd ps_plus ["other", "one"] g_plus_other_one := by
  rintro f fd F
  obtain ⟨oc, od, kV, doc, pm, an, cdv, ct, osl, rfl, lk, hcd⟩ := F.ex
  exact ⟨fun s ws hl => .of_eq (match ws, hl with | [x0, x1], _ => rfl), fun hl r => match r, hl with | .cons h0 (.cons h1 (.nil)), _ => (.cons h1 (.cons h0 Paired.nil)), fun hl r => match r, hl with | .cons h0 (.cons h1 (.nil)), _ => (.cons h1 (.cons h0 Paired.nil))⟩
theorem kb_power_times_rule {K : PySem.W.Frag} : ∀ f fd, Fun K "power" "power" st_power f fd → KB K fd ps_power ["times", "rule"] g_power_times_rule := by
  rintro f fd F
  obtain ⟨oc, od, kV, doc, pm, an, cdv, ct, osl, rfl, lk, hcd⟩ := F.ex
  exact ⟨fun s ws hl => .of_eq (match ws, hl with | [x0, x1], _ => rfl), fun hl r => match r, hl with | .cons h0 (.cons h1 (.nil)), _ => (.cons h1 (.cons h0 Paired.nil)), fun hl r => match r, hl with | .cons h0 (.cons h1 (.nil)), _ => (.cons h1 (.cons h0 Paired.nil))⟩
theorem kb_primes_of_modulus {K : PySem.W.Frag} : ∀ f fd, Fun K "primes_of" "primes_of" st_primes_of f fd → KB K fd ps_primes_of ["modulus"] g_primes_of_modulus := by
  rintro f fd F
  obtain ⟨oc, od, kV, doc, pm, an, cdv, ct, osl, rfl, lk, hcd⟩ := F.ex
  exact ⟨fun s ws hl => .of_eq (match ws, hl with | [x0], _ => rfl), fun hl r => match r, hl with | .cons h0 (.nil), _ => (.cons h0 Paired.nil), fun hl r => match r, hl with | .cons h0 (.nil), _ => (.cons h0 Paired.nil)⟩
theorem kb_still_modulus {K : PySem.W.Frag} : ∀ f fd, Fun K "still" "still" st_still f fd → KB K fd ps_still ["modulus"] g_still_modulus := by
  rintro f fd F
  obtain ⟨oc, od, kV, doc, pm, an, cdv, ct, osl, rfl, lk, hcd⟩ := F.ex
  exact ⟨fun s ws hl => .of_eq (match ws, hl with | [x0], _ => rfl), fun hl r => match r, hl with | .cons h0 (.nil), _ => (.cons h0 Paired.nil), fun hl r => match r, hl with | .cons h0 (.nil), _ => (.cons h0 Paired.nil)⟩
end K01

namespace K01
open PySem PySem.Spec PyProof.Rows L2 DL RF
theorem sc_is_number : FnScope N_is_number ps_is_number (defScope st_is_number) := ⟨rfl, rfl, rfl, by decide +kernel, rfl, by decide +kernel, by decide +kernel⟩
theorem der_is_number {P : Program} {w : World} {K : PySem.W.Frag} {mg : Str → Option Value} {base : Heap} (B : Bl mg) {f : Addr} {cdv : Value} {A : Around} {outer : List Env} {s : Shared} {H : Hp} (hr : RoomG (0) (A.deeper (envOfC "is_number" (defScope st_is_number) s.heap.objs.size f cdv))) :
    DSs (cxD P w K mg base N_is_number "is_number" (defScope st_is_number) f cdv A outer s H) (defBody st_is_number) (rd_is_number) :=
    (s_one (s_ret (d_and (d_isi (by decide) rfl B.isinstance (by decide +kernel) rfl B.int (by decide +kernel) (d_var 0)) (d_one (d_not (d_isi (by decide) rfl B.isinstance (by decide +kernel) rfl B.bool (by decide +kernel) (d_var 0)))))))
theorem sc_is_within : FnScope N_is_within ps_is_within (defScope st_is_within) := ⟨rfl, rfl, rfl, by decide +kernel, rfl, by decide +kernel, by decide +kernel⟩
theorem der_is_within {P : Program} {w : World} {K : PySem.W.Frag} {mg : Str → Option Value} {base : Heap} (B : Bl mg) (C_is_number : Cal P w K mg base (1) "is_number" st_is_number ps_is_number sp_is_number) {f : Addr} {cdv : Value} {A : Around} {outer : List Env} {s : Shared} {H : Hp} (hr : RoomG (1) (A.deeper (envOfC "is_within" (defScope st_is_within) s.heap.objs.size f cdv))) :
    DSs (cxD P w K mg base N_is_within "is_within" (defScope st_is_within) f cdv A outer s H) (defBody st_is_within) (rd_is_within) :=
    (s_one (s_ret (d_and (d_callC C_is_number (hr.mono (by decide)) rfl bd_is_number (a_cons (d_var 0) a_nil)) (d_one (d_chain op_le u_le op_le u_le (d_var 1) (d_var 0) (d_var 2))))))
theorem sc_is_two : FnScope N_is_two ps_is_two (defScope st_is_two) := ⟨rfl, rfl, rfl, by decide +kernel, rfl, by decide +kernel, by decide +kernel⟩
theorem der_is_two {P : Program} {w : World} {K : PySem.W.Frag} {mg : Str → Option Value} {base : Heap} (B : Bl mg) {f : Addr} {cdv : Value} {A : Around} {outer : List Env} {s : Shared} {H : Hp} (hr : RoomG (0) (A.deeper (envOfC "is_two" (defScope st_is_two) s.heap.objs.size f cdv))) :
    DSs (cxD P w K mg base N_is_two "is_two" (defScope st_is_two) f cdv A outer s H) (defBody st_is_two) (rd_is_two) :=
    (s_one (s_ret (d_and (d_isi (by decide) rfl B.isinstance (by decide +kernel) rfl B.tuple (by decide +kernel) (d_var 0)) (d_one (d_eqX hr.r.units (d_callB call_len_seq u_len rfl B.len (by decide +kernel) (a_cons (d_var 0) a_nil)) d_int)))))
theorem sc_ascends : FnScope N_ascends ps_ascends (defScope st_ascends) := ⟨rfl, rfl, rfl, by decide +kernel, rfl, by decide +kernel, by decide +kernel⟩
theorem der_ascends {P : Program} {w : World} {K : PySem.W.Frag} {mg : Str → Option Value} {base : Heap} (B : Bl mg) {f : Addr} {cdv : Value} {A : Around} {outer : List Env} {s : Shared} {H : Hp} (hr : RoomG (0) (A.deeper (envOfC "ascends" (defScope st_ascends) s.heap.objs.size f cdv))) :
    DSs (cxD P w K mg base N_ascends "ascends" (defScope st_ascends) f cdv A outer s H) (defBody st_ascends) (rd_ascends) :=
    (s_one (s_ret (d_callB (cr_all rfl) u_all rfl B.all (by decide +kernel) (a_cons (d_lcV rfl sc_ascends.nd (i_zip rfl B.zip (a_cons (d_var 0) (a_cons (d_slice (d_var 0) (o_some d_int) o_no) a_nil))) (blkOk_by (own := [("low", 1), ("high", 2)]) (N := N_ascends) (sc := defScope st_ascends) (by decide +kernel)) (compG_tup (is := [1, 2]) (by decide)) (fun _ _ _ _ _ => (pg_tup (n := 2) rfl (pgs_name2 (pg_name (i := 1) sc_ascends.nd rfl (by first | exact Or.inl rfl | exact Or.inr rfl)) (pgs_name2 (pg_name (i := 2) sc_ascends.nd rfl (by first | exact Or.inl rfl | exact Or.inr rfl)) pgs_nil)))) (fun _ _ _ _ _ => t_nil) (fun _ _ _ _ _ => (d_lt (d_var 1) (d_var 2)))) a_nil))))
theorem sc_is_pairs : FnScope N_is_pairs ps_is_pairs (defScope st_is_pairs) := ⟨rfl, rfl, rfl, by decide +kernel, rfl, by decide +kernel, by decide +kernel⟩
theorem der_is_pairs {P : Program} {w : World} {K : PySem.W.Frag} {mg : Str → Option Value} {base : Heap} (B : Bl mg) (C_is_two : Cal P w K mg base (1) "is_two" st_is_two ps_is_two sp_is_two) (C_is_number : Cal P w K mg base (1) "is_number" st_is_number ps_is_number sp_is_number) (C_is_within : Cal P w K mg base (2) "is_within" st_is_within ps_is_within sp_is_within) (C_ascends : Cal P w K mg base (1) "ascends" st_ascends ps_ascends sp_ascends) {f : Addr} {cdv : Value} {A : Around} {outer : List Env} {s : Shared} {H : Hp} (hr : RoomG (2) (A.deeper (envOfC "is_pairs" (defScope st_is_pairs) s.heap.objs.size f cdv))) :
    DSs (cxD P w K mg base N_is_pairs "is_pairs" (defScope st_is_pairs) f cdv A outer s H) (defBody st_is_pairs) (rd_is_pairs) :=
    (s_cons (s_if (c_not (c_val (d_isi (by decide) rfl B.isinstance (by decide +kernel) rfl B.tuple (by decide +kernel) (d_var 0)))) (s_one (s_ret d_bl)) s_nil)
    (s_cons (s_if (c_not (c_val (d_callB (cr_all rfl) u_all rfl B.all (by decide +kernel) (a_cons (d_lcV rfl sc_is_pairs.nd (i_tup (d_var 0)) (blkOk_by (own := [("pair", 2)]) (N := N_is_pairs) (sc := defScope st_is_pairs) (by decide +kernel)) (compG_name (i := 2) (by decide)) (fun _ _ _ _ _ => (pg_name (i := 2) sc_is_pairs.nd rfl (by first | exact Or.inl rfl | exact Or.inr rfl))) (fun _ _ _ _ _ => t_nil) (fun _ _ _ _ _ => (d_and (d_callC C_is_two (hr.mono (by decide)) rfl bd_is_two (a_cons (d_var 2) a_nil)) (d_and (d_callC C_is_number (hr.mono (by decide)) rfl bd_is_number (a_cons (d_item (d_var 2) d_int) a_nil)) (d_one (d_callC C_is_within (hr.mono (by decide)) rfl bd_is_within (a_cons (d_item (d_var 2) d_int) (a_cons d_int (a_cons (d_sub (d_var 1) d_int) a_nil))))))))) a_nil)))) (s_one (s_ret d_bl)) s_nil)
    (s_one (s_ret (d_callC C_ascends (hr.mono (by decide)) rfl bd_ascends (a_cons (d_lcV rfl sc_is_pairs.nd (i_tup (d_var 0)) (blkOk_by (own := [("pair", 2)]) (N := N_is_pairs) (sc := defScope st_is_pairs) (by decide +kernel)) (compG_name (i := 2) (by decide)) (fun _ _ _ _ _ => (pg_name (i := 2) sc_is_pairs.nd rfl (by first | exact Or.inl rfl | exact Or.inr rfl))) (fun _ _ _ _ _ => t_nil) (fun _ _ _ _ _ => (d_item (d_var 2) d_int))) a_nil))))))
theorem sc_is_modulus : FnScope N_is_modulus ps_is_modulus (defScope st_is_modulus) := ⟨rfl, rfl, rfl, by decide +kernel, rfl, by decide +kernel, by decide +kernel⟩
theorem der_is_modulus {P : Program} {w : World} {K : PySem.W.Frag} {mg : Str → Option Value} {base : Heap} (B : Bl mg) (H_PRIMES : KName K mg "PRIMES" [2, 3, 5, 6, 7, 10, 11, 13, 14, 15]) (C_is_number : Cal P w K mg base (1) "is_number" st_is_number ps_is_number sp_is_number) {f : Addr} {cdv : Value} {A : Around} {outer : List Env} {s : Shared} {H : Hp} (hr : RoomG (1) (A.deeper (envOfC "is_modulus" (defScope st_is_modulus) s.heap.objs.size f cdv))) :
    DSs (cxD P w K mg base N_is_modulus "is_modulus" (defScope st_is_modulus) f cdv A outer s H) (defBody st_is_modulus) (rd_is_modulus) :=
    (s_one (s_ret (d_and (d_callC C_is_number (hr.mono (by decide)) rfl bd_is_number (a_cons (d_var 0) a_nil)) (d_one (d_inK H_PRIMES rfl (d_var 0))))))
theorem sc_has_modulus : FnScope N_has_modulus ps_has_modulus (defScope st_has_modulus) := ⟨rfl, rfl, rfl, by decide +kernel, rfl, by decide +kernel, by decide +kernel⟩
theorem der_has_modulus {P : Program} {w : World} {K : PySem.W.Frag} {mg : Str → Option Value} {base : Heap} (B : Bl mg) (C_is_two : Cal P w K mg base (1) "is_two" st_is_two ps_is_two sp_is_two) (C_is_modulus : Cal P w K mg base (2) "is_modulus" st_is_modulus ps_is_modulus sp_is_modulus) {f : Addr} {cdv : Value} {A : Around} {outer : List Env} {s : Shared} {H : Hp} (hr : RoomG (2) (A.deeper (envOfC "has_modulus" (defScope st_has_modulus) s.heap.objs.size f cdv))) :
    DSs (cxD P w K mg base N_has_modulus "has_modulus" (defScope st_has_modulus) f cdv A outer s H) (defBody st_has_modulus) (rd_has_modulus) :=
    (s_one (s_ret (d_and (d_callC C_is_two (hr.mono (by decide)) rfl bd_is_two (a_cons (d_var 0) a_nil)) (d_one (d_callC C_is_modulus (hr.mono (by decide)) rfl bd_is_modulus (a_cons (d_item (d_var 0) d_int) a_nil))))))
theorem sc_is_rule : FnScope N_is_rule ps_is_rule (defScope st_is_rule) := ⟨rfl, rfl, rfl, by decide +kernel, rfl, by decide +kernel, by decide +kernel⟩
theorem der_is_rule {P : Program} {w : World} {K : PySem.W.Frag} {mg : Str → Option Value} {base : Heap} (B : Bl mg) (C_has_modulus : Cal P w K mg base (3) "has_modulus" st_has_modulus ps_has_modulus sp_has_modulus) (C_is_pairs : Cal P w K mg base (3) "is_pairs" st_is_pairs ps_is_pairs sp_is_pairs) {f : Addr} {cdv : Value} {A : Around} {outer : List Env} {s : Shared} {H : Hp} (hr : RoomG (3) (A.deeper (envOfC "is_rule" (defScope st_is_rule) s.heap.objs.size f cdv))) :
    DSs (cxD P w K mg base N_is_rule "is_rule" (defScope st_is_rule) f cdv A outer s H) (defBody st_is_rule) (rd_is_rule) :=
    (s_one (s_ret (d_and (d_callC C_has_modulus (hr.mono (by decide)) rfl bd_has_modulus (a_cons (d_var 0) a_nil)) (d_one (d_callC C_is_pairs (hr.mono (by decide)) rfl bd_is_pairs (a_cons (d_item (d_var 0) d_int) (a_cons (d_item (d_var 0) d_int) a_nil)))))))
theorem sc_need_rule : FnScope N_need_rule ps_need_rule (defScope st_need_rule) := ⟨rfl, rfl, rfl, by decide +kernel, rfl, by decide +kernel, by decide +kernel⟩
theorem der_need_rule {P : Program} {w : World} {K : PySem.W.Frag} {mg : Str → Option Value} {base : Heap} (B : Bl mg) (C_is_rule : Cal P w K mg base (4) "is_rule" st_is_rule ps_is_rule sp_is_rule) {f : Addr} {cdv : Value} {A : Around} {outer : List Env} {s : Shared} {H : Hp} (hr : RoomG (4) (A.deeper (envOfC "need_rule" (defScope st_need_rule) s.heap.objs.size f cdv))) :
    DSs (cxD P w K mg base N_need_rule "need_rule" (defScope st_need_rule) f cdv A outer s H) (defBody st_need_rule) (rd_need_rule) :=
    (s_one (s_if (c_not (c_val (d_callC C_is_rule (hr.mono (by decide)) rfl bd_is_rule (a_cons (d_var 0) a_nil)))) (s_one s_never) s_nil))
theorem sc_need_same : FnScope N_need_same ps_need_same (defScope st_need_same) := ⟨rfl, rfl, rfl, by decide +kernel, rfl, by decide +kernel, by decide +kernel⟩
theorem der_need_same {P : Program} {w : World} {K : PySem.W.Frag} {mg : Str → Option Value} {base : Heap} (B : Bl mg) {f : Addr} {cdv : Value} {A : Around} {outer : List Env} {s : Shared} {H : Hp} (hr : RoomG (0) (A.deeper (envOfC "need_same" (defScope st_need_same) s.heap.objs.size f cdv))) :
    DSs (cxD P w K mg base N_need_same "need_same" (defScope st_need_same) f cdv A outer s H) (defBody st_need_same) (rd_need_same) :=
    (s_one (s_if (c_neX hr.r.units (d_item (d_var 0) d_int) (d_item (d_var 1) d_int)) (s_one s_never) s_nil))
theorem sc_need_rules : FnScope N_need_rules ps_need_rules (defScope st_need_rules) := ⟨rfl, rfl, rfl, by decide +kernel, rfl, by decide +kernel, by decide +kernel⟩
theorem der_need_rules {P : Program} {w : World} {K : PySem.W.Frag} {mg : Str → Option Value} {base : Heap} (B : Bl mg) (C_need_rule : Cal P w K mg base (5) "need_rule" st_need_rule ps_need_rule sp_need_rule) (C_need_same : Cal P w K mg base (1) "need_same" st_need_same ps_need_same sp_need_same) {f : Addr} {cdv : Value} {A : Around} {outer : List Env} {s : Shared} {H : Hp} (hr : RoomG (5) (A.deeper (envOfC "need_rules" (defScope st_need_rules) s.heap.objs.size f cdv))) :
    DSs (cxD P w K mg base N_need_rules "need_rules" (defScope st_need_rules) f cdv A outer s H) (defBody st_need_rules) (rd_need_rules) :=
    (s_cons (s_expr (d_callC C_need_rule (hr.mono (by decide)) rfl bd_need_rule (a_cons (d_var 0) a_nil)))
    (s_cons (s_expr (d_callC C_need_rule (hr.mono (by decide)) rfl bd_need_rule (a_cons (d_var 1) a_nil)))
    (s_one (s_expr (d_callC C_need_same (hr.mono (by decide)) rfl bd_need_same (a_cons (d_var 0) (a_cons (d_var 1) a_nil)))))))
theorem sc_primes_of : FnScope N_primes_of ps_primes_of (defScope st_primes_of) := ⟨rfl, rfl, rfl, by decide +kernel, rfl, by decide +kernel, by decide +kernel⟩
theorem der_primes_of {P : Program} {w : World} {K : PySem.W.Frag} {mg : Str → Option Value} {base : Heap} (B : Bl mg) (HT_PRIMES : KTup K mg "PRIMES" primesT) (C_is_modulus : Cal P w K mg base (2) "is_modulus" st_is_modulus ps_is_modulus sp_is_modulus) {f : Addr} {cdv : Value} {A : Around} {outer : List Env} {s : Shared} {H : Hp} (hr : RoomG (2) (A.deeper (envOfC "primes_of" (defScope st_primes_of) s.heap.objs.size f cdv))) :
    DSs (cxD P w K mg base N_primes_of "primes_of" (defScope st_primes_of) f cdv A outer s H) (defBody st_primes_of) (rd_primes_of) :=
    (s_cons (s_if (c_not (c_val (d_callC C_is_modulus (hr.mono (by decide)) rfl bd_is_modulus (a_cons (d_var 0) a_nil)))) (s_one s_never) s_nil)
    (s_one (s_ret (d_callTy call_list_of u_listC rfl B.list (by decide +kernel) (a_cons (d_ixK HT_PRIMES rfl (d_var 0)) a_nil)))))
theorem sc_still : FnScope N_still ps_still (defScope st_still) := ⟨rfl, rfl, rfl, by decide +kernel, rfl, by decide +kernel, by decide +kernel⟩
theorem der_still {P : Program} {w : World} {K : PySem.W.Frag} {mg : Str → Option Value} {base : Heap} (B : Bl mg) (C_is_modulus : Cal P w K mg base (2) "is_modulus" st_is_modulus ps_is_modulus sp_is_modulus) {f : Addr} {cdv : Value} {A : Around} {outer : List Env} {s : Shared} {H : Hp} (hr : RoomG (2) (A.deeper (envOfC "still" (defScope st_still) s.heap.objs.size f cdv))) :
    DSs (cxD P w K mg base N_still "still" (defScope st_still) f cdv A outer s H) (defBody st_still) (rd_still) :=
    (s_cons (s_if (c_not (c_val (d_callC C_is_modulus (hr.mono (by decide)) rfl bd_is_modulus (a_cons (d_var 0) a_nil)))) (s_one s_never) s_nil)
    (s_one (s_ret (d_tup (a_cons (d_var 0) (a_cons (d_tup (a_cons (d_tup (a_cons d_int (a_cons d_int a_nil))) a_nil)) a_nil))))))
theorem sc_left_of : FnScope N_left_of ps_left_of (defScope st_left_of) := ⟨rfl, rfl, rfl, by decide +kernel, rfl, by decide +kernel, by decide +kernel⟩
theorem der_left_of {P : Program} {w : World} {K : PySem.W.Frag} {mg : Str → Option Value} {base : Heap} (B : Bl mg) {f : Addr} {cdv : Value} {A : Around} {outer : List Env} {s : Shared} {H : Hp} (hr : RoomG (0) (A.deeper (envOfC "left_of" (defScope st_left_of) s.heap.objs.size f cdv))) :
    DSs (cxD P w K mg base N_left_of "left_of" (defScope st_left_of) f cdv A outer s H) (defBody st_left_of) (rd_left_of) :=
    (s_one (s_ret (d_callTy call_tuple_of u_tuple rfl B.tuple (by decide +kernel) (a_cons (d_lcV rfl sc_left_of.nd (i_list (d_callB (call_sortedK rfl) u_sortD rfl B.sorted (by decide +kernel) (a_cons (d_var 0) a_nil))) (blkOk_by (own := [("place", 2)]) (N := N_left_of) (sc := defScope st_left_of) (by decide +kernel)) (compG_name (i := 2) (by decide)) (fun _ _ _ _ _ => (pg_name (i := 2) sc_left_of.nd rfl (by first | exact Or.inl rfl | exact Or.inr rfl))) (fun _ _ _ _ _ => (t_one (c_tr (d_mod (d_ixC hr.r.units (d_var 0) (d_var 2)) (d_var 1))))) (fun _ _ _ _ _ => (d_tup (a_cons (d_var 2) (a_cons (d_mod (d_ixC hr.r.units (d_var 0) (d_var 2)) (d_var 1)) a_nil))))) a_nil))))
theorem sc_sums_of : FnScope N_sums_of ps_sums_of (defScope st_sums_of) := ⟨rfl, rfl, rfl, by decide +kernel, rfl, by decide +kernel, by decide +kernel⟩
theorem der_sums_of {P : Program} {w : World} {K : PySem.W.Frag} {mg : Str → Option Value} {base : Heap} (B : Bl mg) {f : Addr} {cdv : Value} {A : Around} {outer : List Env} {s : Shared} {H : Hp} (hr : RoomG (0) (A.deeper (envOfC "sums_of" (defScope st_sums_of) s.heap.objs.size f cdv))) :
    DSs (cxD P w K mg base N_sums_of "sums_of" (defScope st_sums_of) f cdv A outer s H) (defBody st_sums_of) (rd_sums_of) :=
    (s_cons (s_set (i := 2) sc_sums_of.nd rfl (by first | exact Or.inl rfl | exact Or.inr rfl) d_dictC)
    (s_cons (s_for PassesOwn.never rfl (i_tup (d_plus (d_var 0) (d_var 1))) (g_tup (is := [3, 4]) rfl (pgs_name2 (pg_name (i := 3) sc_sums_of.nd rfl (by first | exact Or.inl rfl | exact Or.inr rfl)) (pgs_name2 (pg_name (i := 4) sc_sums_of.nd rfl (by first | exact Or.inl rfl | exact Or.inr rfl)) pgs_nil))) (show DSs _ _ (lb_sums_of_1) from (s_one (s_asg (d_plus (d_getC hr.r.units (d_var 2) (d_var 3) d_int) (d_var 4)) (g_subD hr.r.units (d_var 2) (d_var 3))))))
    (s_one (s_ret (d_var 2)))))
theorem sc_products_of : FnScope N_products_of ps_products_of (defScope st_products_of) := ⟨rfl, rfl, rfl, by decide +kernel, rfl, by decide +kernel, by decide +kernel⟩
theorem der_products_of {P : Program} {w : World} {K : PySem.W.Frag} {mg : Str → Option Value} {base : Heap} (B : Bl mg) {f : Addr} {cdv : Value} {A : Around} {outer : List Env} {s : Shared} {H : Hp} (hr : RoomG (0) (A.deeper (envOfC "products_of" (defScope st_products_of) s.heap.objs.size f cdv))) :
    DSs (cxD P w K mg base N_products_of "products_of" (defScope st_products_of) f cdv A outer s H) (defBody st_products_of) (rd_products_of) :=
    (s_cons (s_set (i := 2) sc_products_of.nd rfl (by first | exact Or.inl rfl | exact Or.inr rfl) d_dictC)
    (s_cons (s_for PassesOwn.never rfl (i_tup (d_var 0)) (g_tup (is := [3, 4]) rfl (pgs_name2 (pg_name (i := 3) sc_products_of.nd rfl (by first | exact Or.inl rfl | exact Or.inr rfl)) (pgs_name2 (pg_name (i := 4) sc_products_of.nd rfl (by first | exact Or.inl rfl | exact Or.inr rfl)) pgs_nil))) (show DSs _ _ (lb_products_of_2) from (s_one (s_for PassesOwn.never rfl (i_tup (d_var 1)) (g_tup (is := [5, 6]) rfl (pgs_name2 (pg_name (i := 5) sc_products_of.nd rfl (by first | exact Or.inl rfl | exact Or.inr rfl)) (pgs_name2 (pg_name (i := 6) sc_products_of.nd rfl (by first | exact Or.inl rfl | exact Or.inr rfl)) pgs_nil))) (show DSs _ _ (lb_products_of_1) from (s_one (s_asg (d_plus (d_getC hr.r.units (d_var 2) (d_plus (d_var 3) (d_var 5)) d_int) (d_mul (d_var 4) (d_var 6))) (g_subD hr.r.units (d_var 2) (d_plus (d_var 3) (d_var 5))))))))))
    (s_one (s_ret (d_var 2)))))
theorem sc_plus : FnScope N_plus ps_plus (defScope st_plus) := ⟨rfl, rfl, rfl, by decide +kernel, rfl, by decide +kernel, by decide +kernel⟩
theorem der_plus {P : Program} {w : World} {K : PySem.W.Frag} {mg : Str → Option Value} {base : Heap} (B : Bl mg) (C_need_rules : Cal P w K mg base (6) "need_rules" st_need_rules ps_need_rules sp_need_rules) (C_left_of : Cal P w K mg base (1) "left_of" st_left_of ps_left_of sp_left_of) (C_sums_of : Cal P w K mg base (1) "sums_of" st_sums_of ps_sums_of sp_sums_of) {f : Addr} {cdv : Value} {A : Around} {outer : List Env} {s : Shared} {H : Hp} (hr : RoomG (6) (A.deeper (envOfC "plus" (defScope st_plus) s.heap.objs.size f cdv))) :
    DSs (cxD P w K mg base N_plus "plus" (defScope st_plus) f cdv A outer s H) (defBody st_plus) (rd_plus) :=
    (s_cons (s_expr (d_callC C_need_rules (hr.mono (by decide)) rfl bd_need_rules (a_cons (d_var 0) (a_cons (d_var 1) a_nil))))
    (s_one (s_ret (d_tup (a_cons (d_item (d_var 0) d_int) (a_cons (d_callC C_left_of (hr.mono (by decide)) rfl bd_left_of (a_cons (d_callC C_sums_of (hr.mono (by decide)) rfl bd_sums_of (a_cons (d_item (d_var 0) d_int) (a_cons (d_item (d_var 1) d_int) a_nil))) (a_cons (d_item (d_var 0) d_int) a_nil))) a_nil))))))
theorem sc_behind : FnScope N_behind ps_behind (defScope st_behind) := ⟨rfl, rfl, rfl, by decide +kernel, rfl, by decide +kernel, by decide +kernel⟩
theorem der_behind {P : Program} {w : World} {K : PySem.W.Frag} {mg : Str → Option Value} {base : Heap} (B : Bl mg) (C_need_rules : Cal P w K mg base (6) "need_rules" st_need_rules ps_need_rules sp_need_rules) (C_left_of : Cal P w K mg base (1) "left_of" st_left_of ps_left_of sp_left_of) (C_products_of : Cal P w K mg base (1) "products_of" st_products_of ps_products_of sp_products_of) {f : Addr} {cdv : Value} {A : Around} {outer : List Env} {s : Shared} {H : Hp} (hr : RoomG (6) (A.deeper (envOfC "behind" (defScope st_behind) s.heap.objs.size f cdv))) :
    DSs (cxD P w K mg base N_behind "behind" (defScope st_behind) f cdv A outer s H) (defBody st_behind) (rd_behind) :=
    (s_cons (s_expr (d_callC C_need_rules (hr.mono (by decide)) rfl bd_need_rules (a_cons (d_var 0) (a_cons (d_var 1) a_nil))))
    (s_one (s_ret (d_tup (a_cons (d_item (d_var 0) d_int) (a_cons (d_callC C_left_of (hr.mono (by decide)) rfl bd_left_of (a_cons (d_callC C_products_of (hr.mono (by decide)) rfl bd_products_of (a_cons (d_item (d_var 0) d_int) (a_cons (d_item (d_var 1) d_int) a_nil))) (a_cons (d_item (d_var 0) d_int) a_nil))) a_nil))))))
theorem sc_power : FnScope N_power ps_power (defScope st_power) := ⟨rfl, rfl, rfl, by decide +kernel, rfl, by decide +kernel, by decide +kernel⟩
theorem der_power {P : Program} {w : World} {K : PySem.W.Frag} {mg : Str → Option Value} {base : Heap} (B : Bl mg) (H_MOST_POWER : KNum mg "MOST_POWER" 40) (C_need_rule : Cal P w K mg base (5) "need_rule" st_need_rule ps_need_rule sp_need_rule) (C_still : Cal P w K mg base (3) "still" st_still ps_still sp_still) (C_behind : Cal P w K mg base (7) "behind" st_behind ps_behind sp_behind) {f : Addr} {cdv : Value} {A : Around} {outer : List Env} {s : Shared} {H : Hp} (hr : RoomG (7) (A.deeper (envOfC "power" (defScope st_power) s.heap.objs.size f cdv))) :
    DSs (cxD P w K mg base N_power "power" (defScope st_power) f cdv A outer s H) (defBody st_power) (rd_power) :=
    (s_cons (s_expr (d_callC C_need_rule (hr.mono (by decide)) rfl bd_need_rule (a_cons (d_var 0) a_nil)))
    (s_cons (s_if (c_not (c_chain op_le u_le op_le u_le d_int (d_var 1) (d_num H_MOST_POWER rfl))) (s_one s_never) s_nil)
    (s_cons (s_set (i := 2) sc_power.nd rfl (by first | exact Or.inl rfl | exact Or.inr rfl) (d_callC C_still (hr.mono (by decide)) rfl bd_still (a_cons (d_item (d_var 0) d_int) a_nil)))
    (s_cons (s_for PassesOwn.never rfl (i_down rfl B.reversed rfl B.range (d_bitl (d_var 1))) (g_name (i := 3) sc_power.nd rfl (by first | exact Or.inl rfl | exact Or.inr rfl)) (show DSs _ _ (lb_power_1) from (s_cons (s_set (i := 2) sc_power.nd rfl (by first | exact Or.inl rfl | exact Or.inr rfl) (d_callC C_behind (hr.mono (by decide)) rfl bd_behind (a_cons (d_var 2) (a_cons (d_var 2) a_nil))))
    (s_one (s_if (c_tr (d_band (d_shr (d_var 1) (d_var 3)) d_int)) (s_one (s_set (i := 2) sc_power.nd rfl (by first | exact Or.inl rfl | exact Or.inr rfl) (d_callC C_behind (hr.mono (by decide)) rfl bd_behind (a_cons (d_var 2) (a_cons (d_var 0) a_nil))))) s_nil)))))
    (s_one (s_ret (d_var 2)))))))
theorem sc__law_source : FnScope N__law_source ps__law_source (defScope st__law_source) := ⟨rfl, rfl, rfl, by decide +kernel, rfl, by decide +kernel, by decide +kernel⟩
theorem der__law_source {P : Program} {w : World} {K : PySem.W.Frag} {mg : Str → Option Value} {base : Heap} (B : Bl mg) {f : Addr} {cdv : Value} {A : Around} {outer : List Env} {s : Shared} {H : Hp} (hr : RoomG (0) (A.deeper (envOfC "_law_source" (defScope st__law_source) s.heap.objs.size f cdv))) :
    DSs (cxD P w K mg base N__law_source "_law_source" (defScope st__law_source) f cdv A outer s H) (defBody st__law_source) (rd__law_source) :=
    (s_cons (s_set (i := 2) sc__law_source.nd rfl (by first | exact Or.inl rfl | exact Or.inr rfl) (d_plus (d_mul d_int (d_var 1)) d_int))
    (s_cons (s_if (c_lt (d_var 1) (d_callB call_len_seq u_len rfl B.len (by decide +kernel) (a_cons (d_var 0) a_nil))) (s_one (s_set (i := 2) sc__law_source.nd rfl (by first | exact Or.inl rfl | exact Or.inr rfl) (d_item (d_var 0) (d_var 1)))) s_nil)
    (s_cons (s_set (i := 3) sc__law_source.nd rfl (by first | exact Or.inl rfl | exact Or.inr rfl) (d_plus (d_callB (cr_sum rfl) u_sum rfl B.sum (by decide +kernel) (a_cons (d_lcV rfl sc__law_source.nd (i_enum rfl B.enumerate (a_cons (d_var 0) a_nil)) (blkOk_by (own := [("_law_place", 4), ("_law_other", 5)]) (N := N__law_source) (sc := defScope st__law_source) (by decide +kernel)) (compG_tup (is := [4, 5]) (by decide)) (fun _ _ _ _ _ => (pg_tup (n := 2) rfl (pgs_name2 (pg_name (i := 4) sc__law_source.nd rfl (by first | exact Or.inl rfl | exact Or.inr rfl)) (pgs_name2 (pg_name (i := 5) sc__law_source.nd rfl (by first | exact Or.inl rfl | exact Or.inr rfl)) pgs_nil)))) (fun _ _ _ _ _ => t_nil) (fun _ _ _ _ _ => (d_mul (d_mod (d_callTy call_int1 u_int rfl B.int (by decide +kernel) (a_cons (d_var 5) a_nil)) (d_plus (d_pow d_int d_int) d_int)) (d_plus (d_var 4) d_int)))) a_nil)) (d_mul d_int (d_callB call_len_seq u_len rfl B.len (by decide +kernel) (a_cons (d_var 0) a_nil)))))
    (s_cons (s_set (i := 6) sc__law_source.nd rfl (by first | exact Or.inl rfl | exact Or.inr rfl) (d_mod (d_callTy call_int1 u_int rfl B.int (by decide +kernel) (a_cons (d_plus (d_plus (d_plus (d_mul (d_callB call_abs u_abs rfl B.abs (by decide +kernel) (a_cons (d_var 2) a_nil)) d_int) (d_mul d_int (d_callTy call_int1 u_int rfl B.int (by decide +kernel) (a_cons (d_lt (d_var 2) d_int) a_nil)))) (d_mul (d_var 3) d_int)) (d_var 1)) a_nil)) (d_plus (d_pow d_int d_int) d_int)))
    (s_one (s_ret (d_lstC (a_cons (d_callB (call_max2 rfl) u_max2 rfl B.max (by decide +kernel) (a_cons d_int (a_cons (d_sub (d_var 2) (d_pow d_int d_int)) a_nil))) (a_cons (d_var 6) (a_cons d_int a_nil))))))))))
theorem sc__law_pick : FnScope N__law_pick ps__law_pick (defScope st__law_pick) := ⟨rfl, rfl, rfl, by decide +kernel, rfl, by decide +kernel, by decide +kernel⟩
theorem der__law_pick {P : Program} {w : World} {K : PySem.W.Frag} {mg : Str → Option Value} {base : Heap} (B : Bl mg) {f : Addr} {cdv : Value} {A : Around} {outer : List Env} {s : Shared} {H : Hp} (hr : RoomG (0) (A.deeper (envOfC "_law_pick" (defScope st__law_pick) s.heap.objs.size f cdv))) :
    DSs (cxD P w K mg base N__law_pick "_law_pick" (defScope st__law_pick) f cdv A outer s H) (defBody st__law_pick) (rd__law_pick) :=
    (s_cons (s_if (c_gt (d_item (d_var 0) d_int) d_int) (s_cons (s_set (i := 2) sc__law_pick.nd rfl (by first | exact Or.inl rfl | exact Or.inr rfl) (d_mod (d_callTy call_int1 u_int rfl B.int (by decide +kernel) (a_cons (d_item (d_var 0) d_int) a_nil)) (d_var 1)))
    (s_cons (s_asg (d_fdiv (d_item (d_var 0) d_int) (d_var 1)) (g_subL (d_var 0) d_int))
    (s_one (s_ret (d_var 2))))) s_nil)
    (s_cons (s_asg (d_plus (d_item (d_var 0) d_int) d_int) (g_subL (d_var 0) d_int))
    (s_cons (s_set (i := 3) sc__law_pick.nd rfl (by first | exact Or.inl rfl | exact Or.inr rfl) (d_mod (d_callTy call_int1 u_int rfl B.int (by decide +kernel) (a_cons (d_plus (d_pow (d_plus (d_item (d_var 0) d_int) (d_mul d_int (d_item (d_var 0) d_int))) d_int) (d_mul d_int (d_item (d_var 0) d_int))) a_nil)) (d_plus (d_pow d_int d_int) d_int)))
    (s_cons (s_set (i := 3) sc__law_pick.nd rfl (by first | exact Or.inl rfl | exact Or.inr rfl) (d_mod (d_callTy call_int1 u_int rfl B.int (by decide +kernel) (a_cons (d_mul (d_var 3) (d_plus (d_var 3) (d_mul d_int (d_item (d_var 0) d_int)))) a_nil)) (d_plus (d_pow d_int d_int) d_int)))
    (s_one (s_ret (d_mod (d_callTy call_int1 u_int rfl B.int (by decide +kernel) (a_cons (d_fdiv (d_var 3) d_int) a_nil)) (d_var 1))))))))
theorem sc__law_primes : FnScope N__law_primes ps__law_primes (defScope st__law_primes) := ⟨rfl, rfl, rfl, by decide +kernel, rfl, by decide +kernel, by decide +kernel⟩
theorem der__law_primes {P : Program} {w : World} {K : PySem.W.Frag} {mg : Str → Option Value} {base : Heap} (B : Bl mg) {f : Addr} {cdv : Value} {A : Around} {outer : List Env} {s : Shared} {H : Hp} (hr : RoomG (0) (A.deeper (envOfC "_law_primes" (defScope st__law_primes) s.heap.objs.size f cdv))) :
    DSs (cxD P w K mg base N__law_primes "_law_primes" (defScope st__law_primes) f cdv A outer s H) (defBody st__law_primes) (rd__law_primes) :=
    (s_one (s_ret (d_lcV rfl sc__law_primes.nd (i_list (d_lst (a_cons d_int (a_cons d_int (a_cons d_int (a_cons d_int (a_cons d_int (a_cons d_int a_nil)))))))) (blkOk_by (own := [("_law_prime", 1)]) (N := N__law_primes) (sc := defScope st__law_primes) (by decide +kernel)) (compG_name (i := 1) (by decide)) (fun _ _ _ _ _ => (pg_name (i := 1) sc__law_primes.nd rfl (by first | exact Or.inl rfl | exact Or.inr rfl))) (fun _ _ _ _ _ => (t_one (c_eqX hr.r.units (d_mod (d_callTy call_int1 u_int rfl B.int (by decide +kernel) (a_cons (d_var 0) a_nil)) (d_var 1)) d_int))) (fun _ _ _ _ _ => (d_var 1)))))
theorem sc__law_modulus : FnScope N__law_modulus ps__law_modulus (defScope st__law_modulus) := ⟨rfl, rfl, rfl, by decide +kernel, rfl, by decide +kernel, by decide +kernel⟩
theorem der__law_modulus {P : Program} {w : World} {K : PySem.W.Frag} {mg : Str → Option Value} {base : Heap} (B : Bl mg) (C__law_pick : Cal P w K mg base (1) "_law_pick" st__law_pick ps__law_pick sp__law_pick) {f : Addr} {cdv : Value} {A : Around} {outer : List Env} {s : Shared} {H : Hp} (hr : RoomG (1) (A.deeper (envOfC "_law_modulus" (defScope st__law_modulus) s.heap.objs.size f cdv))) :
    DSs (cxD P w K mg base N__law_modulus "_law_modulus" (defScope st__law_modulus) f cdv A outer s H) (defBody st__law_modulus) (rd__law_modulus) :=
    (s_one (s_ret (d_item (d_lst (a_cons d_int (a_cons d_int (a_cons d_int (a_cons d_int (a_cons d_int (a_cons d_int (a_cons d_int (a_cons d_int (a_cons d_int (a_cons d_int a_nil))))))))))) (d_callC C__law_pick (hr.mono (by decide)) rfl bd__law_pick (a_cons (d_var 0) (a_cons d_int a_nil))))))
theorem sc__law_factor : FnScope N__law_factor ps__law_factor (defScope st__law_factor) := ⟨rfl, rfl, rfl, by decide +kernel, rfl, by decide +kernel, by decide +kernel⟩
theorem der__law_factor {P : Program} {w : World} {K : PySem.W.Frag} {mg : Str → Option Value} {base : Heap} (B : Bl mg) (C__law_pick : Cal P w K mg base (1) "_law_pick" st__law_pick ps__law_pick sp__law_pick) {f : Addr} {cdv : Value} {A : Around} {outer : List Env} {s : Shared} {H : Hp} (hr : RoomG (1) (A.deeper (envOfC "_law_factor" (defScope st__law_factor) s.heap.objs.size f cdv))) :
    DSs (cxD P w K mg base N__law_factor "_law_factor" (defScope st__law_factor) f cdv A outer s H) (defBody st__law_factor) (rd__law_factor) :=
    (s_one (s_ret (d_mul (d_var 2) (d_plus d_int (d_callC C__law_pick (hr.mono (by decide)) rfl bd__law_pick (a_cons (d_var 0) (a_cons (d_sub (d_fdiv (d_var 1) (d_var 2)) d_int) a_nil)))))))
theorem sc__law_terms : FnScope N__law_terms ps__law_terms (defScope st__law_terms) := ⟨rfl, rfl, rfl, by decide +kernel, rfl, by decide +kernel, by decide +kernel⟩
theorem der__law_terms {P : Program} {w : World} {K : PySem.W.Frag} {mg : Str → Option Value} {base : Heap} (B : Bl mg) (C__law_pick : Cal P w K mg base (1) "_law_pick" st__law_pick ps__law_pick sp__law_pick) (C__law_primes : Cal P w K mg base (1) "_law_primes" st__law_primes ps__law_primes sp__law_primes) (C__law_factor : Cal P w K mg base (2) "_law_factor" st__law_factor ps__law_factor sp__law_factor) {f : Addr} {cdv : Value} {A : Around} {outer : List Env} {s : Shared} {H : Hp} (hr : RoomG (2) (A.deeper (envOfC "_law_terms" (defScope st__law_terms) s.heap.objs.size f cdv))) :
    DSs (cxD P w K mg base N__law_terms "_law_terms" (defScope st__law_terms) f cdv A outer s H) (defBody st__law_terms) (rd__law_terms) :=
    (s_cons (s_par (i := 2) (j := 3) rfl sc__law_terms.nd rfl rfl (by decide) rfl rfl (a_cons (d_callC C__law_pick (hr.mono (by decide)) rfl bd__law_pick (a_cons (d_var 0) (a_cons d_int a_nil))) (a_cons (d_callC C__law_primes (hr.mono (by decide)) rfl bd__law_primes (a_cons (d_var 1) a_nil)) a_nil)) (by rfl))
    (s_cons (s_asg (d_tup (a_cons d_int (a_cons (d_lcV rfl sc__law_terms.nd (i_range1 rfl B.range (a_cons d_int a_nil)) (blkOk_by (own := [("_law_offset", 6)]) (N := N__law_terms) (sc := defScope st__law_terms) (by decide +kernel)) (compG_name (i := 6) (by decide)) (fun _ _ _ _ _ => (pg_name (i := 6) sc__law_terms.nd rfl (by first | exact Or.inl rfl | exact Or.inr rfl))) (fun _ _ _ _ _ => t_nil) (fun _ _ _ _ _ => (d_callC C__law_pick (hr.mono (by decide)) rfl bd__law_pick (a_cons (d_var 0) (a_cons d_int a_nil))))) a_nil))) (g_tup (is := [4, 5]) rfl (pgs_name2 (pg_name (i := 4) sc__law_terms.nd rfl (by first | exact Or.inl rfl | exact Or.inr rfl)) (pgs_name2 (pg_name (i := 5) sc__law_terms.nd rfl (by first | exact Or.inl rfl | exact Or.inr rfl)) pgs_nil))))
    (s_cons (s_setLcV (i := 7) rfl sc__law_terms.nd rfl rfl (sw_true rfl rfl rfl (by decide +kernel)) (i_range2 rfl B.range (a_cons (d_neg d_int) (a_cons d_int a_nil))) (blkOk_by (own := [("_law_offset", 6)]) (N := N__law_terms) (sc := defScope st__law_terms) (by decide +kernel)) (compG_name (i := 6) (by decide)) (fun _ _ _ _ _ => (pg_name (i := 6) sc__law_terms.nd rfl (by first | exact Or.inl rfl | exact Or.inr rfl))) (fun _ _ _ _ _ => (t_one (c_gt (d_item (d_var 5) (d_plus (d_var 6) d_int)) d_int))) (fun _ _ _ _ _ => (d_var 6)))
    (s_cons (s_if (c_lt (d_var 2) d_int) (s_one (s_set (i := 7) sc__law_terms.nd rfl (by first | exact Or.inl rfl | exact Or.inr rfl) (d_slice (d_var 7) o_no (o_some (d_var 2))))) s_nil)
    (s_cons (s_if (c_w (cw_and (c_gt (d_var 2) d_int) (cw_and1 (c_eqX hr.r.units (d_callB call_len_seq u_len rfl B.len (by decide +kernel) (a_cons (d_var 3) a_nil)) d_int)))) (s_one (s_set (i := 4) sc__law_terms.nd rfl (by first | exact Or.inl rfl | exact Or.inr rfl) (d_item (d_var 3) (d_sub (d_var 2) d_int)))) s_nil)
    (s_one (s_ret (d_callTy call_tuple_of u_tuple rfl B.tuple (by decide +kernel) (a_cons (d_lcV rfl sc__law_terms.nd (i_list (d_var 7)) (blkOk_by (own := [("_law_offset", 6)]) (N := N__law_terms) (sc := defScope st__law_terms) (by decide +kernel)) (compG_name (i := 6) (by decide)) (fun _ _ _ _ _ => (pg_name (i := 6) sc__law_terms.nd rfl (by first | exact Or.inl rfl | exact Or.inr rfl))) (fun _ _ _ _ _ => t_nil) (fun _ _ _ _ _ => (d_tup (a_cons (d_var 6) (a_cons (d_callC C__law_factor (hr.mono (by decide)) rfl bd__law_factor (a_cons (d_var 0) (a_cons (d_var 1) (a_cons (d_var 4) a_nil)))) a_nil))))) a_nil)))))))))
theorem sc__law_tidy : FnScope N__law_tidy ps__law_tidy (defScope st__law_tidy) := ⟨rfl, rfl, rfl, by decide +kernel, rfl, by decide +kernel, by decide +kernel⟩
theorem der__law_tidy {P : Program} {w : World} {K : PySem.W.Frag} {mg : Str → Option Value} {base : Heap} (B : Bl mg) {f : Addr} {cdv : Value} {A : Around} {outer : List Env} {s : Shared} {H : Hp} (hr : RoomG (0) (A.deeper (envOfC "_law_tidy" (defScope st__law_tidy) s.heap.objs.size f cdv))) :
    DSs (cxD P w K mg base N__law_tidy "_law_tidy" (defScope st__law_tidy) f cdv A outer s H) (defBody st__law_tidy) (rd__law_tidy) :=
    (s_one (s_ret (d_callTy call_tuple_of u_tuple rfl B.tuple (by decide +kernel) (a_cons (d_lcV rfl sc__law_tidy.nd (i_list (d_callB (call_sortedK rfl) u_sortD rfl B.sorted (by decide +kernel) (a_cons (d_var 0) a_nil))) (blkOk_by (own := [("_law_place", 2)]) (N := N__law_tidy) (sc := defScope st__law_tidy) (by decide +kernel)) (compG_name (i := 2) (by decide)) (fun _ _ _ _ _ => (pg_name (i := 2) sc__law_tidy.nd rfl (by first | exact Or.inl rfl | exact Or.inr rfl))) (fun _ _ _ _ _ => (t_one (c_neX hr.r.units (d_mod (d_callTy call_int1 u_int rfl B.int (by decide +kernel) (a_cons (d_ixC hr.r.units (d_var 0) (d_var 2)) a_nil)) (d_var 1)) d_int))) (fun _ _ _ _ _ => (d_tup (a_cons (d_var 2) (a_cons (d_mod (d_callTy call_int1 u_int rfl B.int (by decide +kernel) (a_cons (d_ixC hr.r.units (d_var 0) (d_var 2)) a_nil)) (d_var 1)) a_nil))))) a_nil))))
theorem sc__law_product : FnScope N__law_product ps__law_product (defScope st__law_product) := ⟨rfl, rfl, rfl, by decide +kernel, rfl, by decide +kernel, by decide +kernel⟩
theorem der__law_product {P : Program} {w : World} {K : PySem.W.Frag} {mg : Str → Option Value} {base : Heap} (B : Bl mg) (C__law_tidy : Cal P w K mg base (1) "_law_tidy" st__law_tidy ps__law_tidy sp__law_tidy) {f : Addr} {cdv : Value} {A : Around} {outer : List Env} {s : Shared} {H : Hp} (hr : RoomG (1) (A.deeper (envOfC "_law_product" (defScope st__law_product) s.heap.objs.size f cdv))) :
    DSs (cxD P w K mg base N__law_product "_law_product" (defScope st__law_product) f cdv A outer s H) (defBody st__law_product) (rd__law_product) :=
    (s_cons (s_set (i := 3) sc__law_product.nd rfl (by first | exact Or.inl rfl | exact Or.inr rfl) d_dictC)
    (s_cons (s_for PassesOwn.never rfl (i_tup (d_var 0)) (g_tup (is := [4, 5]) rfl (pgs_name2 (pg_name (i := 4) sc__law_product.nd rfl (by first | exact Or.inl rfl | exact Or.inr rfl)) (pgs_name2 (pg_name (i := 5) sc__law_product.nd rfl (by first | exact Or.inl rfl | exact Or.inr rfl)) pgs_nil))) (show DSs _ _ (lb__law_product_2) from (s_one (s_for PassesOwn.never rfl (i_tup (d_var 1)) (g_tup (is := [6, 7]) rfl (pgs_name2 (pg_name (i := 6) sc__law_product.nd rfl (by first | exact Or.inl rfl | exact Or.inr rfl)) (pgs_name2 (pg_name (i := 7) sc__law_product.nd rfl (by first | exact Or.inl rfl | exact Or.inr rfl)) pgs_nil))) (show DSs _ _ (lb__law_product_1) from (s_one (s_asg (d_plus (d_getC hr.r.units (d_var 3) (d_plus (d_var 4) (d_var 6)) d_int) (d_mul (d_var 5) (d_var 7))) (g_subD hr.r.units (d_var 3) (d_plus (d_var 4) (d_var 6))))))))))
    (s_one (s_ret (d_callC C__law_tidy (hr.mono (by decide)) rfl bd__law_tidy (a_cons (d_var 3) (a_cons (d_var 2) a_nil)))))))
theorem sc__law_power : FnScope N__law_power ps__law_power (defScope st__law_power) := ⟨rfl, rfl, rfl, by decide +kernel, rfl, by decide +kernel, by decide +kernel⟩
theorem der__law_power {P : Program} {w : World} {K : PySem.W.Frag} {mg : Str → Option Value} {base : Heap} (B : Bl mg) (C__law_product : Cal P w K mg base (2) "_law_product" st__law_product ps__law_product sp__law_product) {f : Addr} {cdv : Value} {A : Around} {outer : List Env} {s : Shared} {H : Hp} (hr : RoomG (2) (A.deeper (envOfC "_law_power" (defScope st__law_power) s.heap.objs.size f cdv))) :
    DSs (cxD P w K mg base N__law_power "_law_power" (defScope st__law_power) f cdv A outer s H) (defBody st__law_power) (rd__law_power) :=
    (s_cons (s_set (i := 3) sc__law_power.nd rfl (by first | exact Or.inl rfl | exact Or.inr rfl) (d_tup (a_cons (d_tup (a_cons d_int (a_cons d_int a_nil))) a_nil)))
    (s_cons (s_for PassesOwn.never rfl (i_range1 rfl B.range (a_cons (d_var 1) a_nil)) (g_name (i := 4) sc__law_power.nd rfl (by first | exact Or.inl rfl | exact Or.inr rfl)) (show DSs _ _ (lb__law_power_1) from (s_one (s_set (i := 3) sc__law_power.nd rfl (by first | exact Or.inl rfl | exact Or.inr rfl) (d_callC C__law_product (hr.mono (by decide)) rfl bd__law_product (a_cons (d_var 3) (a_cons (d_var 0) (a_cons (d_var 2) a_nil))))))))
    (s_one (s_ret (d_var 3)))))
theorem sc__law_sum : FnScope N__law_sum ps__law_sum (defScope st__law_sum) := ⟨rfl, rfl, rfl, by decide +kernel, rfl, by decide +kernel, by decide +kernel⟩
theorem der__law_sum {P : Program} {w : World} {K : PySem.W.Frag} {mg : Str → Option Value} {base : Heap} (B : Bl mg) (C__law_tidy : Cal P w K mg base (1) "_law_tidy" st__law_tidy ps__law_tidy sp__law_tidy) {f : Addr} {cdv : Value} {A : Around} {outer : List Env} {s : Shared} {H : Hp} (hr : RoomG (1) (A.deeper (envOfC "_law_sum" (defScope st__law_sum) s.heap.objs.size f cdv))) :
    DSs (cxD P w K mg base N__law_sum "_law_sum" (defScope st__law_sum) f cdv A outer s H) (defBody st__law_sum) (rd__law_sum) :=
    (s_cons (s_set (i := 3) sc__law_sum.nd rfl (by first | exact Or.inl rfl | exact Or.inr rfl) d_dictC)
    (s_cons (s_for PassesOwn.never rfl (i_tup (d_plus (d_var 0) (d_var 1))) (g_tup (is := [4, 5]) rfl (pgs_name2 (pg_name (i := 4) sc__law_sum.nd rfl (by first | exact Or.inl rfl | exact Or.inr rfl)) (pgs_name2 (pg_name (i := 5) sc__law_sum.nd rfl (by first | exact Or.inl rfl | exact Or.inr rfl)) pgs_nil))) (show DSs _ _ (lb__law_sum_1) from (s_one (s_asg (d_plus (d_getC hr.r.units (d_var 3) (d_var 4) d_int) (d_var 5)) (g_subD hr.r.units (d_var 3) (d_var 4))))))
    (s_one (s_ret (d_callC C__law_tidy (hr.mono (by decide)) rfl bd__law_tidy (a_cons (d_var 3) (a_cons (d_var 2) a_nil)))))))
theorem sc__law_small_right : FnScope N__law_small_right ps__law_small_right (defScope st__law_small_right) := ⟨rfl, rfl, rfl, by decide +kernel, rfl, by decide +kernel, by decide +kernel⟩
theorem der__law_small_right {P : Program} {w : World} {K : PySem.W.Frag} {mg : Str → Option Value} {base : Heap} (B : Bl mg) (C_primes_of : Cal P w K mg base (3) "primes_of" st_primes_of ps_primes_of sp_primes_of) (C__law_primes : Cal P w K mg base (1) "_law_primes" st__law_primes ps__law_primes sp__law_primes) (C_still : Cal P w K mg base (3) "still" st_still ps_still sp_still) {f : Addr} {cdv : Value} {A : Around} {outer : List Env} {s : Shared} {H : Hp} (hr : RoomG (3) (A.deeper (envOfC "_law_small_right" (defScope st__law_small_right) s.heap.objs.size f cdv))) :
    DSs (cxD P w K mg base N__law_small_right "_law_small_right" (defScope st__law_small_right) f cdv A outer s H) (defBody st__law_small_right) (rd__law_small_right) :=
    (s_cons (s_set (i := 1) sc__law_small_right.nd rfl (by first | exact Or.inl rfl | exact Or.inr rfl) (d_callC C_primes_of (hr.mono (by decide)) rfl bd_primes_of (a_cons (d_var 0) a_nil)))
    (s_cons (s_if (c_w (cw_or (c_neX hr.r.units (d_callB (call_repr hr.g hr.r.units) u_reprC rfl B.repr (by decide +kernel) (a_cons (d_var 1) a_nil)) (d_callB (call_repr hr.g hr.r.units) u_repr rfl B.repr (by decide +kernel) (a_cons (d_callC C__law_primes (hr.mono (by decide)) rfl bd__law_primes (a_cons (d_var 0) a_nil)) a_nil))) (cw_or1 (c_neX hr.r.units (d_callB (call_repr hr.g hr.r.units) u_repr rfl B.repr (by decide +kernel) (a_cons (d_callC C_still (hr.mono (by decide)) rfl bd_still (a_cons (d_var 0) a_nil)) a_nil)) (d_callB (call_repr hr.g hr.r.units) u_repr rfl B.repr (by decide +kernel) (a_cons (d_tup (a_cons (d_var 0) (a_cons (d_tup (a_cons (d_tup (a_cons d_int (a_cons d_int a_nil))) a_nil)) a_nil))) a_nil)))))) (s_one (s_ret d_bl)) s_nil)
    (s_cons (s_expr (d_append (d_var 1) d_int))
    (s_cons (s_if (c_neX hr.r.units (d_callB (call_repr hr.g hr.r.units) u_repr rfl B.repr (by decide +kernel) (a_cons (d_callCKV C_still (hr.mono (by decide)) rfl kb_still_modulus (k_cons (d_var 0) k_nil)) a_nil)) (d_callB (call_repr hr.g hr.r.units) u_repr rfl B.repr (by decide +kernel) (a_cons (d_tup (a_cons (d_var 0) (a_cons (d_tup (a_cons (d_tup (a_cons d_int (a_cons d_int a_nil))) a_nil)) a_nil))) a_nil))) (s_one (s_ret d_bl)) s_nil)
    (s_one (s_ret (d_eqX hr.r.units (d_callB (call_repr hr.g hr.r.units) u_reprC rfl B.repr (by decide +kernel) (a_cons (d_callCKV C_primes_of (hr.mono (by decide)) rfl kb_primes_of_modulus (k_cons (d_var 0) k_nil)) a_nil)) (d_callB (call_repr hr.g hr.r.units) u_repr rfl B.repr (by decide +kernel) (a_cons (d_callC C__law_primes (hr.mono (by decide)) rfl bd__law_primes (a_cons (d_var 0) a_nil)) a_nil)))))))))
theorem sc__law_two_right : FnScope N__law_two_right ps__law_two_right (defScope st__law_two_right) := ⟨rfl, rfl, rfl, by decide +kernel, rfl, by decide +kernel, by decide +kernel⟩
theorem der__law_two_right {P : Program} {w : World} {K : PySem.W.Frag} {mg : Str → Option Value} {base : Heap} (B : Bl mg) (C__law_product : Cal P w K mg base (2) "_law_product" st__law_product ps__law_product sp__law_product) (C_behind : Cal P w K mg base (7) "behind" st_behind ps_behind sp_behind) (C__law_sum : Cal P w K mg base (2) "_law_sum" st__law_sum ps__law_sum sp__law_sum) (C_plus : Cal P w K mg base (7) "plus" st_plus ps_plus sp_plus) {f : Addr} {cdv : Value} {A : Around} {outer : List Env} {s : Shared} {H : Hp} (hr : RoomG (7) (A.deeper (envOfC "_law_two_right" (defScope st__law_two_right) s.heap.objs.size f cdv))) :
    DSs (cxD P w K mg base N__law_two_right "_law_two_right" (defScope st__law_two_right) f cdv A outer s H) (defBody st__law_two_right) (rd__law_two_right) :=
    (s_cons (s_set (i := 2) sc__law_two_right.nd rfl (by first | exact Or.inl rfl | exact Or.inr rfl) (d_item (d_var 0) d_int))
    (s_cons (s_set (i := 3) sc__law_two_right.nd rfl (by first | exact Or.inl rfl | exact Or.inr rfl) (d_callB (call_repr hr.g hr.r.units) u_repr rfl B.repr (by decide +kernel) (a_cons (d_tup (a_cons (d_var 2) (a_cons (d_callC C__law_product (hr.mono (by decide)) rfl bd__law_product (a_cons (d_item (d_var 0) d_int) (a_cons (d_item (d_var 1) d_int) (a_cons (d_var 2) a_nil)))) a_nil))) a_nil)))
    (s_cons (s_if (c_w (cw_or (c_neX hr.r.units (d_callB (call_repr hr.g hr.r.units) u_repr rfl B.repr (by decide +kernel) (a_cons (d_callC C_behind (hr.mono (by decide)) rfl bd_behind (a_cons (d_var 0) (a_cons (d_var 1) a_nil))) a_nil)) (d_var 3)) (cw_or (c_neX hr.r.units (d_callB (call_repr hr.g hr.r.units) u_repr rfl B.repr (by decide +kernel) (a_cons (d_callC C_behind (hr.mono (by decide)) rfl bd_behind (a_cons (d_var 1) (a_cons (d_var 0) a_nil))) a_nil)) (d_var 3)) (cw_or1 (c_neX hr.r.units (d_callB (call_repr hr.g hr.r.units) u_repr rfl B.repr (by decide +kernel) (a_cons (d_callCKV C_behind (hr.mono (by decide)) rfl kb_behind_other_one (k_cons (d_var 1) (k_cons (d_var 0) k_nil))) a_nil)) (d_var 3)))))) (s_one (s_ret d_bl)) s_nil)
    (s_cons (s_set (i := 3) sc__law_two_right.nd rfl (by first | exact Or.inl rfl | exact Or.inr rfl) (d_callB (call_repr hr.g hr.r.units) u_repr rfl B.repr (by decide +kernel) (a_cons (d_tup (a_cons (d_var 2) (a_cons (d_callC C__law_sum (hr.mono (by decide)) rfl bd__law_sum (a_cons (d_item (d_var 0) d_int) (a_cons (d_item (d_var 1) d_int) (a_cons (d_var 2) a_nil)))) a_nil))) a_nil)))
    (s_one (s_ret (d_and (d_eqX hr.r.units (d_callB (call_repr hr.g hr.r.units) u_repr rfl B.repr (by decide +kernel) (a_cons (d_callC C_plus (hr.mono (by decide)) rfl bd_plus (a_cons (d_var 0) (a_cons (d_var 1) a_nil))) a_nil)) (d_var 3)) (d_one (d_eqX hr.r.units (d_callB (call_repr hr.g hr.r.units) u_repr rfl B.repr (by decide +kernel) (a_cons (d_callCKV C_plus (hr.mono (by decide)) rfl kb_plus_other_one (k_cons (d_var 0) (k_cons (d_var 1) k_nil))) a_nil)) (d_var 3))))))))))
theorem sc__law_wide_right : FnScope N__law_wide_right ps__law_wide_right (defScope st__law_wide_right) := ⟨rfl, rfl, rfl, by decide +kernel, rfl, by decide +kernel, by decide +kernel⟩
theorem der__law_wide_right {P : Program} {w : World} {K : PySem.W.Frag} {mg : Str → Option Value} {base : Heap} (B : Bl mg) (C__law_pick : Cal P w K mg base (1) "_law_pick" st__law_pick ps__law_pick sp__law_pick) (C_power : Cal P w K mg base (8) "power" st_power ps_power sp_power) (C__law_power : Cal P w K mg base (3) "_law_power" st__law_power ps__law_power sp__law_power) (C_behind : Cal P w K mg base (7) "behind" st_behind ps_behind sp_behind) (C__law_product : Cal P w K mg base (2) "_law_product" st__law_product ps__law_product sp__law_product) (C__law_two_right : Cal P w K mg base (8) "_law_two_right" st__law_two_right ps__law_two_right sp__law_two_right) {f : Addr} {cdv : Value} {A : Around} {outer : List Env} {s : Shared} {H : Hp} (hr : RoomG (8) (A.deeper (envOfC "_law_wide_right" (defScope st__law_wide_right) s.heap.objs.size f cdv))) :
    DSs (cxD P w K mg base N__law_wide_right "_law_wide_right" (defScope st__law_wide_right) f cdv A outer s H) (defBody st__law_wide_right) (rd__law_wide_right) :=
    (s_cons (s_par (i := 3) (j := 4) rfl sc__law_wide_right.nd rfl rfl (by decide) rfl rfl (a_cons (d_item (d_var 1) d_int) (a_cons (d_plus d_int (d_callC C__law_pick (hr.mono (by decide)) rfl bd__law_pick (a_cons (d_var 0) (a_cons d_int a_nil)))) a_nil)) (by rfl))
    (s_cons (s_set (i := 5) sc__law_wide_right.nd rfl (by first | exact Or.inl rfl | exact Or.inr rfl) (d_callC C_power (hr.mono (by decide)) rfl bd_power (a_cons (d_var 1) (a_cons (d_var 4) a_nil))))
    (s_cons (s_if (c_neX hr.r.units (d_callB (call_repr hr.g hr.r.units) u_repr rfl B.repr (by decide +kernel) (a_cons (d_var 5) a_nil)) (d_callB (call_repr hr.g hr.r.units) u_repr rfl B.repr (by decide +kernel) (a_cons (d_tup (a_cons (d_var 3) (a_cons (d_callC C__law_power (hr.mono (by decide)) rfl bd__law_power (a_cons (d_item (d_var 1) d_int) (a_cons (d_var 4) (a_cons (d_var 3) a_nil)))) a_nil))) a_nil))) (s_one (s_ret d_bl)) s_nil)
    (s_cons (s_set (i := 6) sc__law_wide_right.nd rfl (by first | exact Or.inl rfl | exact Or.inr rfl) (d_callC C_behind (hr.mono (by decide)) rfl bd_behind (a_cons (d_var 5) (a_cons (d_callC C_power (hr.mono (by decide)) rfl bd_power (a_cons (d_var 2) (a_cons (d_var 4) a_nil))) a_nil))))
    (s_cons (s_if (c_neX hr.r.units (d_callB (call_repr hr.g hr.r.units) u_repr rfl B.repr (by decide +kernel) (a_cons (d_var 6) a_nil)) (d_callB (call_repr hr.g hr.r.units) u_repr rfl B.repr (by decide +kernel) (a_cons (d_tup (a_cons (d_var 3) (a_cons (d_callC C__law_product (hr.mono (by decide)) rfl bd__law_product (a_cons (d_item (d_var 5) d_int) (a_cons (d_callC C__law_power (hr.mono (by decide)) rfl bd__law_power (a_cons (d_item (d_var 2) d_int) (a_cons (d_var 4) (a_cons (d_var 3) a_nil)))) (a_cons (d_var 3) a_nil)))) a_nil))) a_nil))) (s_one (s_ret d_bl)) s_nil)
    (s_cons (s_if (c_w (cw_or (c_not (c_val (d_callC C__law_two_right (hr.mono (by decide)) rfl bd__law_two_right (a_cons (d_var 6) (a_cons (d_var 2) a_nil))))) (cw_or1 (c_not (c_val (d_callC C__law_two_right (hr.mono (by decide)) rfl bd__law_two_right (a_cons (d_var 5) (a_cons (d_var 6) a_nil)))))))) (s_one (s_ret d_bl)) s_nil)
    (s_cons (s_if (c_neX hr.r.units (d_callB (call_repr hr.g hr.r.units) u_repr rfl B.repr (by decide +kernel) (a_cons (d_callC C_power (hr.mono (by decide)) rfl bd_power (a_cons (d_var 6) (a_cons d_int a_nil))) a_nil)) (d_callB (call_repr hr.g hr.r.units) u_repr rfl B.repr (by decide +kernel) (a_cons (d_tup (a_cons (d_var 3) (a_cons (d_callC C__law_product (hr.mono (by decide)) rfl bd__law_product (a_cons (d_item (d_var 6) d_int) (a_cons (d_item (d_var 6) d_int) (a_cons (d_var 3) a_nil)))) a_nil))) a_nil))) (s_one (s_ret d_bl)) s_nil)
    (s_cons (s_set (i := 7) sc__law_wide_right.nd rfl (by first | exact Or.inl rfl | exact Or.inr rfl) (d_plus d_int (d_callC C__law_pick (hr.mono (by decide)) rfl bd__law_pick (a_cons (d_var 0) (a_cons d_int a_nil)))))
    (s_cons (s_set (i := 8) sc__law_wide_right.nd rfl (by first | exact Or.inl rfl | exact Or.inr rfl) (d_callC C__law_pick (hr.mono (by decide)) rfl bd__law_pick (a_cons (d_var 0) (a_cons (d_plus d_int (d_fdiv (d_item (d_lst (a_cons d_int (a_cons d_int (a_cons d_int a_nil)))) (d_callC C__law_pick (hr.mono (by decide)) rfl bd__law_pick (a_cons (d_var 0) (a_cons d_int a_nil)))) (d_var 7))) a_nil))))
    (s_cons (s_set (i := 9) sc__law_wide_right.nd rfl (by first | exact Or.inl rfl | exact Or.inr rfl) (d_tup (a_cons (d_var 3) (a_cons (d_callC C__law_power (hr.mono (by decide)) rfl bd__law_power (a_cons (d_item (d_var 1) d_int) (a_cons (d_mul (d_var 7) (d_var 8)) (a_cons (d_var 3) a_nil)))) a_nil))))
    (s_one (s_ret (d_eqX hr.r.units (d_callB (call_repr hr.g hr.r.units) u_repr rfl B.repr (by decide +kernel) (a_cons (d_callCKV C_power (hr.mono (by decide)) rfl kb_power_times_rule (k_cons (d_var 8) (k_cons (d_callC C_power (hr.mono (by decide)) rfl bd_power (a_cons (d_var 1) (a_cons (d_var 7) a_nil))) k_nil))) a_nil)) (d_callB (call_repr hr.g hr.r.units) u_repr rfl B.repr (by decide +kernel) (a_cons (d_var 9) a_nil)))))))))))))))
theorem sc_law : FnScope N_law ps_law (defScope st_law) := ⟨rfl, rfl, rfl, by decide +kernel, rfl, by decide +kernel, by decide +kernel⟩
theorem der_law {P : Program} {w : World} {K : PySem.W.Frag} {mg : Str → Option Value} {base : Heap} (B : Bl mg) (C__law_source : Cal P w K mg base (1) "_law_source" st__law_source ps__law_source sp__law_source) (C__law_modulus : Cal P w K mg base (2) "_law_modulus" st__law_modulus ps__law_modulus sp__law_modulus) (C__law_pick : Cal P w K mg base (1) "_law_pick" st__law_pick ps__law_pick sp__law_pick) (C__law_terms : Cal P w K mg base (3) "_law_terms" st__law_terms ps__law_terms sp__law_terms) (C__law_small_right : Cal P w K mg base (4) "_law_small_right" st__law_small_right ps__law_small_right sp__law_small_right) (C__law_two_right : Cal P w K mg base (8) "_law_two_right" st__law_two_right ps__law_two_right sp__law_two_right) (C__law_power : Cal P w K mg base (3) "_law_power" st__law_power ps__law_power sp__law_power) (C_power : Cal P w K mg base (8) "power" st_power ps_power sp_power) (C__law_wide_right : Cal P w K mg base (9) "_law_wide_right" st__law_wide_right ps__law_wide_right sp__law_wide_right) {f : Addr} {cdv : Value} {A : Around} {outer : List Env} {s : Shared} {H : Hp} (hr : RoomG (9) (A.deeper (envOfC "law" (defScope st_law) s.heap.objs.size f cdv))) :
    DSs (cxD P w K mg base N_law "law" (defScope st_law) f cdv A outer s H) (defBody st_law) (rd_law) :=
    (s_cons (s_for PassesOwn.never rfl (i_range1 rfl B.range (a_cons (d_callB (call_max2 rfl) u_max2 rfl B.max (by decide +kernel) (a_cons d_int (a_cons (d_callB (call_min2 rfl) u_min2 rfl B.min (by decide +kernel) (a_cons d_int (a_cons (d_callB call_len_seq u_len rfl B.len (by decide +kernel) (a_cons (d_var 0) a_nil)) a_nil))) a_nil))) a_nil)) (g_name (i := 1) sc_law.nd rfl (by first | exact Or.inl rfl | exact Or.inr rfl)) (show DSs _ _ (lb_law_1) from (s_cons (s_set (i := 2) sc_law.nd rfl (by first | exact Or.inl rfl | exact Or.inr rfl) (d_callC C__law_source (hr.mono (by decide)) rfl bd__law_source (a_cons (d_var 0) (a_cons (d_var 1) a_nil))))
    (s_cons (s_par (i := 3) (j := 4) rfl sc_law.nd rfl rfl (by decide) rfl rfl (a_cons (d_callC C__law_modulus (hr.mono (by decide)) rfl bd__law_modulus (a_cons (d_var 2) a_nil)) (a_cons (d_callC C__law_pick (hr.mono (by decide)) rfl bd__law_pick (a_cons (d_var 2) (a_cons d_int a_nil))) a_nil)) (by rfl))
    (s_cons (s_par (i := 5) (j := 6) rfl sc_law.nd rfl rfl (by decide) rfl rfl (a_cons (d_tup (a_cons (d_var 3) (a_cons (d_callC C__law_terms (hr.mono (by decide)) rfl bd__law_terms (a_cons (d_var 2) (a_cons (d_var 3) a_nil))) a_nil))) (a_cons (d_tup (a_cons (d_var 3) (a_cons (d_callC C__law_terms (hr.mono (by decide)) rfl bd__law_terms (a_cons (d_var 2) (a_cons (d_var 3) a_nil))) a_nil))) a_nil)) (by rfl))
    (s_cons (s_set (i := 7) sc_law.nd rfl (by first | exact Or.inl rfl | exact Or.inr rfl) (d_callC C__law_pick (hr.mono (by decide)) rfl bd__law_pick (a_cons (d_var 2) (a_cons d_int a_nil))))
    (s_cons (s_if (c_w (cw_and (c_eqX hr.r.units (d_var 4) d_int) (cw_and1 (c_eqX hr.r.units (d_var 1) d_int)))) (s_one (s_set (i := 7) sc_law.nd rfl (by first | exact Or.inl rfl | exact Or.inr rfl) (d_item (d_lst (a_cons d_int (a_cons (d_callC C__law_pick (hr.mono (by decide)) rfl bd__law_pick (a_cons (d_var 2) (a_cons d_int a_nil))) a_nil))) (d_callC C__law_pick (hr.mono (by decide)) rfl bd__law_pick (a_cons (d_var 2) (a_cons d_int a_nil)))))) s_nil)
    (s_cons (s_if (c_w (cw_or (c_not (c_val (d_callC C__law_small_right (hr.mono (by decide)) rfl bd__law_small_right (a_cons (d_var 3) a_nil)))) (cw_or (c_not (c_val (d_callC C__law_two_right (hr.mono (by decide)) rfl bd__law_two_right (a_cons (d_var 5) (a_cons (d_var 6) a_nil))))) (cw_or1 (c_not (c_val (d_callC C__law_two_right (hr.mono (by decide)) rfl bd__law_two_right (a_cons (d_var 5) (a_cons (d_var 5) a_nil))))))))) (s_one (s_ret d_bl)) s_nil)
    (s_cons (s_set (i := 8) sc_law.nd rfl (by first | exact Or.inl rfl | exact Or.inr rfl) (d_callB (call_repr hr.g hr.r.units) u_repr rfl B.repr (by decide +kernel) (a_cons (d_tup (a_cons (d_var 3) (a_cons (d_callC C__law_power (hr.mono (by decide)) rfl bd__law_power (a_cons (d_item (d_var 5) d_int) (a_cons (d_var 7) (a_cons (d_var 3) a_nil)))) a_nil))) a_nil)))
    (s_cons (s_if (c_w (cw_or (c_neX hr.r.units (d_callB (call_repr hr.g hr.r.units) u_repr rfl B.repr (by decide +kernel) (a_cons (d_callC C_power (hr.mono (by decide)) rfl bd_power (a_cons (d_var 5) (a_cons (d_var 7) a_nil))) a_nil)) (d_var 8)) (cw_or1 (c_neX hr.r.units (d_callB (call_repr hr.g hr.r.units) u_repr rfl B.repr (by decide +kernel) (a_cons (d_callCKV C_power (hr.mono (by decide)) rfl kb_power_times_rule (k_cons (d_var 7) (k_cons (d_var 5) k_nil))) a_nil)) (d_var 8))))) (s_one (s_ret d_bl)) s_nil)
    (s_one (s_if (c_w (cw_and (c_eqX hr.r.units (d_var 1) d_int) (cw_and1 (c_not (c_val (d_callC C__law_wide_right (hr.mono (by decide)) rfl bd__law_wide_right (a_cons (d_var 2) (a_cons (d_var 5) (a_cons (d_var 6) a_nil))))))))) (s_one (s_ret d_bl)) s_nil))))))))))))
    (s_one (s_ret d_bl)))
end K01

namespace K01
open PySem PySem.Spec PyProof.Rows L2 DL
/-- the program's top: its defs, its numbers, no built-in name of its own -/
structure Facts (K : PySem.W.Frag) (mg : Str → Option Value) : Prop where
  B : Bl mg
  H_PRIMES : KName K mg "PRIMES" [2, 3, 5, 6, 7, 10, 11, 13, 14, 15]
  HT_PRIMES : KTup K mg "PRIMES" primesT
  H_MOST_POWER : KNum mg "MOST_POWER" 40
  D_is_number : DefM K mg "is_number" st_is_number
  D_is_within : DefM K mg "is_within" st_is_within
  D_is_two : DefM K mg "is_two" st_is_two
  D_ascends : DefM K mg "ascends" st_ascends
  D_is_pairs : DefM K mg "is_pairs" st_is_pairs
  D_is_modulus : DefM K mg "is_modulus" st_is_modulus
  D_has_modulus : DefM K mg "has_modulus" st_has_modulus
  D_is_rule : DefM K mg "is_rule" st_is_rule
  D_need_rule : DefM K mg "need_rule" st_need_rule
  D_need_same : DefM K mg "need_same" st_need_same
  D_need_rules : DefM K mg "need_rules" st_need_rules
  D_primes_of : DefM K mg "primes_of" st_primes_of
  D_still : DefM K mg "still" st_still
  D_left_of : DefM K mg "left_of" st_left_of
  D_sums_of : DefM K mg "sums_of" st_sums_of
  D_products_of : DefM K mg "products_of" st_products_of
  D_plus : DefM K mg "plus" st_plus
  D_behind : DefM K mg "behind" st_behind
  D_power : DefM K mg "power" st_power
  D__law_source : DefM K mg "_law_source" st__law_source
  D__law_pick : DefM K mg "_law_pick" st__law_pick
  D__law_primes : DefM K mg "_law_primes" st__law_primes
  D__law_modulus : DefM K mg "_law_modulus" st__law_modulus
  D__law_factor : DefM K mg "_law_factor" st__law_factor
  D__law_terms : DefM K mg "_law_terms" st__law_terms
  D__law_tidy : DefM K mg "_law_tidy" st__law_tidy
  D__law_product : DefM K mg "_law_product" st__law_product
  D__law_power : DefM K mg "_law_power" st__law_power
  D__law_sum : DefM K mg "_law_sum" st__law_sum
  D__law_small_right : DefM K mg "_law_small_right" st__law_small_right
  D__law_two_right : DefM K mg "_law_two_right" st__law_two_right
  D__law_wide_right : DefM K mg "_law_wide_right" st__law_wide_right
  D_law : DefM K mg "law" st_law
theorem len_is_number : ∀ ds μ Q, sp_is_number ds μ Q → ds.length = ps_is_number.length := by
  rintro ds μ Q ⟨_, rfl, _⟩; rfl
theorem len_is_within : ∀ ds μ Q, sp_is_within ds μ Q → ds.length = ps_is_within.length := by
  rintro ds μ Q ⟨_, _, _, rfl, _⟩; rfl
theorem len_is_two : ∀ ds μ Q, sp_is_two ds μ Q → ds.length = ps_is_two.length := by
  rintro ds μ Q ⟨_, rfl, _⟩; rfl
theorem len_ascends : ∀ ds μ Q, sp_ascends ds μ Q → ds.length = ps_ascends.length := by
  rintro ds μ Q ⟨_, rfl, _⟩; rfl
theorem len_is_pairs : ∀ ds μ Q, sp_is_pairs ds μ Q → ds.length = ps_is_pairs.length := by
  rintro ds μ Q ⟨_, _, rfl, _⟩; rfl
theorem len_is_modulus : ∀ ds μ Q, sp_is_modulus ds μ Q → ds.length = ps_is_modulus.length := by
  rintro ds μ Q ⟨_, rfl, _⟩; rfl
theorem len_has_modulus : ∀ ds μ Q, sp_has_modulus ds μ Q → ds.length = ps_has_modulus.length := by
  rintro ds μ Q ⟨_, rfl, _⟩; rfl
theorem len_is_rule : ∀ ds μ Q, sp_is_rule ds μ Q → ds.length = ps_is_rule.length := by
  rintro ds μ Q ⟨_, rfl, _⟩; rfl
theorem len_need_rule : ∀ ds μ Q, sp_need_rule ds μ Q → ds.length = ps_need_rule.length := by
  rintro ds μ Q ⟨_, _, rfl, _⟩; rfl
theorem len_need_same : ∀ ds μ Q, sp_need_same ds μ Q → ds.length = ps_need_same.length := by
  rintro ds μ Q ⟨_, _, _, rfl, _⟩; rfl
theorem len_need_rules : ∀ ds μ Q, sp_need_rules ds μ Q → ds.length = ps_need_rules.length := by
  rintro ds μ Q ⟨_, _, _, rfl, _⟩; rfl
theorem len_primes_of : ∀ ds μ Q, sp_primes_of ds μ Q → ds.length = ps_primes_of.length := by
  rintro ds μ Q ⟨_, rfl, _⟩; rfl
theorem len_still : ∀ ds μ Q, sp_still ds μ Q → ds.length = ps_still.length := by
  rintro ds μ Q ⟨_, rfl, _⟩; rfl
theorem len_left_of : ∀ ds μ Q, sp_left_of ds μ Q → ds.length = ps_left_of.length := by
  rintro ds μ Q ⟨_, _, _, _, _, rfl, _⟩; rfl
theorem len_sums_of : ∀ ds μ Q, sp_sums_of ds μ Q → ds.length = ps_sums_of.length := by
  rintro ds μ Q ⟨_, _, rfl, _⟩; rfl
theorem len_products_of : ∀ ds μ Q, sp_products_of ds μ Q → ds.length = ps_products_of.length := by
  rintro ds μ Q ⟨_, _, rfl, _⟩; rfl
theorem len_plus : ∀ ds μ Q, sp_plus ds μ Q → ds.length = ps_plus.length := by
  rintro ds μ Q ⟨_, _, _, rfl, _⟩; rfl
theorem len_behind : ∀ ds μ Q, sp_behind ds μ Q → ds.length = ps_behind.length := by
  rintro ds μ Q ⟨_, _, _, rfl, _⟩; rfl
theorem len_power : ∀ ds μ Q, sp_power ds μ Q → ds.length = ps_power.length := by
  rintro ds μ Q ⟨_, _, _, _, rfl, _⟩; rfl
theorem len__law_source : ∀ ds μ Q, sp__law_source ds μ Q → ds.length = ps__law_source.length := by
  rintro ds μ Q ⟨_, _, rfl, _⟩; rfl
theorem len__law_pick : ∀ ds μ Q, sp__law_pick ds μ Q → ds.length = ps__law_pick.length := by
  rintro ds μ Q ⟨_, _, _, rfl, _⟩; rfl
theorem len__law_primes : ∀ ds μ Q, sp__law_primes ds μ Q → ds.length = ps__law_primes.length := by
  rintro ds μ Q ⟨_, rfl, _⟩; rfl
theorem len__law_modulus : ∀ ds μ Q, sp__law_modulus ds μ Q → ds.length = ps__law_modulus.length := by
  rintro ds μ Q ⟨_, _, rfl, _⟩; rfl
theorem len__law_factor : ∀ ds μ Q, sp__law_factor ds μ Q → ds.length = ps__law_factor.length := by
  rintro ds μ Q ⟨_, _, _, _, rfl, _⟩; rfl
theorem len__law_terms : ∀ ds μ Q, sp__law_terms ds μ Q → ds.length = ps__law_terms.length := by
  rintro ds μ Q ⟨_, _, _, rfl, _⟩; rfl
theorem len__law_tidy : ∀ ds μ Q, sp__law_tidy ds μ Q → ds.length = ps__law_tidy.length := by
  rintro ds μ Q ⟨_, _, _, _, _, rfl, _⟩; rfl
theorem len__law_product : ∀ ds μ Q, sp__law_product ds μ Q → ds.length = ps__law_product.length := by
  rintro ds μ Q ⟨_, _, _, rfl, _⟩; rfl
theorem len__law_power : ∀ ds μ Q, sp__law_power ds μ Q → ds.length = ps__law_power.length := by
  rintro ds μ Q ⟨_, _, _, _, rfl, _⟩; rfl
theorem len__law_sum : ∀ ds μ Q, sp__law_sum ds μ Q → ds.length = ps__law_sum.length := by
  rintro ds μ Q ⟨_, _, _, rfl, _⟩; rfl
theorem len__law_small_right : ∀ ds μ Q, sp__law_small_right ds μ Q → ds.length = ps__law_small_right.length := by
  rintro ds μ Q ⟨_, rfl, _⟩; rfl
theorem len__law_two_right : ∀ ds μ Q, sp__law_two_right ds μ Q → ds.length = ps__law_two_right.length := by
  rintro ds μ Q ⟨_, _, _, rfl, _⟩; rfl
theorem len__law_wide_right : ∀ ds μ Q, sp__law_wide_right ds μ Q → ds.length = ps__law_wide_right.length := by
  rintro ds μ Q ⟨_, _, _, _, _, rfl, _⟩; rfl
theorem len_law : ∀ ds μ Q, sp_law ds μ Q → ds.length = ps_law.length := by
  rintro ds μ Q ⟨_, rfl, _⟩; rfl
theorem cal_is_number {P : Program} {w : World} {K : PySem.W.Frag} {mg : Str → Option Value} {base : Heap} (F : Facts K mg) : Cal P w K mg base 1 "is_number" st_is_number ps_is_number sp_is_number := Cal.of F.D_is_number sc_is_number len_is_number (fun f cdv A outer s H hr => der_is_number F.B hr) r_is_number
theorem cal_is_within {P : Program} {w : World} {K : PySem.W.Frag} {mg : Str → Option Value} {base : Heap} (F : Facts K mg) : Cal P w K mg base 2 "is_within" st_is_within ps_is_within sp_is_within := Cal.of F.D_is_within sc_is_within len_is_within (fun f cdv A outer s H hr => der_is_within F.B (cal_is_number F) hr) r_is_within
theorem cal_is_two {P : Program} {w : World} {K : PySem.W.Frag} {mg : Str → Option Value} {base : Heap} (F : Facts K mg) : Cal P w K mg base 1 "is_two" st_is_two ps_is_two sp_is_two := Cal.of F.D_is_two sc_is_two len_is_two (fun f cdv A outer s H hr => der_is_two F.B hr) r_is_two
theorem cal_ascends {P : Program} {w : World} {K : PySem.W.Frag} {mg : Str → Option Value} {base : Heap} (F : Facts K mg) : Cal P w K mg base 1 "ascends" st_ascends ps_ascends sp_ascends := Cal.of F.D_ascends sc_ascends len_ascends (fun f cdv A outer s H hr => der_ascends F.B hr) r_ascends
theorem cal_is_pairs {P : Program} {w : World} {K : PySem.W.Frag} {mg : Str → Option Value} {base : Heap} (F : Facts K mg) : Cal P w K mg base 3 "is_pairs" st_is_pairs ps_is_pairs sp_is_pairs := Cal.of F.D_is_pairs sc_is_pairs len_is_pairs (fun f cdv A outer s H hr => der_is_pairs F.B (cal_is_two F) (cal_is_number F) (cal_is_within F) (cal_ascends F) hr) r_is_pairs
theorem cal_is_modulus {P : Program} {w : World} {K : PySem.W.Frag} {mg : Str → Option Value} {base : Heap} (F : Facts K mg) : Cal P w K mg base 2 "is_modulus" st_is_modulus ps_is_modulus sp_is_modulus := Cal.of F.D_is_modulus sc_is_modulus len_is_modulus (fun f cdv A outer s H hr => der_is_modulus F.B F.H_PRIMES (cal_is_number F) hr) r_is_modulus
theorem cal_has_modulus {P : Program} {w : World} {K : PySem.W.Frag} {mg : Str → Option Value} {base : Heap} (F : Facts K mg) : Cal P w K mg base 3 "has_modulus" st_has_modulus ps_has_modulus sp_has_modulus := Cal.of F.D_has_modulus sc_has_modulus len_has_modulus (fun f cdv A outer s H hr => der_has_modulus F.B (cal_is_two F) (cal_is_modulus F) hr) r_has_modulus
theorem cal_is_rule {P : Program} {w : World} {K : PySem.W.Frag} {mg : Str → Option Value} {base : Heap} (F : Facts K mg) : Cal P w K mg base 4 "is_rule" st_is_rule ps_is_rule sp_is_rule := Cal.of F.D_is_rule sc_is_rule len_is_rule (fun f cdv A outer s H hr => der_is_rule F.B (cal_has_modulus F) (cal_is_pairs F) hr) r_is_rule
theorem cal_need_rule {P : Program} {w : World} {K : PySem.W.Frag} {mg : Str → Option Value} {base : Heap} (F : Facts K mg) : Cal P w K mg base 5 "need_rule" st_need_rule ps_need_rule sp_need_rule := Cal.of F.D_need_rule sc_need_rule len_need_rule (fun f cdv A outer s H hr => der_need_rule F.B (cal_is_rule F) hr) r_need_rule
theorem cal_need_same {P : Program} {w : World} {K : PySem.W.Frag} {mg : Str → Option Value} {base : Heap} (F : Facts K mg) : Cal P w K mg base 1 "need_same" st_need_same ps_need_same sp_need_same := Cal.of F.D_need_same sc_need_same len_need_same (fun f cdv A outer s H hr => der_need_same F.B hr) r_need_same
theorem cal_need_rules {P : Program} {w : World} {K : PySem.W.Frag} {mg : Str → Option Value} {base : Heap} (F : Facts K mg) : Cal P w K mg base 6 "need_rules" st_need_rules ps_need_rules sp_need_rules := Cal.of F.D_need_rules sc_need_rules len_need_rules (fun f cdv A outer s H hr => der_need_rules F.B (cal_need_rule F) (cal_need_same F) hr) r_need_rules
theorem cal_primes_of {P : Program} {w : World} {K : PySem.W.Frag} {mg : Str → Option Value} {base : Heap} (F : Facts K mg) : Cal P w K mg base 3 "primes_of" st_primes_of ps_primes_of sp_primes_of := Cal.of F.D_primes_of sc_primes_of len_primes_of (fun f cdv A outer s H hr => der_primes_of F.B F.HT_PRIMES (cal_is_modulus F) hr) r_primes_of
theorem cal_still {P : Program} {w : World} {K : PySem.W.Frag} {mg : Str → Option Value} {base : Heap} (F : Facts K mg) : Cal P w K mg base 3 "still" st_still ps_still sp_still := Cal.of F.D_still sc_still len_still (fun f cdv A outer s H hr => der_still F.B (cal_is_modulus F) hr) r_still
theorem cal_left_of {P : Program} {w : World} {K : PySem.W.Frag} {mg : Str → Option Value} {base : Heap} (F : Facts K mg) : Cal P w K mg base 1 "left_of" st_left_of ps_left_of sp_left_of := Cal.of F.D_left_of sc_left_of len_left_of (fun f cdv A outer s H hr => der_left_of F.B hr) r_left_of
theorem cal_sums_of {P : Program} {w : World} {K : PySem.W.Frag} {mg : Str → Option Value} {base : Heap} (F : Facts K mg) : Cal P w K mg base 1 "sums_of" st_sums_of ps_sums_of sp_sums_of := Cal.of F.D_sums_of sc_sums_of len_sums_of (fun f cdv A outer s H hr => der_sums_of F.B hr) r_sums_of
theorem cal_products_of {P : Program} {w : World} {K : PySem.W.Frag} {mg : Str → Option Value} {base : Heap} (F : Facts K mg) : Cal P w K mg base 1 "products_of" st_products_of ps_products_of sp_products_of := Cal.of F.D_products_of sc_products_of len_products_of (fun f cdv A outer s H hr => der_products_of F.B hr) r_products_of
theorem cal_plus {P : Program} {w : World} {K : PySem.W.Frag} {mg : Str → Option Value} {base : Heap} (F : Facts K mg) : Cal P w K mg base 7 "plus" st_plus ps_plus sp_plus := Cal.of F.D_plus sc_plus len_plus (fun f cdv A outer s H hr => der_plus F.B (cal_need_rules F) (cal_left_of F) (cal_sums_of F) hr) r_plus
theorem cal_behind {P : Program} {w : World} {K : PySem.W.Frag} {mg : Str → Option Value} {base : Heap} (F : Facts K mg) : Cal P w K mg base 7 "behind" st_behind ps_behind sp_behind := Cal.of F.D_behind sc_behind len_behind (fun f cdv A outer s H hr => der_behind F.B (cal_need_rules F) (cal_left_of F) (cal_products_of F) hr) r_behind
theorem cal_power {P : Program} {w : World} {K : PySem.W.Frag} {mg : Str → Option Value} {base : Heap} (F : Facts K mg) : Cal P w K mg base 8 "power" st_power ps_power sp_power := Cal.of F.D_power sc_power len_power (fun f cdv A outer s H hr => der_power F.B F.H_MOST_POWER (cal_need_rule F) (cal_still F) (cal_behind F) hr) r_power
theorem cal__law_source {P : Program} {w : World} {K : PySem.W.Frag} {mg : Str → Option Value} {base : Heap} (F : Facts K mg) : Cal P w K mg base 1 "_law_source" st__law_source ps__law_source sp__law_source := Cal.of F.D__law_source sc__law_source len__law_source (fun f cdv A outer s H hr => der__law_source F.B hr) r__law_source
theorem cal__law_pick {P : Program} {w : World} {K : PySem.W.Frag} {mg : Str → Option Value} {base : Heap} (F : Facts K mg) : Cal P w K mg base 1 "_law_pick" st__law_pick ps__law_pick sp__law_pick := Cal.of F.D__law_pick sc__law_pick len__law_pick (fun f cdv A outer s H hr => der__law_pick F.B hr) r__law_pick
theorem cal__law_primes {P : Program} {w : World} {K : PySem.W.Frag} {mg : Str → Option Value} {base : Heap} (F : Facts K mg) : Cal P w K mg base 1 "_law_primes" st__law_primes ps__law_primes sp__law_primes := Cal.of F.D__law_primes sc__law_primes len__law_primes (fun f cdv A outer s H hr => der__law_primes F.B hr) r__law_primes
theorem cal__law_modulus {P : Program} {w : World} {K : PySem.W.Frag} {mg : Str → Option Value} {base : Heap} (F : Facts K mg) : Cal P w K mg base 2 "_law_modulus" st__law_modulus ps__law_modulus sp__law_modulus := Cal.of F.D__law_modulus sc__law_modulus len__law_modulus (fun f cdv A outer s H hr => der__law_modulus F.B (cal__law_pick F) hr) r__law_modulus
theorem cal__law_factor {P : Program} {w : World} {K : PySem.W.Frag} {mg : Str → Option Value} {base : Heap} (F : Facts K mg) : Cal P w K mg base 2 "_law_factor" st__law_factor ps__law_factor sp__law_factor := Cal.of F.D__law_factor sc__law_factor len__law_factor (fun f cdv A outer s H hr => der__law_factor F.B (cal__law_pick F) hr) r__law_factor
theorem cal__law_terms {P : Program} {w : World} {K : PySem.W.Frag} {mg : Str → Option Value} {base : Heap} (F : Facts K mg) : Cal P w K mg base 3 "_law_terms" st__law_terms ps__law_terms sp__law_terms := Cal.of F.D__law_terms sc__law_terms len__law_terms (fun f cdv A outer s H hr => der__law_terms F.B (cal__law_pick F) (cal__law_primes F) (cal__law_factor F) hr) r__law_terms
theorem cal__law_tidy {P : Program} {w : World} {K : PySem.W.Frag} {mg : Str → Option Value} {base : Heap} (F : Facts K mg) : Cal P w K mg base 1 "_law_tidy" st__law_tidy ps__law_tidy sp__law_tidy := Cal.of F.D__law_tidy sc__law_tidy len__law_tidy (fun f cdv A outer s H hr => der__law_tidy F.B hr) r__law_tidy
theorem cal__law_product {P : Program} {w : World} {K : PySem.W.Frag} {mg : Str → Option Value} {base : Heap} (F : Facts K mg) : Cal P w K mg base 2 "_law_product" st__law_product ps__law_product sp__law_product := Cal.of F.D__law_product sc__law_product len__law_product (fun f cdv A outer s H hr => der__law_product F.B (cal__law_tidy F) hr) r__law_product
theorem cal__law_power {P : Program} {w : World} {K : PySem.W.Frag} {mg : Str → Option Value} {base : Heap} (F : Facts K mg) : Cal P w K mg base 3 "_law_power" st__law_power ps__law_power sp__law_power := Cal.of F.D__law_power sc__law_power len__law_power (fun f cdv A outer s H hr => der__law_power F.B (cal__law_product F) hr) r__law_power
theorem cal__law_sum {P : Program} {w : World} {K : PySem.W.Frag} {mg : Str → Option Value} {base : Heap} (F : Facts K mg) : Cal P w K mg base 2 "_law_sum" st__law_sum ps__law_sum sp__law_sum := Cal.of F.D__law_sum sc__law_sum len__law_sum (fun f cdv A outer s H hr => der__law_sum F.B (cal__law_tidy F) hr) r__law_sum
theorem cal__law_small_right {P : Program} {w : World} {K : PySem.W.Frag} {mg : Str → Option Value} {base : Heap} (F : Facts K mg) : Cal P w K mg base 4 "_law_small_right" st__law_small_right ps__law_small_right sp__law_small_right := Cal.of F.D__law_small_right sc__law_small_right len__law_small_right (fun f cdv A outer s H hr => der__law_small_right F.B (cal_primes_of F) (cal__law_primes F) (cal_still F) hr) r__law_small_right
theorem cal__law_two_right {P : Program} {w : World} {K : PySem.W.Frag} {mg : Str → Option Value} {base : Heap} (F : Facts K mg) : Cal P w K mg base 8 "_law_two_right" st__law_two_right ps__law_two_right sp__law_two_right := Cal.of F.D__law_two_right sc__law_two_right len__law_two_right (fun f cdv A outer s H hr => der__law_two_right F.B (cal__law_product F) (cal_behind F) (cal__law_sum F) (cal_plus F) hr) r__law_two_right
theorem cal__law_wide_right {P : Program} {w : World} {K : PySem.W.Frag} {mg : Str → Option Value} {base : Heap} (F : Facts K mg) : Cal P w K mg base 9 "_law_wide_right" st__law_wide_right ps__law_wide_right sp__law_wide_right := Cal.of F.D__law_wide_right sc__law_wide_right len__law_wide_right (fun f cdv A outer s H hr => der__law_wide_right F.B (cal__law_pick F) (cal_power F) (cal__law_power F) (cal_behind F) (cal__law_product F) (cal__law_two_right F) hr) r__law_wide_right
theorem ends {P : Program} {w : World} {K : PySem.W.Frag} {mg : Str → Option Value} {fa : Addr} (hmg : mg "law" = some (.ref fa)) (F : Facts K mg) :
    ∃ fd : FuncData, (∀ (s : Shared) (u : Value), BindsTo s fd ⟨[u], []⟩ [("_law_script", u)]) ∧ ∀ base : Heap, K.In base → base.Ns mainGlobals mg → FnD P w K mg base 10 fa fd ["_law_script"] sp_law := by
  obtain ⟨f, fd, m, Fn⟩ := F.D_law.ex
  have e := hmg.symm.trans m
  cases e
  refine ⟨fd, ?_, fun base _ _ => Fun.okD Fn sc_law len_law fun cdv A outer s H hr => ⟨rd_law, der_law F.B (cal__law_source F) (cal__law_modulus F) (cal__law_pick F) (cal__law_terms F) (cal__law_small_right F) (cal__law_two_right F) (cal__law_power F) (cal_power F) (cal__law_wide_right F) hr, r_law⟩⟩
  obtain ⟨oc, od, kV, doc, pm, an, cdv, ct, osl, rfl, lk, hcd⟩ := Fn.ex
  exact fun s v => .of_eq rfl
theorem primes_mk {K : PySem.W.Frag} {h : Heap} {mg : Str → Option Value} {ad n : Nat} {h2 h3 h5 h6 h7 h10 h11 h13 h14 h15 : Int} {t2 t3 t5 t6 t7 t10 t11 t13 t14 t15 u20 u30 u50 u60 u61 u70 u100 u101 u110 u130 u140 u141 u150 u151 : Tok} {b2 b3 b5 b6 b7 b10 b11 b13 b14 b15 : Addr} {d2 d3 d5 d6 d7 d10 d11 d13 d14 d15 : Option Addr} {n2 n3 n5 n6 n7 n10 n11 n13 n14 n15 : Nat} {s2 s3 s5 s6 s7 s10 s11 s13 s14 s15 : Array (Option Value)} (X : K.In h) (G : h.Ns mainGlobals mg) (a : PySem.W.nsIn K mainGlobals "PRIMES" = some (some (.ref ad)))
    (l : K.lookup ad = some ⟨.type "dict", none, .dict #[⟨h2, .int 2 t2, .ref b2⟩, ⟨h3, .int 3 t3, .ref b3⟩, ⟨h5, .int 5 t5, .ref b5⟩, ⟨h6, .int 6 t6, .ref b6⟩, ⟨h7, .int 7 t7, .ref b7⟩, ⟨h10, .int 10 t10, .ref b10⟩, ⟨h11, .int 11 t11, .ref b11⟩, ⟨h13, .int 13 t13, .ref b13⟩, ⟨h14, .int 14 t14, .ref b14⟩, ⟨h15, .int 15 t15, .ref b15⟩] n, #[]⟩) (e : h2 = hashInt 2 ∧ h3 = hashInt 3 ∧ h5 = hashInt 5 ∧ h6 = hashInt 6 ∧ h7 = hashInt 7 ∧ h10 = hashInt 10 ∧ h11 = hashInt 11 ∧ h13 = hashInt 13 ∧ h14 = hashInt 14 ∧ h15 = hashInt 15 ∧ (ad == sysModules) = false)
    (l2 : K.lookup b2 = some ⟨.type "tuple", d2, .seq #[.int 2 u20] n2, s2⟩) (l3 : K.lookup b3 = some ⟨.type "tuple", d3, .seq #[.int 3 u30] n3, s3⟩) (l5 : K.lookup b5 = some ⟨.type "tuple", d5, .seq #[.int 5 u50] n5, s5⟩) (l6 : K.lookup b6 = some ⟨.type "tuple", d6, .seq #[.int 2 u60, .int 3 u61] n6, s6⟩) (l7 : K.lookup b7 = some ⟨.type "tuple", d7, .seq #[.int 7 u70] n7, s7⟩) (l10 : K.lookup b10 = some ⟨.type "tuple", d10, .seq #[.int 2 u100, .int 5 u101] n10, s10⟩) (l11 : K.lookup b11 = some ⟨.type "tuple", d11, .seq #[.int 11 u110] n11, s11⟩) (l13 : K.lookup b13 = some ⟨.type "tuple", d13, .seq #[.int 13 u130] n13, s13⟩) (l14 : K.lookup b14 = some ⟨.type "tuple", d14, .seq #[.int 2 u140, .int 7 u141] n14, s14⟩) (l15 : K.lookup b15 = some ⟨.type "tuple", d15, .seq #[.int 3 u150, .int 5 u151] n15, s15⟩) : KTup K mg "PRIMES" primesT := by
  obtain ⟨e2, e3, e5, e6, e7, e10, e11, e13, e14, e15, eo⟩ := e
  exact ⟨⟨ad, _, n, PySem.W.mg_of X G a, l, (.cons e2 l2 rfl rfl (by simp) (.cons _ _ .nil) (.cons e3 l3 rfl rfl (by simp) (.cons _ _ .nil) (.cons e5 l5 rfl rfl (by simp) (.cons _ _ .nil) (.cons e6 l6 rfl rfl (by simp) (.cons _ _ (.cons _ _ .nil)) (.cons e7 l7 rfl rfl (by simp) (.cons _ _ .nil) (.cons e10 l10 rfl rfl (by simp) (.cons _ _ (.cons _ _ .nil)) (.cons e11 l11 rfl rfl (by simp) (.cons _ _ .nil) (.cons e13 l13 rfl rfl (by simp) (.cons _ _ .nil) (.cons e14 l14 rfl rfl (by simp) (.cons _ _ (.cons _ _ .nil)) (.cons e15 l15 rfl rfl (by simp) (.cons _ _ (.cons _ _ .nil)) .nil)))))))))), by decide, eo⟩⟩
end K01

open PySem PySem.W PyProof.Rows
set_option maxRecDepth 100000 in
set_option maxHeartbeats 0 in
theorem PySem.Challenge.cw_nearadds_k01_rules_put_together_holds : PySem.Challenge.rw_nearadds_k01_rules_put_together.Holds := by
  w_on; o_law; k_head; (case hw => w_witness2)
  k_fill
  refine DL.dwalk (n := 63) (k := 10) (x := "_law_script") (sp := K01.sp_law) rfl (by decide) rfl ⟨rfl, by decide, by decide⟩ (fun w h Y => PySem.W.kIn_of Y) ?F (fun ns hl hb => ⟨ns, rfl, rfl, hl, hb, fun _ => rfl⟩)
  intro w mg fa h KX G hmg
  refine K01.ends hmg (K01.Facts.mk ?B ?H_PRIMES ?HT_PRIMES ?H_MOST_POWER ?D_is_number ?D_is_within ?D_is_two ?D_ascends ?D_is_pairs ?D_is_modulus ?D_has_modulus ?D_is_rule ?D_need_rule ?D_need_same ?D_need_rules ?D_primes_of ?D_still ?D_left_of ?D_sums_of ?D_products_of ?D_plus ?D_behind ?D_power ?D__law_source ?D__law_pick ?D__law_primes ?D__law_modulus ?D__law_factor ?D__law_terms ?D__law_tidy ?D__law_product ?D__law_power ?D__law_sum ?D__law_small_right ?D__law_two_right ?D__law_wide_right ?D_law)
  case B =>
    refine' DL.bl_mk KX G ?b_isinstance ?b_int ?b_bool ?b_str ?b_tuple ?b_list ?b_dict ?b_len ?b_all ?b_any ?b_sum ?b_abs ?b_max ?b_min ?b_repr ?b_range ?b_enumerate ?b_zip ?b_reversed ?b_sorted ?b_set
    (case b_isinstance => k_is)
    (case b_int => k_is)
    (case b_bool => k_is)
    (case b_str => k_is)
    (case b_tuple => k_is)
    (case b_list => k_is)
    (case b_dict => k_is)
    (case b_len => k_is)
    (case b_all => k_is)
    (case b_any => k_is)
    (case b_sum => k_is)
    (case b_abs => k_is)
    (case b_max => k_is)
    (case b_min => k_is)
    (case b_repr => k_is)
    (case b_range => k_is)
    (case b_enumerate => k_is)
    (case b_zip => k_is)
    (case b_reversed => k_is)
    (case b_sorted => k_is)
    (case b_set => k_is)
  case H_PRIMES =>
    refine' DL.kname_mk KX G ?a ?l ?e ?n ?o
    (case a => k_is); (case l => k_is); (case e => rfl); (case n => decide); (case o => rfl)
  case HT_PRIMES =>
    refine' K01.primes_mk KX G ?a ?l ?e ?l2 ?l3 ?l5 ?l6 ?l7 ?l10 ?l11 ?l13 ?l14 ?l15
    (case a => k_is); (case l => k_is); (case e => exact ⟨rfl, rfl, rfl, rfl, rfl, rfl, rfl, rfl, rfl, rfl, rfl⟩); (case l2 => k_is); (case l3 => k_is); (case l5 => k_is); (case l6 => k_is); (case l7 => k_is); (case l10 => k_is); (case l11 => k_is); (case l13 => k_is); (case l14 => k_is); (case l15 => k_is)
  case H_MOST_POWER =>
    refine' DL.knum_mk KX G ?a
    (case a => k_is)
  case D_is_number =>
    refine' DL.def_mk KX G ?a ?l ?c ?k
    (case a => k_is); (case l => k_is); (case c => k_is); (case k => k_is)
  case D_is_within =>
    refine' DL.def_mk KX G ?a ?l ?c ?k
    (case a => k_is); (case l => k_is); (case c => k_is); (case k => k_is)
  case D_is_two =>
    refine' DL.def_mk KX G ?a ?l ?c ?k
    (case a => k_is); (case l => k_is); (case c => k_is); (case k => k_is)
  case D_ascends =>
    refine' DL.def_mk KX G ?a ?l ?c ?k
    (case a => k_is); (case l => k_is); (case c => k_is); (case k => k_is)
  case D_is_pairs =>
    refine' DL.def_mk KX G ?a ?l ?c ?k
    (case a => k_is); (case l => k_is); (case c => k_is); (case k => k_is)
  case D_is_modulus =>
    refine' DL.def_mk KX G ?a ?l ?c ?k
    (case a => k_is); (case l => k_is); (case c => k_is); (case k => k_is)
  case D_has_modulus =>
    refine' DL.def_mk KX G ?a ?l ?c ?k
    (case a => k_is); (case l => k_is); (case c => k_is); (case k => k_is)
  case D_is_rule =>
    refine' DL.def_mk KX G ?a ?l ?c ?k
    (case a => k_is); (case l => k_is); (case c => k_is); (case k => k_is)
  case D_need_rule =>
    refine' DL.def_mk KX G ?a ?l ?c ?k
    (case a => k_is); (case l => k_is); (case c => k_is); (case k => k_is)
  case D_need_same =>
    refine' DL.def_mk KX G ?a ?l ?c ?k
    (case a => k_is); (case l => k_is); (case c => k_is); (case k => k_is)
  case D_need_rules =>
    refine' DL.def_mk KX G ?a ?l ?c ?k
    (case a => k_is); (case l => k_is); (case c => k_is); (case k => k_is)
  case D_primes_of =>
    refine' DL.def_mk KX G ?a ?l ?c ?k
    (case a => k_is); (case l => k_is); (case c => k_is); (case k => k_is)
  case D_still =>
    refine' DL.def_mk KX G ?a ?l ?c ?k
    (case a => k_is); (case l => k_is); (case c => k_is); (case k => k_is)
  case D_left_of =>
    refine' DL.def_mk KX G ?a ?l ?c ?k
    (case a => k_is); (case l => k_is); (case c => k_is); (case k => k_is)
  case D_sums_of =>
    refine' DL.def_mk KX G ?a ?l ?c ?k
    (case a => k_is); (case l => k_is); (case c => k_is); (case k => k_is)
  case D_products_of =>
    refine' DL.def_mk KX G ?a ?l ?c ?k
    (case a => k_is); (case l => k_is); (case c => k_is); (case k => k_is)
  case D_plus =>
    refine' DL.def_mk KX G ?a ?l ?c ?k
    (case a => k_is); (case l => k_is); (case c => k_is); (case k => k_is)
  case D_behind =>
    refine' DL.def_mk KX G ?a ?l ?c ?k
    (case a => k_is); (case l => k_is); (case c => k_is); (case k => k_is)
  case D_power =>
    refine' DL.def_mk KX G ?a ?l ?c ?k
    (case a => k_is); (case l => k_is); (case c => k_is); (case k => k_is)
  case D__law_source =>
    refine' DL.def_mk KX G ?a ?l ?c ?k
    (case a => k_is); (case l => k_is); (case c => k_is); (case k => k_is)
  case D__law_pick =>
    refine' DL.def_mk KX G ?a ?l ?c ?k
    (case a => k_is); (case l => k_is); (case c => k_is); (case k => k_is)
  case D__law_primes =>
    refine' DL.def_mk KX G ?a ?l ?c ?k
    (case a => k_is); (case l => k_is); (case c => k_is); (case k => k_is)
  case D__law_modulus =>
    refine' DL.def_mk KX G ?a ?l ?c ?k
    (case a => k_is); (case l => k_is); (case c => k_is); (case k => k_is)
  case D__law_factor =>
    refine' DL.def_mk KX G ?a ?l ?c ?k
    (case a => k_is); (case l => k_is); (case c => k_is); (case k => k_is)
  case D__law_terms =>
    refine' DL.def_mk KX G ?a ?l ?c ?k
    (case a => k_is); (case l => k_is); (case c => k_is); (case k => k_is)
  case D__law_tidy =>
    refine' DL.def_mk KX G ?a ?l ?c ?k
    (case a => k_is); (case l => k_is); (case c => k_is); (case k => k_is)
  case D__law_product =>
    refine' DL.def_mk KX G ?a ?l ?c ?k
    (case a => k_is); (case l => k_is); (case c => k_is); (case k => k_is)
  case D__law_power =>
    refine' DL.def_mk KX G ?a ?l ?c ?k
    (case a => k_is); (case l => k_is); (case c => k_is); (case k => k_is)
  case D__law_sum =>
    refine' DL.def_mk KX G ?a ?l ?c ?k
    (case a => k_is); (case l => k_is); (case c => k_is); (case k => k_is)
  case D__law_small_right =>
    refine' DL.def_mk KX G ?a ?l ?c ?k
    (case a => k_is); (case l => k_is); (case c => k_is); (case k => k_is)
  case D__law_two_right =>
    refine' DL.def_mk KX G ?a ?l ?c ?k
    (case a => k_is); (case l => k_is); (case c => k_is); (case k => k_is)
  case D__law_wide_right =>
    refine' DL.def_mk KX G ?a ?l ?c ?k
    (case a => k_is); (case l => k_is); (case c => k_is); (case k => k_is)
  case D_law =>
    refine' DL.def_mk KX G ?a ?l ?c ?k
    (case a => k_is); (case l => k_is); (case c => k_is); (case k => k_is)
