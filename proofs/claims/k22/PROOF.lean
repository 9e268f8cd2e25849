import PyProof.Rows.All
import Wide.All
import OpenK.AllK
import Wide.FinOn
import HandS.ForMost
import HandS.Conv
import HandS.TupAny
import HandS.IsInst
import HandS.Wide
import HandS.EndBits
import HandS.RevRange
import HandS.TupLe
import HandS.Style
import PyProof.ReprRoads
import PyProof.ReprBulk
import HandS.Zip
import PyProof.FitsInt
import HandS.Small
import HandS.More
import HandS.SortInts
import HandS.WideBits
import HandS.SetFor
import HandS.Strs
import HandS.TupMul
import HandS.Flow
import KE.KDictPairs
import HandS.NoneIn
import PySem.Challenge.RW_nearadds_k22_round_rows_that_die_out
set_option linter.all false
set_option Elab.async false
set_option maxRecDepth 100000
set_option maxHeartbeats 4000000
/-! DT: tuples whose object is known to have no dict of its own. -/
namespace DL
open PySem PySem.Spec PyProof.Rows L2
/-- a tuple's object without a dict of its own -/
structure TupO (o : Obj) : Prop where
  cl : o.cls = .type "tuple"
  nd : o.dict = none
/-- the place holds such a tuple -/
def SqP (K : PySem.W.Frag) (H : Hp) (a : Addr) (xs : List V) : Prop :=
  (∃ o, H a = some (.frz o (.tup xs)) ∧ TupO o) ∨
    ∃ (o : Obj) (its : Array Value) (n : Nat), K.lookup a = some o ∧ TupO o ∧ o.data = .seq its n ∧ its.size ≤ sizeLine ∧ Vals xs its.toList
theorem SqP.t {K : PySem.W.Frag} {H : Hp} {a : Addr} {xs : List V} (h : SqP K H a xs) : SqT K H a xs := by
  rcases h with ⟨o, e, _⟩ | ⟨o, its, n, e, t, r⟩
  · exact .inl (.inr ⟨o, e⟩)
  · exact .inr ⟨o, its, n, e, t.cl, r⟩
theorem SqP.mono {K : PySem.W.Frag} {H H' : Hp} {a : Addr} {xs : List V} (e : Same H H') (h : SqP K H a xs) : SqP K H' a xs := by
  rcases h with ⟨o, h, t⟩ | h
  · exact .inl ⟨o, e _ _ h, t⟩
  · exact .inr h
/-- a new tuple -/
def NewT (H : Hp) (xs : List V) (Q : VK) : Prop := ∀ p o, H p = none → TupO o → Q (.ref p) (upd H p (.frz o (.tup xs)))
section
variable {X : Cx} {pins : List (Addr × Obj)} {σ : L2.St} {H : Hp} {s : Shared} {Q : VK}
theorem lay_tup (I : Inv X pins σ H s) {its : List Value} {xs : List V} (z : xs.length ≤ sizeLine) (r : Vals xs its) (q : NewT H xs Q) : EP X pins σ Q (.ref s.heap.objs.size) { s with heap := s.heap.push { cls := .type "tuple", data := .seq its.toArray } } := by
  have new : (s.heap.push { cls := .type "tuple", data := .seq its.toArray }).get? s.heap.objs.size = some { cls := .type "tuple", data := .seq its.toArray } := Heap.get?_push_size _ rfl
  have old : ∀ b ob, s.heap.get? b = some ob → (s.heap.push { cls := .type "tuple", data := .seq its.toArray }).get? b = some ob := fun _ _ e => Heap.get?_push_of_some _ e
  exact ⟨.ref _, _, I.laid (t' := s.toks) (o := .frz _ (.tup xs)) old (Nat.le_refl _) ⟨new, z, its, r, _, new, rfl, _, rfl⟩, rfl, q _ _ (I.hok.fresh (Nat.le_refl _)) ⟨rfl, rfl⟩⟩
theorem pt_tup {es : List Expr} {pos : Pos} {x1} {t : TA} (h : PA X es t) : PE X (.Tuple es x1 pos) (fun σ H Q => t σ H fun xs H1 => xs.length ≤ sizeLine ∧ NewT H1 xs Q) :=
  ⟨fun pins s σ H Q I hq => wpAny_Tuple_spliced (thn (h.run pos pins s σ H _ I hq) fun us s1 ⟨xs, H1, I1, r, z, q⟩ => ⟨by rw [← r.length]; exact z, lay_tup I1 z r q⟩)⟩
theorem callT_tuple : CallR X (.type "tuple") (fun xs H Q => ∃ p ys, xs = [.ref p] ∧ ((SqL X.K H p ys ∧ NewT H ys Q) ∨ (SqT X.K H p ys ∧ Q (.ref p) H))) := by
  rintro pins s σ H xs us Q I r ⟨p, ys, rfl, h⟩
  obtain ⟨u, rfl, rx⟩ := vals1 r
  cases rx
  rcases h with ⟨hL, q⟩ | ⟨hT, q⟩
  · obtain ⟨its, rv, pl, z⟩ := I.list hL
    have hn := rv.length
    exact call_tuple_list pl.isList (fun h2 keep => lay_tup (I.kept (t' := s.toks) keep) z rv q) (by rw [List.size_toArray]; omega)
  · obtain ⟨its, rv, pl, z⟩ := I.tuple hT
    exact call_tuple_same pl ⟨.ref p, H, I, rfl, q⟩
def rCatP (K : PySem.W.Frag) : R2 := fun x y H Q => ∃ a b xs ys, x = .ref a ∧ y = .ref b ∧ SqT K H a xs ∧ SqT K H b ys ∧ xs.length + ys.length ≤ sizeLine ∧
  (xs = [] → Q (.ref b) H) ∧ (xs ≠ [] → ys = [] → Q (.ref a) H) ∧ (xs ≠ [] → ys ≠ [] → NewT H (xs ++ ys) Q)
theorem opP_cat : OpR X (binaryOp .Add) (rCatP X.K) := by
  rintro pins s σ H x y v u Q I rx ry ⟨a, b, xs, ys, rfl, rfl, ha, hb, z, q0, q1, q2⟩
  cases rx; cases ry
  obtain ⟨its, r1, p1, _⟩ := I.tuple ha
  obtain ⟨its2, r2, p2, _⟩ := I.tuple hb
  by_cases hx : xs = []
  · subst hx
    cases r1
    exact cat_tup0 p1 p2 ⟨.ref b, H, I, rfl, q0 rfl⟩
  · refine HT.cat_tup p1 p2 (fun e => hx (r1.nil_iff.mp e)) (fun e => ⟨.ref a, H, I, rfl, q1 hx (r2.nil_iff.mp e)⟩) (fun e => ?_) (by rw [← r1.length, ← r2.length]; exact z)
    exact lay_tup I (by rw [List.length_append]; exact z) (r1.append r2) (q2 hx fun w => e (r2.nil_iff.mpr w))
def rSlP (K : PySem.W.Frag) : V → Option Int → Option Int → Hp → VK → Prop := fun x lo hi H Q => ∃ a xs, x = .ref a ∧ SqT K H a xs ∧
  (HT.sIx xs.length 0 lo = 0 ∧ HT.sIx xs.length xs.length hi = xs.length → Q (.ref a) H) ∧ (¬ (HT.sIx xs.length 0 lo = 0 ∧ HT.sIx xs.length xs.length hi = xs.length) → NewT H (cutV xs lo hi) Q)
theorem slP_tup : SlR X (rSlP X.K) := by
  rintro pins s σ H x v vl vu lo hi sl Q I rx hs pl pu ⟨a, xs, rfl, hx, q1, q2⟩
  cases rx
  obtain ⟨its, r, ht, z⟩ := I.tuple hx
  have hn : its.toArray.size = xs.length := by rw [List.size_toArray]; exact r.length.symm
  refine ⟨"tuple", _, PyProof.Rows.slot_tuple_getitem.lookup, ht.typeIs, ?_⟩
  by_cases hw : HT.sIx xs.length 0 lo = 0 ∧ HT.sIx xs.length xs.length hi = xs.length
  · exact getItem_tuple_whole ht hs pl pu (by rw [hn]; exact hw) ⟨.ref a, H, I, rfl, q1 hw⟩
  · refine HT.getItem_tuple_cut ht hs pl pu (by rw [hn]; exact hw) ?_ (by rw [hn]; exact z)
    rw [hn]
    exact lay_tup I (Nat.le_trans (cutV_length xs lo hi) z) ((r.drop (HT.sIx xs.length 0 lo)).take (HT.sIx xs.length xs.length hi - HT.sIx xs.length 0 lo)) (q2 hw)
end
end DL

/-! DL: data as a whole. The slots of a def hold plain data (PyData) or mutable cells; the abstract heap is hidden. -/
namespace DL
open PySem PySem.Spec PyProof.Rows L2

/-- what a slot holds: data, or the address of a mutable cell -/
inductive DV where
  | d (x : PyData)
  | cell (a : Addr)
/-- what stands in a mutable cell -/
inductive Cell where
  | lst (xs : List PyData)
  | dct (kvs : List (Key × PyData))
abbrev Mu := Addr → Option Cell
def put (μ : Mu) (a : Addr) (c : Cell) : Mu := fun b => if b = a then some c else μ b
def del (μ : Mu) (a : Addr) : Mu := fun b => if b = a then none else μ b
theorem put_same {μ : Mu} {a : Addr} {c : Cell} : put μ a c a = some c := by simp [put]
theorem put_ne {μ : Mu} {a b : Addr} {c : Cell} (h : b ≠ a) : put μ a c b = μ b := by simp [put, h]
theorem del_same {μ : Mu} {a : Addr} : del μ a a = none := by simp [del]
theorem del_ne {μ : Mu} {a b : Addr} (h : b ≠ a) : del μ a b = μ b := by simp [del, h]
theorem put_put {μ : Mu} {a : Addr} {c e : Cell} : put (put μ a c) a e = put μ a e := by
  funext b; simp only [put]; split <;> rfl
theorem del_put {μ : Mu} {a : Addr} {c : Cell} (h : μ a = none) : del (put μ a c) a = μ := by
  funext b; simp only [put, del]; split
  · next e => rw [e, h]
  · rfl

/-- the heap without the cells -/
def hid (μ : Mu) (H : Hp) : Hp := fun b => if (μ b).isSome = true then none else H b
theorem hid_of {μ : Mu} {H : Hp} {b : Addr} (h : μ b = none) : hid μ H b = H b := by simp [hid, h]
theorem hid_some {μ : Mu} {H : Hp} {b : Addr} {o : HO} (h : hid μ H b = some o) : H b = some o ∧ μ b = none := by
  unfold hid at h
  cases e : μ b with
  | none => rw [e] at h; exact ⟨by simpa using h, rfl⟩
  | some c => rw [e] at h; simp at h

def kD : Key → PyData
  | .inl i => .int i
  | .inr x => .str x

mutual
/-- the value v is the data d in the heap H -/
inductive Da (K : PySem.W.Frag) (H : Hp) : V → PyData → Prop
  | non : Da K H .non .none
  | bl (b : Bool) : Da K H (.bl b) (.bool b)
  | int (i : Int) : Da K H (.int i) (.int i)
  | str (x : Str) : Da K H (.str x) (.str x)
  | lst {a : Addr} {xs : List V} {ds : List PyData} : SqL K H a xs → DaAll K H xs ds → Da K H (.ref a) (.list ds)
  | tup {a : Addr} {xs : List V} {ds : List PyData} : SqP K H a xs → DaAll K H xs ds → Da K H (.ref a) (.tuple ds)
  | dct {a : Addr} {kvs : List (Key × V)} {ds : List PyData} : H a = some (.dK kvs) → DaAll K H (kvs.map (·.2)) ds → Da K H (.ref a) (.dict ((kvs.map fun p => kD p.1).zip ds))
inductive DaAll (K : PySem.W.Frag) (H : Hp) : List V → List PyData → Prop
  | nil : DaAll K H [] []
  | cons {v : V} {vs : List V} {d : PyData} {ds : List PyData} : Da K H v d → DaAll K H vs ds → DaAll K H (v :: vs) (d :: ds)
end

theorem same_seqW {K : PySem.W.Frag} {H H' : Hp} {a : Addr} {xs : List V} (e : Same H H') (h : SqT K H a xs) : SqT K H' a xs := by
  rcases h with (h | ⟨o, h⟩) | h
  · exact .inl (.inl (e _ _ h))
  · exact .inl (.inr ⟨o, e _ _ h⟩)
  · exact .inr h
theorem same_seqT {K : PySem.W.Frag} {H H' : Hp} {a : Addr} {xs : List V} (e : Same H H') (h : SqP K H a xs) : SqT K H' a xs := (h.mono e).t

mutual
theorem Da.mono {K : PySem.W.Frag} {H H' : Hp} (e : Same H H') : ∀ {v : V} {d : PyData}, Da K H v d → Da K H' v d
  | _, _, .non => .non
  | _, _, .bl b => .bl b
  | _, _, .int i => .int i
  | _, _, .str x => .str x
  | _, _, .lst h a => .lst (e.seq h) (DaAll.mono e a)
  | _, _, .tup h a => .tup (h.mono e) (DaAll.mono e a)
  | _, _, .dct h a => .dct (e _ _ h) (DaAll.mono e a)
theorem DaAll.mono {K : PySem.W.Frag} {H H' : Hp} (e : Same H H') : ∀ {vs : List V} {ds : List PyData}, DaAll K H vs ds → DaAll K H' vs ds
  | _, _, .nil => .nil
  | _, _, .cons h t => .cons (Da.mono e h) (DaAll.mono e t)
end
theorem DaAll.length {K : PySem.W.Frag} {H : Hp} : ∀ {vs : List V} {ds : List PyData}, DaAll K H vs ds → vs.length = ds.length
  | _, _, .nil => rfl
  | _, _, .cons _ t => by simp [DaAll.length t]
theorem DaAll.get {K : PySem.W.Frag} {H : Hp} : ∀ {vs : List V} {ds : List PyData}, DaAll K H vs ds → ∀ {i : Nat} {d : PyData}, ds[i]? = some d → ∃ v, vs[i]? = some v ∧ Da K H v d
  | _, _, .nil, i, d, h => by simp at h
  | _, _, .cons h t, 0, d, e => by simp at e; subst e; exact ⟨_, rfl, h⟩
  | _, _, .cons h t, i + 1, d, e => by
    obtain ⟨v, h1, h2⟩ := DaAll.get t (i := i) (by simpa using e)
    exact ⟨v, by simpa using h1, h2⟩
theorem DaAll.getV {K : PySem.W.Frag} {H : Hp} : ∀ {vs : List V} {ds : List PyData}, DaAll K H vs ds → ∀ {i : Nat} {v : V}, vs[i]? = some v → ∃ d, ds[i]? = some d ∧ Da K H v d
  | _, _, .nil, i, d, h => by simp at h
  | _, _, .cons h t, 0, d, e => by simp at e; subst e; exact ⟨_, rfl, h⟩
  | _, _, .cons h t, i + 1, d, e => by
    obtain ⟨v, h1, h2⟩ := DaAll.getV t (i := i) (by simpa using e)
    exact ⟨v, by simpa using h1, h2⟩
theorem DaAll.append {K : PySem.W.Frag} {H : Hp} : ∀ {vs ws : List V} {ds es : List PyData}, DaAll K H vs ds → DaAll K H ws es → DaAll K H (vs ++ ws) (ds ++ es)
  | _, _, _, _, .nil, h => h
  | _, _, _, _, .cons a t, h => .cons a (DaAll.append t h)
theorem DaAll.take {K : PySem.W.Frag} {H : Hp} : ∀ {vs : List V} {ds : List PyData} (n : Nat), DaAll K H vs ds → DaAll K H (vs.take n) (ds.take n)
  | _, _, 0, _ => by simpa using DaAll.nil
  | _, _, n + 1, .nil => by simpa using DaAll.nil
  | _, _, n + 1, .cons a t => by simpa using DaAll.cons a (DaAll.take n t)
theorem DaAll.drop {K : PySem.W.Frag} {H : Hp} : ∀ {vs : List V} {ds : List PyData} (n : Nat), DaAll K H vs ds → DaAll K H (vs.drop n) (ds.drop n)
  | _, _, 0, h => by simpa using h
  | _, _, n + 1, .nil => by simpa using DaAll.nil
  | _, _, n + 1, .cons a t => by simpa using DaAll.drop n t
theorem DaAll.rev {K : PySem.W.Frag} {H : Hp} : ∀ {vs : List V} {ds : List PyData}, DaAll K H vs ds → DaAll K H vs.reverse ds.reverse
  | _, _, .nil => by simpa using DaAll.nil
  | _, _, .cons a t => by
    rw [List.reverse_cons, List.reverse_cons]
    exact (DaAll.rev t).append (.cons a .nil)
theorem DaAll.ints {K : PySem.W.Frag} {H : Hp} : ∀ (ns : List Int), DaAll K H (ns.map V.int) (ns.map PyData.int)
  | [] => .nil
  | n :: ns => .cons (.int n) (DaAll.ints ns)
theorem DaAll.ints_inv {K : PySem.W.Frag} {H : Hp} : ∀ {ns : List Int} {vs : List V}, DaAll K H vs (ns.map PyData.int) → vs = ns.map V.int
  | [], _, h => by cases h; rfl
  | n :: ns, _, h => by
    cases h with
    | cons a t => cases a; rw [DaAll.ints_inv t]; rfl

/-- an item that is walked over: data, or a tuple whose object is not told in full -/
def DaI (K : PySem.W.Frag) (H : Hp) (v : V) (d : PyData) : Prop := Da K H v d ∨ ∃ a vs ds, v = .ref a ∧ d = .tuple ds ∧ SqT K H a vs ∧ DaAll K H vs ds
theorem DaI.mono {K : PySem.W.Frag} {H H' : Hp} (e : Same H H') {v : V} {d : PyData} (h : DaI K H v d) : DaI K H' v d := by
  rcases h with h | ⟨a, vs, ds, e1, e2, s, t⟩
  · exact .inl (h.mono e)
  · exact .inr ⟨a, vs, ds, e1, e2, same_seqW e s, t.mono e⟩
theorem DaI.tup {K : PySem.W.Frag} {H : Hp} {v : V} {ds : List PyData} (h : DaI K H v (.tuple ds)) : ∃ a vs, v = .ref a ∧ SqT K H a vs ∧ DaAll K H vs ds := by
  rcases h with h | ⟨a, vs, ds', e1, e2, s, t⟩
  · cases h with
    | tup s t => exact ⟨_, _, rfl, s.t, t⟩
  · cases e2
    exact ⟨a, vs, e1, s, t⟩
def DaB (b : Bool) (K : PySem.W.Frag) (H : Hp) (v : V) (d : PyData) : Prop := match b with
  | true => Da K H v d
  | false => DaI K H v d
theorem DaB.mono {K : PySem.W.Frag} {H H' : Hp} (e : Same H H') {v : V} {d : PyData} : ∀ {b : Bool}, DaB b K H v d → DaB b K H' v d
  | true, h => Da.mono e h
  | false, h => DaI.mono e h
theorem DaB.i {K : PySem.W.Frag} {H : Hp} {v : V} {d : PyData} : ∀ {b : Bool}, DaB b K H v d → DaI K H v d
  | true, h => .inl h
  | false, h => h
/-- a slot's (or a result's) value -/
def RV (K : PySem.W.Frag) (μ : Mu) (H : Hp) (v : V) : DV → Prop
  | .d x => Da K (hid μ H) v x
  | .cell a => v = .ref a
def RVb (b : Bool) (K : PySem.W.Frag) (μ : Mu) (H : Hp) (v : V) : DV → Prop
  | .d x => DaB b K (hid μ H) v x
  | .cell a => v = .ref a
theorem RVb.rv {K : PySem.W.Frag} {μ : Mu} {H : Hp} {v : V} : ∀ {d : DV}, RVb true K μ H v d → RV K μ H v d
  | .d _, h => h
  | .cell _, h => h
theorem RV.rvb {K : PySem.W.Frag} {μ : Mu} {H : Hp} {v : V} : ∀ {d : DV}, RV K μ H v d → RVb true K μ H v d
  | .d _, h => h
  | .cell _, h => h
def RVs (K : PySem.W.Frag) (μ : Mu) (H : Hp) : List V → List DV → Prop := Paired fun v d => RV K μ H v d
def RO (K : PySem.W.Frag) (μ : Mu) (H : Hp) : Option V → Option DV → Prop
  | some v, some d => RV K μ H v d
  | _, none => True
  | none, some _ => False
abbrev DSt := List (Option DV)
def RS (K : PySem.W.Frag) (μ : Mu) (H : Hp) (σ : L2.St) (δ : DSt) : Prop := σ.length = δ.length ∧ ∀ (i : Nat) (d : DV), δ[i]? = some (some d) → ∃ v, σ[i]? = some (some v) ∧ RV K μ H v d
/-- a cell stands in the heap -/
def CellOk (K : PySem.W.Frag) (μ : Mu) (H : Hp) (a : Addr) : Cell → Prop
  | .lst ds => ∃ xs, H a = some (.lst xs) ∧ DaAll K (hid μ H) xs ds
  | .dct kvs => ∃ ks : List (Key × V), H a = some (.dK ks) ∧ ks.map (·.1) = kvs.map (·.1) ∧ DaAll K (hid μ H) (ks.map (·.2)) (kvs.map (·.2))
def RM (K : PySem.W.Frag) (μ : Mu) (H : Hp) : Prop := ∀ a c, μ a = some c → CellOk K μ H a c
/-- what was tracked and is no cell stays -/
def Ext (μ : Mu) (H : Hp) (μ' : Mu) (H' : Hp) : Prop := Same (hid μ H) (hid μ' H')
theorem Ext.refl (μ : Mu) (H : Hp) : Ext μ H μ H := Same.refl _
theorem Ext.trans {μ μ1 μ2 : Mu} {H H1 H2 : Hp} (a : Ext μ H μ1 H1) (b : Ext μ1 H1 μ2 H2) : Ext μ H μ2 H2 := Same.trans a b
theorem RV.mono {K : PySem.W.Frag} {μ μ' : Mu} {H H' : Hp} (e : Ext μ H μ' H') {v : V} : ∀ {d : DV}, RV K μ H v d → RV K μ' H' v d
  | .d _, h => Da.mono e h
  | .cell _, h => h
theorem RVs.mono {K : PySem.W.Frag} {μ μ' : Mu} {H H' : Hp} (e : Ext μ H μ' H') : ∀ {vs : List V} {ds : List DV}, RVs K μ H vs ds → RVs K μ' H' vs ds
  | _, _, .nil => .nil
  | _, _, .cons h t => .cons (h.mono e) (RVs.mono e t)
theorem RS.mono {K : PySem.W.Frag} {μ μ' : Mu} {H H' : Hp} (e : Ext μ H μ' H') {σ : L2.St} {δ : DSt} (h : RS K μ H σ δ) : RS K μ' H' σ δ :=
  ⟨h.1, fun i d q => let ⟨v, a, b⟩ := h.2 i d q; ⟨v, a, b.mono e⟩⟩
theorem RS.set {K : PySem.W.Frag} {μ : Mu} {H : Hp} {σ : L2.St} {δ : DSt} (h : RS K μ H σ δ) {v : V} {d : DV} (r : RV K μ H v d) (i : Nat) : RS K μ H (σ.set i (some v)) (δ.set i (some d)) := by
  refine ⟨by simpa using h.1, fun j e q => ?_⟩
  by_cases hj : i = j
  · subst hj
    by_cases hl : i < δ.length
    · rw [List.getElem?_set_self hl] at q
      cases q
      exact ⟨v, by rw [List.getElem?_set_self (by rw [h.1]; exact hl)], r⟩
    · rw [List.getElem?_eq_none (by simpa using hl)] at q; cases q
  · rw [List.getElem?_set_ne hj] at q
    obtain ⟨v', a, b⟩ := h.2 j e q
    exact ⟨v', by rw [List.getElem?_set_ne hj]; exact a, b⟩
/-- slots forgotten -/
theorem RS.weak {K : PySem.W.Frag} {μ : Mu} {H : Hp} {σ σ' : L2.St} {δ δ' : DSt} (h : RS K μ H σ δ) (hl : σ'.length = δ'.length) (hw : ∀ (i : Nat) d, δ'[i]? = some (some d) → δ[i]? = some (some d) ∧ σ'[i]? = σ[i]?) : RS K μ H σ' δ' :=
  ⟨hl, fun i d q => let ⟨a, b⟩ := hw i d q; let ⟨v, c, e⟩ := h.2 i d a; ⟨v, b ▸ c, e⟩⟩
theorem RS.start {K : PySem.W.Frag} {μ : Mu} {H : Hp} {N : List Str} {vs : List V} {ds : List DV} (h : RVs K μ H vs ds) : RS K μ H (L2.start N vs) (ds.map some ++ List.replicate (N.length - ds.length) none) := by
  have hl : vs.length = ds.length := Paired.length h
  refine ⟨by simp [L2.start, hl], fun i d q => ?_⟩
  by_cases hi : i < ds.length
  · rw [List.getElem?_append_left (by simpa using hi), List.getElem?_map] at q
    have e : ds[i]? = some d := by
      cases e : ds[i]? with
      | none => rw [e] at q; cases q
      | some x => rw [e] at q; simp at q; rw [q]
    have g : ∀ {vs : List V} {ds : List DV} {i : Nat}, RVs K μ H vs ds → ds[i]? = some d → ∃ v, vs[i]? = some v ∧ RV K μ H v d := by
      intro vs ds i h
      induction h generalizing i with
      | nil => intro e; simp at e
      | cons a t ih =>
        intro e
        cases i with
        | zero => simp at e; subst e; exact ⟨_, rfl, a⟩
        | succ i => obtain ⟨v, h1, h2⟩ := ih (i := i) (by simpa using e); exact ⟨v, by simpa using h1, h2⟩
    obtain ⟨v, h1, h2⟩ := g h e
    refine ⟨v, ?_, h2⟩
    unfold L2.start
    rw [List.getElem?_append_left (by simpa [hl] using hi), List.getElem?_map, h1]
    rfl
  · rw [List.getElem?_append_right (by simpa using hi), List.getElem?_replicate] at q
    split at q <;> cases q

/-! ### new objects -/
theorem RM.free {K : PySem.W.Frag} {μ : Mu} {H : Hp} (m : RM K μ H) {p : Addr} (h : H p = none) : μ p = none := by
  cases e : μ p with
  | none => rfl
  | some c =>
    have q := m p c e
    cases c with
    | lst ds => obtain ⟨xs, a, _⟩ := q; rw [h] at a; cases a
    | dct kvs => obtain ⟨xs, a, _⟩ := q; rw [h] at a; cases a
theorem ext_new {μ : Mu} {H : Hp} {p : Addr} {o : HO} (h : H p = none) : Ext μ H μ (upd H p o) := fun b u e => by
  obtain ⟨e1, e2⟩ := hid_some e
  rw [hid_of e2, upd_ne (ne_of_none e1 h)]
  exact e1
theorem CellOk.mono {K : PySem.W.Frag} {μ μ' : Mu} {H H' : Hp} (e : Ext μ H μ' H') {a : Addr} : ∀ {c : Cell}, CellOk K μ H a c → H' a = H a → CellOk K μ' H' a c
  | .lst _, ⟨xs, h, r⟩, q => ⟨xs, by rw [q]; exact h, r.mono e⟩
  | .dct _, ⟨ks, h, k, r⟩, q => ⟨ks, by rw [q]; exact h, k, r.mono e⟩
theorem RM.new {K : PySem.W.Frag} {μ : Mu} {H : Hp} (m : RM K μ H) {p : Addr} {o : HO} (h : H p = none) : RM K μ (upd H p o) := fun a c e => by
  have hne : a ≠ p := fun z => by subst z; rw [m.free h] at e; cases e
  exact (m a c e).mono (ext_new h) (upd_ne hne)
theorem hid_new {K : PySem.W.Frag} {μ : Mu} {H : Hp} (m : RM K μ H) {p : Addr} {o : HO} (h : H p = none) : hid μ (upd H p o) p = some o := by
  rw [hid_of (m.free h), upd_same]
/-- a new cell -/
theorem ext_cell {μ : Mu} {H : Hp} {p : Addr} {o : HO} {c : Cell} (h : H p = none) : Ext μ H (put μ p c) (upd H p o) := fun b u e => by
  obtain ⟨e1, e2⟩ := hid_some e
  have hb : b ≠ p := ne_of_none e1 h
  rw [hid_of (by rw [put_ne hb]; exact e2), upd_ne hb]
  exact e1
theorem RM.cell {K : PySem.W.Frag} {μ : Mu} {H : Hp} (m : RM K μ H) {p : Addr} {o : HO} {c : Cell} (h : H p = none) (hc : CellOk K (put μ p c) (upd H p o) p c) : RM K (put μ p c) (upd H p o) := fun a e q => by
  by_cases ha : a = p
  · subst ha; rw [put_same] at q; cases q; exact hc
  · rw [put_ne ha] at q
    exact (m a e q).mono (ext_cell h) (upd_ne ha)
/-- a cell is written -/
theorem ext_write {μ : Mu} {H : Hp} {p : Addr} {o : HO} {c e : Cell} (h : μ p = some e) : Ext μ H (put μ p c) (upd H p o) := fun b u q => by
  obtain ⟨e1, e2⟩ := hid_some q
  have hb : b ≠ p := fun z => by subst z; rw [h] at e2; cases e2
  rw [hid_of (by rw [put_ne hb]; exact e2), upd_ne hb]
  exact e1
theorem RM.write {K : PySem.W.Frag} {μ : Mu} {H : Hp} (m : RM K μ H) {p : Addr} {o : HO} {c e : Cell} (h : μ p = some e) (hc : CellOk K (put μ p c) (upd H p o) p c) : RM K (put μ p c) (upd H p o) := fun a u q => by
  by_cases ha : a = p
  · subst ha; rw [put_same] at q; cases q; exact hc
  · rw [put_ne ha] at q
    exact (m a u q).mono (ext_write h) (upd_ne ha)
/-- a cell becomes data -/
theorem ext_freeze {μ : Mu} {H : Hp} {p : Addr} : Ext μ H (del μ p) H := fun b u q => by
  obtain ⟨e1, e2⟩ := hid_some q
  rw [hid_of (by unfold del; split <;> first | rfl | exact e2)]
  exact e1
theorem RM.freeze {K : PySem.W.Frag} {μ : Mu} {H : Hp} (m : RM K μ H) {p : Addr} : RM K (del μ p) H := fun a c q => by
  have ha : a ≠ p := fun z => by subst z; rw [del_same] at q; cases q
  rw [del_ne ha] at q
  exact (m a c q).mono ext_freeze rfl
theorem freeze_lst {K : PySem.W.Frag} {μ : Mu} {H : Hp} (m : RM K μ H) {p : Addr} {ds : List PyData} (h : μ p = some (.lst ds)) : Da K (hid (del μ p) H) (.ref p) (.list ds) := by
  obtain ⟨xs, h1, h2⟩ := m p _ h
  exact .lst (.of (by rw [hid_of del_same]; exact h1)) (h2.mono ext_freeze)
/-- what a sequence's data say of the heap itself -/
theorem unhid {μ : Mu} {H : Hp} : Same (hid μ H) H := fun _ _ h => (hid_some h).1
end DL

namespace DL
open PySem PySem.Spec PyProof.Rows L2

/-! ### readings over data -/
abbrev DK := DV → Mu → Prop
abbrev DT := DSt → Mu → DK → Prop
abbrev DTT := DSt → Mu → (Bool → Mu → Prop) → Prop
abbrev DTA := DSt → Mu → (List DV → Mu → Prop) → Prop
abbrev DTP := DSt → Mu → (Option Int → Mu → Prop) → Prop
structure DEnds where
  nx : DSt → Mu → Prop
  rt : DK
  bk : DSt → Mu → Prop := fun _ _ => False
  ct : DSt → Mu → Prop := fun _ _ => False
abbrev DTS := DEnds → DSt → Mu → Prop
abbrev DTG := DV → DSt → Mu → (DSt → Mu → Prop) → Prop
abbrev DTGs := List DV → DSt → Mu → (DSt → Mu → Prop) → Prop

/-- what a wish over data says of a wish over values -/
def Wk (K : PySem.W.Frag) (μ : Mu) (H : Hp) (Qd : DK) (Q : VK) : Prop := ∀ d μ' v H', Ext μ H μ' H' → RM K μ' H' → RV K μ' H' v d → Qd d μ' → Q v H'
def up (K : PySem.W.Frag) (t : DT) : TE := fun σ H Q => ∃ δ μ Qd, RS K μ H σ δ ∧ RM K μ H ∧ t δ μ Qd ∧ Wk K μ H Qd Q
def upT (K : PySem.W.Frag) (t : DTT) : TT := fun σ H Q => ∃ δ μ Qd, RS K μ H σ δ ∧ RM K μ H ∧ t δ μ Qd ∧ ∀ b μ' H', Ext μ H μ' H' → RM K μ' H' → Qd b μ' → Q b H'
def upA (K : PySem.W.Frag) (t : DTA) : TA := fun σ H Q => ∃ δ μ Qd, RS K μ H σ δ ∧ RM K μ H ∧ t δ μ Qd ∧ ∀ ds μ' vs H', Ext μ H μ' H' → RM K μ' H' → RVs K μ' H' vs ds → Qd ds μ' → Q vs H'
abbrev DE (X : Cx) (e : Expr) (t : DT) : Prop := PE X e (up X.K t)
abbrev DC (X : Cx) (e : Expr) (t : DTT) : Prop := PT X e (upT X.K t)
abbrev DCW (X : Cx) (e : Expr) (t : DTT) : Prop := PW X e (upT X.K t)
abbrev DA (X : Cx) (es : List Expr) (t : DTA) : Prop := PA X es (upA X.K t)

theorem pe_imp {X : Cx} {e : Expr} {t t' : TE} (h : PE X e t) (w : ∀ σ H Q, t' σ H Q → t σ H Q) : PE X e t' := ⟨fun pins s σ H Q I q => h.run pins s σ H Q I (w _ _ _ q)⟩
theorem pt_imp {X : Cx} {e : Expr} {t t' : TT} (h : PT X e t) (w : ∀ σ H Q, t' σ H Q → t σ H Q) : PT X e t' := ⟨fun pins s σ H Q I q => h.run pins s σ H Q I (w _ _ _ q)⟩
theorem pw_imp {X : Cx} {e : Expr} {t t' : TT} (h : PW X e t) (w : ∀ σ H Q, t' σ H Q → t σ H Q) : PW X e t' := ⟨fun wh pins s σ H Q I q => h.run wh pins s σ H Q I (w _ _ _ q)⟩
theorem pa_imp {X : Cx} {e : List Expr} {t t' : TA} (h : PA X e t) (w : ∀ σ H Q, t' σ H Q → t σ H Q) : PA X e t' := ⟨fun pos pins s σ H Q I q => h.run pos pins s σ H Q I (w _ _ _ q)⟩
theorem ps_imp {X : Cx} {e : Stmt} {t t' : TS} (h : PS X e t) (w : ∀ D σ H, t' D σ H → t D σ H) : PS X e t' := ⟨fun pins s σ H D I q => h.run pins s σ H D I (w _ _ _ q)⟩
theorem pss_imp {X : Cx} {e : List Stmt} {t t' : TS} (h : PSs X e t) (w : ∀ D σ H, t' D σ H → t D σ H) : PSs X e t' := ⟨fun pins s σ H D I q => h.run pins s σ H D I (w _ _ _ q)⟩

section
variable {K : PySem.W.Frag} {μ : Mu} {H : Hp} {σ : L2.St} {δ : DSt}
/-- a wish behind a further step -/
theorem Wk.step {Qd : DK} {Q : VK} {μ1 : Mu} {H1 : Hp} (w : Wk K μ H Qd Q) (e : Ext μ H μ1 H1) : Wk K μ1 H1 Qd Q := fun d μ' v H' e' m r q => w d μ' v H' (e.trans e') m r q
/-- use of a part -/
theorem up_use {t : DT} {Qd : DK} {Q : VK} (rs : RS K μ H σ δ) (rm : RM K μ H) (h : t δ μ Qd) (w : Wk K μ H Qd Q) : up K t σ H Q := ⟨δ, μ, Qd, rs, rm, h, w⟩
theorem upT_use {t : DTT} {Qd : Bool → Mu → Prop} {Q : Bool → Hp → Prop} (rs : RS K μ H σ δ) (rm : RM K μ H) (h : t δ μ Qd) (w : ∀ b μ' H', Ext μ H μ' H' → RM K μ' H' → Qd b μ' → Q b H') : upT K t σ H Q := ⟨δ, μ, Qd, rs, rm, h, w⟩
theorem upA_use {t : DTA} {Qd : List DV → Mu → Prop} {Q : List V → Hp → Prop} (rs : RS K μ H σ δ) (rm : RM K μ H) (h : t δ μ Qd) (w : ∀ ds μ' vs H', Ext μ H μ' H' → RM K μ' H' → RVs K μ' H' vs ds → Qd ds μ' → Q vs H') : upA K t σ H Q := ⟨δ, μ, Qd, rs, rm, h, w⟩
end

/-! ### names, constants -/
def dVar (i : Nat) : DT := fun δ μ Q => match δ[i]? with
  | some (some x) => Q x μ
  | _ => False
def dC (x : PyData) : DT := fun _ μ Q => Q (.d x) μ
section
variable {X : Cx} {pos : Pos} {a b c e : Expr} {ta tb tc te : DT}
theorem d_var (i : Nat) {x : Str} (hN : X.N[i]? = some x := by rfl) (hv : Vis X.env.scope x := by first | exact Or.inl rfl | exact Or.inr (Or.inl rfl) | exact Or.inr (Or.inr rfl)) (hd : (x == ("__debug__" : Str)) = false := by decide)
    (hcd : (x == ("__classdict__" : Str)) = false := by decide) : DE X (.Name x pos) (dVar i) := pe_imp (pe_var hN hv hd hcd) fun σ H Q h => by
  obtain ⟨δ, μ, Qd, rs, rm, q, w⟩ := h
  unfold dVar at q
  split at q
  · next x e =>
    obtain ⟨v, h1, h2⟩ := rs.2 i x e
    exact ⟨v, h1, w x μ v H (.refl _ _) rm h2 q⟩
  · exact q.elim
theorem d_const {v : V} {x : PyData} (h : PE X e (tC v)) (r : ∀ K H, Da K H v x) : DE X e (dC x) := pe_imp h fun σ H Q ⟨δ, μ, Qd, rs, rm, q, w⟩ => w (.d x) μ v H (.refl _ _) rm (r _ _) q
theorem d_int {i j} : DE X (.Constant (.int i) j pos) (dC (.int i)) := d_const pe_int fun _ _ => .int i
theorem d_bl {i j} : DE X (.Constant (.bool i) j pos) (dC (.bool i)) := d_const pe_bl fun _ _ => .bl i
theorem d_non {j} : DE X (.Constant .none j pos) (dC .none) := d_const pe_non fun _ _ => .non
theorem d_str {x j} : DE X (.Constant (.str x) j pos) (dC (.str x)) := d_const pe_str fun _ _ => .str x
/-- a module's constant: a number, a text, a tuple, a list, of the written part -/
theorem d_glob {x : Str} {v : V} {u : Value} {y : PyData} (hg : Gl X x) (hm : X.mg x = some u) (r : RelV v u) (hd : ∀ H, Da X.K H v y) (hdb : (x == ("__debug__" : Str)) = false := by decide) : DE X (.Name x pos) (dC y) :=
  pe_imp (pe_glob hg hm r hdb) fun σ H Q ⟨δ, μ, Qd, rs, rm, q, w⟩ => w (.d y) μ v H (.refl _ _) rm (hd _) q

/-! ### two-place operations -/
abbrev DR2 := DV → DV → Mu → DK → Prop
abbrev DR1 := DV → Mu → DK → Prop
def dOp (r : DR2) (ta tb : DT) : DT := fun δ μ Q => ta δ μ fun x μ1 => tb δ μ1 fun y μ2 => r x y μ2 Q
def dUn (r : DR1) (ta : DT) : DT := fun δ μ Q => ta δ μ fun x μ1 => r x μ1 Q
/-- rd over data leads to rv over values -/
def Up2 (K : PySem.W.Frag) (rd : DR2) (rv : R2) : Prop := ∀ x y μ Qd v u H Q, RM K μ H → RV K μ H v x → RV K μ H u y → rd x y μ Qd → Wk K μ H Qd Q → rv v u H Q
def Up1 (K : PySem.W.Frag) (rd : DR1) (rv : V → Hp → VK → Prop) : Prop := ∀ x μ Qd v H Q, RM K μ H → RV K μ H v x → rd x μ Qd → Wk K μ H Qd Q → rv v H Q
theorem up_op {rd : DR2} {rv : R2} (h : Up2 X.K rd rv) : ∀ σ H Q, up X.K (dOp rd ta tb) σ H Q → tOp rv (up X.K ta) (up X.K tb) σ H Q := fun σ H Q ⟨δ, μ, Qd, rs, rm, q, w⟩ =>
  up_use rs rm q fun x μ1 v H1 e1 m1 r1 q1 => up_use (rs.mono e1) m1 q1 fun y μ2 u H2 e2 m2 r2 q2 => h x y μ2 Qd v u H2 Q m2 (r1.mono e2) r2 q2 (w.step (e1.trans e2))
theorem d_op {op : Operator} {rd : DR2} {rv : R2} (ho : OpR X (binaryOp op) rv) (h : Up2 X.K rd rv) (ha : DE X a ta) (hb : DE X b tb) : DE X (.BinOp a op b pos) (dOp rd ta tb) := pe_imp (pe_op ho ha hb) (up_op h)
theorem d_cmp {op : CmpOp} {rd : DR2} {rv : R2} (ho : OpR X (compareOp op) rv) (h : Up2 X.K rd rv) (ha : DE X a ta) (hb : DE X b tb) (hm : behindInMarks op b = false) : DE X (.Compare a [op] [b] pos) (dOp rd ta tb) := pe_imp (pe_cmpR ho ha hb hm) (up_op h)
theorem d_ix {rd : DR2} {rv : R2} (ho : IxR X rv) (h : Up2 X.K rd rv) (ha : DE X a ta) (hb : DE X b tb) (hs : PlainIx b) : DE X (.Subscript a b pos) (dOp rd ta tb) := pe_imp (pe_ix ho ha hb hs) (up_op h)
theorem d_un {op : UnaryOp} {rd : DR1} {rv : V → Hp → VK → Prop} (ho : UnR X (unaryOp op) rv) (h : Up1 X.K rd rv) (ha : DE X a ta) : DE X (.UnaryOp op a pos) (dUn rd ta) :=
  pe_imp (pe_un ho ha) fun σ H Q ⟨δ, μ, Qd, rs, rm, q, w⟩ => up_use rs rm q fun x μ1 v H1 e1 m1 r1 q1 => h x μ1 Qd v H1 Q m1 r1 q1 (w.step e1)

/-- ints in, under C, data out -/
def rdI (C : Int → Int → Prop) (g : Int → Int → PyData) : DR2 := fun x y μ Q => match x, y with
  | .d (.int i), .d (.int j) => C i j ∧ Q (.d (g i j)) μ
  | _, _ => False
def rdI0 (g : Int → Int → PyData) : DR2 := fun x y μ Q => match x, y with
  | .d (.int i), .d (.int j) => Q (.d (g i j)) μ
  | _, _ => False
def rdU (g : Int → PyData) : DR1 := fun x μ Q => match x with
  | .d (.int i) => Q (.d (g i)) μ
  | _ => False
theorem up_I {K : PySem.W.Frag} {C : Int → Int → Prop} {g : Int → Int → PyData} {gv : Int → Int → V} (r : ∀ H i j, Da K H (gv i j) (g i j)) : Up2 K (rdI C g) (rI C gv) := fun x y μ Qd v u H Q m rx ry q w => by
  unfold rdI at q
  split at q
  · next i j =>
    cases rx; cases ry
    exact ⟨i, j, rfl, rfl, q.1, w (.d (g i j)) μ _ H (.refl _ _) m (r _ i j) q.2⟩
  · exact q.elim
theorem up_I0 {K : PySem.W.Frag} {g : Int → Int → PyData} {gv : Int → Int → V} (r : ∀ H i j, Da K H (gv i j) (g i j)) : Up2 K (rdI0 g) (rI0 gv) := fun x y μ Qd v u H Q m rx ry q w => by
  unfold rdI0 at q
  split at q
  · next i j =>
    cases rx; cases ry
    exact ⟨i, j, rfl, rfl, w (.d (g i j)) μ _ H (.refl _ _) m (r _ i j) q⟩
  · exact q.elim
theorem up_U {K : PySem.W.Frag} {g : Int → PyData} {gv : Int → V} (r : ∀ H i, Da K H (gv i) (g i)) : Up1 K (rdU g) (rU gv) := fun x μ Qd v H Q m rx q w => by
  unfold rdU at q
  split at q
  · next i =>
    cases rx
    exact ⟨i, rfl, w (.d (g i)) μ _ H (.refl _ _) m (r _ i) q⟩
  · exact q.elim
theorem d_add (ha : DE X a ta) (hb : DE X b tb) : DE X (.BinOp a .Add b pos) (dOp (rdI0 fun i j => .int (i + j)) ta tb) := d_op op_add (up_I0 fun _ _ _ => .int _) ha hb
theorem d_sub (ha : DE X a ta) (hb : DE X b tb) : DE X (.BinOp a .Sub b pos) (dOp (rdI0 fun i j => .int (i - j)) ta tb) := d_op op_sub (up_I0 fun _ _ _ => .int _) ha hb
/-- the bits together within the line -/
def Bits (i j : Int) : Prop := Builtin.Int.intBits i + Builtin.Int.intBits j < 100000000
theorem Bits.ok {i j : Int} (h : Bits i j) : IntMulOk i j := by
  unfold Bits at h
  have e : bitsLine = 134217728 := by decide
  unfold IntMulOk
  intro z
  rw [Bool.and_eq_true] at z
  have z2 := z.2
  unfold Builtin.Int.intTooBig at z2
  have z3 := of_decide_eq_true z2
  rw [e] at z3
  omega
theorem op_mulB : OpR X (binaryOp .Mult) (rI Bits fun i j => .int (i * j)) := opI fun _ _ _ _ _ _ _ hc q => mul_int q hc.ok
theorem d_mul (ha : DE X a ta) (hb : DE X b tb) : DE X (.BinOp a .Mult b pos) (dOp (rdI Bits fun i j => .int (i * j)) ta tb) := d_op op_mulB (up_I fun _ _ _ => .int _) ha hb
theorem d_mod (ha : DE X a ta) (hb : DE X b tb) : DE X (.BinOp a .Mod b pos) (dOp (rdI (fun _ j => 0 < j) fun i j => .int (i % j)) ta tb) := d_op op_mod (up_I fun _ _ _ => .int _) ha hb
theorem d_fdiv (ha : DE X a ta) (hb : DE X b tb) : DE X (.BinOp a .FloorDiv b pos) (dOp (rdI CDivW fun i j => .int (i / j)) ta tb) := d_op op_fdivW (up_I fun _ _ _ => .int _) ha hb
def CPowB (i j : Int) : Prop := 0 ≤ j ∧ (Builtin.Int.intBits i : Int) * j ≤ 2 ^ 27
theorem op_powB : OpR X (binaryOp .Pow) (rI CPowB fun i j => .int (i ^ j.toNat)) := opI fun _ _ _ _ _ _ _ hc q => pow_int hc.1 hc.2 q
theorem d_pow (ha : DE X a ta) (hb : DE X b tb) : DE X (.BinOp a .Pow b pos) (dOp (rdI CPowB fun i j => .int (i ^ j.toNat)) ta tb) := d_op op_powB (up_I fun _ _ _ => .int _) ha hb
theorem d_neg (ha : DE X a ta) : DE X (.UnaryOp .USub a pos) (dUn (rdU fun i => .int (-i)) ta) := d_un un_neg (up_U fun _ _ => .int _) ha
abbrev cLt : DR2 := rdI0 fun i j => .bool (decide (i < j))
abbrev cLe : DR2 := rdI0 fun i j => .bool (decide (i ≤ j))
abbrev cGt : DR2 := rdI0 fun i j => .bool (decide (j < i))
abbrev cGe : DR2 := rdI0 fun i j => .bool (decide (j ≤ i))
theorem u_lt : Up2 X.K cLt (rI0 fun i j => .bl (decide (i < j))) := up_I0 fun _ _ _ => .bl _
theorem u_le : Up2 X.K cLe (rI0 fun i j => .bl (decide (i ≤ j))) := up_I0 fun _ _ _ => .bl _
theorem u_gt : Up2 X.K cGt (rI0 fun i j => .bl (decide (j < i))) := up_I0 fun _ _ _ => .bl _
theorem u_ge : Up2 X.K cGe (rI0 fun i j => .bl (decide (j ≤ i))) := up_I0 fun _ _ _ => .bl _
theorem d_lt (ha : DE X a ta) (hb : DE X b tb) : DE X (.Compare a [.Lt] [b] pos) (dOp cLt ta tb) := d_cmp op_lt u_lt ha hb (nomark _)
theorem d_le (ha : DE X a ta) (hb : DE X b tb) : DE X (.Compare a [.LtE] [b] pos) (dOp cLe ta tb) := d_cmp op_le u_le ha hb (nomark _)
theorem d_gt (ha : DE X a ta) (hb : DE X b tb) : DE X (.Compare a [.Gt] [b] pos) (dOp cGt ta tb) := d_cmp op_gt u_gt ha hb (nomark _)
theorem d_ge (ha : DE X a ta) (hb : DE X b tb) : DE X (.Compare a [.GtE] [b] pos) (dOp cGe ta tb) := d_cmp op_ge u_ge ha hb (nomark _)
/-- a < b < c -/
def dChain (r r' : DR2) (ta tb tc : DT) : DT := fun δ μ Q => ta δ μ fun x μ1 => tb δ μ1 fun y μ2 => r x y μ2 fun z μ3 => match z with
  | .d (.bool true) => tc δ μ3 fun w μ4 => r' y w μ4 Q
  | .d (.bool false) => Q (.d (.bool false)) μ3
  | _ => False
theorem d_chain {op op' : CmpOp} {rd rd' : DR2} {rv rv' : R2} (ho : OpR X (compareOp op) rv) (h : Up2 X.K rd rv) (ho' : OpR X (compareOp op') rv') (h' : Up2 X.K rd' rv') (ha : DE X a ta) (hb : DE X b tb) (hc : DE X c tc) (hm : lastMarks [op, op'] [b, c] = false := by with_unfolding_all rfl) :
    DE X (.Compare a [op, op'] [b, c] pos) (dChain rd rd' ta tb tc) := pe_imp (pe_chain ho ho' ha hb hc hm) fun σ H Q ⟨δ, μ, Qd, rs, rm, q, w⟩ =>
  up_use rs rm q fun x μ1 v H1 e1 m1 r1 q1 => up_use (rs.mono e1) m1 q1 fun y μ2 u H2 e2 m2 r2 q2 => h x y μ2 _ v u H2 _ m2 (r1.mono e2) r2 q2 fun z μ3 p H3 e3 m3 r3 q3 => by
    split at q3
    · cases r3
      exact ⟨true, rfl, by
        rw [if_pos rfl]
        exact up_use (rs.mono (e1.trans (e2.trans e3))) m3 q3 fun k μ4 w' H4 e4 m4 r4 q4 => h' y k μ4 Qd u w' H4 Q m4 (r2.mono (e3.trans e4)) r4 q4 (w.step (e1.trans (e2.trans (e3.trans e4))))⟩
    · cases r3
      refine ⟨false, rfl, ?_⟩
      rw [if_neg Bool.false_ne_true]
      exact w (.d (.bool false)) μ3 _ H3 (e1.trans (e2.trans e3)) m3 (Da.bl false) q3
    · exact q3.elim

/-! ### tests -/
def dB (t : DT) : DTT := fun δ μ Q => t δ μ fun x μ1 => match x with
  | .d (.bool b) => Q b μ1
  | _ => False
theorem c_val (h : DE X e te) (he : ∀ whole, isTrue e X.env whole = (do let v ← whole; standAt e.pos; holding [v] (truthy v)) := by intro _; rfl) : DC X e (dB te) := pt_imp (pt_val h he) fun σ H Q ⟨δ, μ, Qd, rs, rm, q, w⟩ => up_use rs rm q fun x μ1 v H1 e1 m1 r1 q1 => by
  split at q1
  · cases r1
    exact ⟨_, rfl, w _ μ1 H1 e1 m1 q1⟩
  · exact q1.elim
theorem c_cmp {op : CmpOp} {rd : DR2} {rv : R2} (ho : OpR X (compareOp op) rv) (h : Up2 X.K rd rv) (ha : DE X a ta) (hb : DE X b tb) (hm : behindInMarks op b = false) : DC X (.Compare a [op] [b] pos) (dB (dOp rd ta tb)) :=
  pt_imp (pt_cmpR ho ha hb hm) fun σ H Q ⟨δ, μ, Qd, rs, rm, q, w⟩ => up_op h σ H _ ⟨δ, μ, _, rs, rm, q, fun x μ1 v H1 e1 m1 r1 q1 => by
    split at q1
    · cases r1
      exact ⟨_, rfl, w _ μ1 H1 e1 m1 q1⟩
    · exact q1.elim⟩
variable {rest : List Expr}
variable {tA tB : DTT}
def dAnd (t u : DTT) : DTT := fun δ μ Q => t δ μ fun b μ1 => if b = true then u δ μ1 Q else Q false μ1
def dOr (t u : DTT) : DTT := fun δ μ Q => t δ μ fun b μ1 => if b = true then Q true μ1 else u δ μ1 Q
def dNot (t : DTT) : DTT := fun δ μ Q => t δ μ fun b μ1 => Q (!b) μ1
theorem cw_and1 (ha : DC X a tA) : DCW X (.BoolOp .And [a] pos) tA := pw_and1 ha
theorem cw_or1 (ha : DC X a tA) : DCW X (.BoolOp .Or [a] pos) tA := pw_or1 ha
theorem cw_and (ha : DC X a tA) (hb : DCW X (.BoolOp .And (b :: rest) pos) tB) : DCW X (.BoolOp .And (a :: b :: rest) pos) (dAnd tA tB) := pw_imp (pw_and ha hb) fun σ H Q ⟨δ, μ, Qd, rs, rm, q, w⟩ =>
  upT_use rs rm q fun c μ1 H1 e1 m1 q1 => by
    cases c with
    | true => rw [if_pos rfl] at q1 ⊢; exact upT_use (rs.mono e1) m1 q1 fun d μ2 H2 e2 m2 q2 => w d μ2 H2 (e1.trans e2) m2 q2
    | false => rw [if_neg Bool.false_ne_true] at q1 ⊢; exact w _ μ1 H1 e1 m1 q1
theorem cw_or (ha : DC X a tA) (hb : DCW X (.BoolOp .Or (b :: rest) pos) tB) : DCW X (.BoolOp .Or (a :: b :: rest) pos) (dOr tA tB) := pw_imp (pw_or ha hb) fun σ H Q ⟨δ, μ, Qd, rs, rm, q, w⟩ =>
  upT_use rs rm q fun c μ1 H1 e1 m1 q1 => by
    cases c with
    | true => rw [if_pos rfl] at q1 ⊢; exact w _ μ1 H1 e1 m1 q1
    | false => rw [if_neg Bool.false_ne_true] at q1 ⊢; exact upT_use (rs.mono e1) m1 q1 fun d μ2 H2 e2 m2 q2 => w d μ2 H2 (e1.trans e2) m2 q2
theorem c_w (h : DCW X e tA) : DC X e tA := h.pt
theorem c_not (ha : DC X a tA) : DC X (.UnaryOp .Not a pos) (dNot tA) := pt_imp (pt_not ha) fun σ H Q ⟨δ, μ, Qd, rs, rm, q, w⟩ =>
  upT_use rs rm q fun c μ1 H1 e1 m1 q1 => w _ μ1 H1 e1 m1 q1
/-- and, or, not as values (all True or False but the last) -/
def dAndV (ta tb : DT) : DT := fun δ μ Q => ta δ μ fun x μ1 => match x with
  | .d (.bool true) => tb δ μ1 Q
  | .d (.bool false) => Q (.d (.bool false)) μ1
  | _ => False
def dOrV (ta tb : DT) : DT := fun δ μ Q => ta δ μ fun x μ1 => match x with
  | .d (.bool true) => Q (.d (.bool true)) μ1
  | .d (.bool false) => tb δ μ1 Q
  | _ => False
def dNotV (ta : DT) : DT := fun δ μ Q => ta δ μ fun x μ1 => match x with
  | .d (.bool b) => Q (.d (.bool (!b))) μ1
  | _ => False
theorem d_one {op} (h : DE X a ta) : DE X (.BoolOp op [a] pos) ta := pe_one h
theorem d_and (ha : DE X a ta) (hb : DE X (.BoolOp .And (b :: rest) pos) tb) : DE X (.BoolOp .And (a :: b :: rest) pos) (dAndV ta tb) := pe_imp (pe_and ha hb) fun σ H Q ⟨δ, μ, Qd, rs, rm, q, w⟩ =>
  up_use rs rm q fun x μ1 v H1 e1 m1 r1 q1 => by
    split at q1
    · cases r1
      exact ⟨true, rfl, by rw [if_pos rfl]; exact up_use (rs.mono e1) m1 q1 (w.step e1)⟩
    · cases r1
      exact ⟨false, rfl, by rw [if_neg Bool.false_ne_true]; exact w (.d (.bool false)) μ1 _ H1 e1 m1 (Da.bl _) q1⟩
    · exact q1.elim
theorem d_or (ha : DE X a ta) (hb : DE X (.BoolOp .Or (b :: rest) pos) tb) : DE X (.BoolOp .Or (a :: b :: rest) pos) (dOrV ta tb) := pe_imp (pe_or ha hb) fun σ H Q ⟨δ, μ, Qd, rs, rm, q, w⟩ =>
  up_use rs rm q fun x μ1 v H1 e1 m1 r1 q1 => by
    split at q1
    · cases r1
      exact ⟨true, rfl, by rw [if_pos rfl]; exact w (.d (.bool true)) μ1 _ H1 e1 m1 (Da.bl _) q1⟩
    · cases r1
      exact ⟨false, rfl, by rw [if_neg Bool.false_ne_true]; exact up_use (rs.mono e1) m1 q1 (w.step e1)⟩
    · exact q1.elim
theorem d_not (ha : DE X a ta) : DE X (.UnaryOp .Not a pos) (dNotV ta) := pe_imp (pe_not ha) fun σ H Q ⟨δ, μ, Qd, rs, rm, q, w⟩ =>
  up_use rs rm q fun x μ1 v H1 e1 m1 r1 q1 => by
    split at q1
    · cases r1
      exact ⟨_, rfl, w (.d (.bool _)) μ1 _ H1 e1 m1 (Da.bl _) q1⟩
    · exact q1.elim
def dIf (t : DTT) (ta tb : DT) : DT := fun δ μ Q => t δ μ fun c μ1 => if c = true then ta δ μ1 Q else tb δ μ1 Q
theorem d_if (hc : DC X c tA) (ha : DE X a ta) (hb : DE X b tb) : DE X (.IfExp c a b pos) (dIf tA ta tb) := pe_imp (pe_ifExp hc ha hb) fun σ H Q ⟨δ, μ, Qd, rs, rm, q, w⟩ =>
  upT_use rs rm q fun x μ1 H1 e1 m1 q1 => by
    cases x with
    | true => rw [if_pos rfl] at q1 ⊢; exact up_use (rs.mono e1) m1 q1 (w.step e1)
    | false => rw [if_neg Bool.false_ne_true] at q1 ⊢; exact up_use (rs.mono e1) m1 q1 (w.step e1)
/-- is None -/
def isNone : PyData → Bool
  | .none => true
  | _ => false
def rdIsN : DR2 := fun x y μ Q => match x, y with
  | .d x, .d .none => Q (.d (.bool (isNone x))) μ
  | _, _ => False
def rdNotN : DR2 := fun x y μ Q => match x, y with
  | .d x, .d .none => Q (.d (.bool (!isNone x))) μ
  | _, _ => False

theorem u_isN {K : PySem.W.Frag} : Up2 K rdIsN (fun x y H Q => y = .non ∧ Q (.bl (decide (x = .non))) H) := fun x y μ Qd v u H Q m rx ry q w => by
  unfold rdIsN at q
  split at q
  · next x =>
    cases ry
    have e : decide (v = V.non) = isNone x := by cases rx <;> first | rfl | simp [isNone]
    rw [e]
    exact ⟨rfl, w (.d (.bool _)) μ _ H (.refl _ _) m (Da.bl _) q⟩
  · exact q.elim
theorem u_notN {K : PySem.W.Frag} : Up2 K rdNotN (fun x y H Q => y = .non ∧ Q (.bl (!decide (x = .non))) H) := fun x y μ Qd v u H Q m rx ry q w => by
  unfold rdNotN at q
  split at q
  · next x =>
    cases ry
    have e : decide (v = V.non) = isNone x := by cases rx <;> first | rfl | simp [isNone]
    rw [e]
    exact ⟨rfl, w (.d (.bool _)) μ _ H (.refl _ _) m (Da.bl _) q⟩
  · exact q.elim
theorem d_isN (ha : DE X a ta) (hb : DE X b tb) : DE X (.Compare a [.Is] [b] pos) (dOp rdIsN ta tb) := d_cmp op_isN u_isN ha hb (nomark _)
theorem d_notN (ha : DE X a ta) (hb : DE X b tb) : DE X (.Compare a [.IsNot] [b] pos) (dOp rdNotN ta tb) := d_cmp op_notN u_notN ha hb (nomark _)
theorem c_isN (ha : DE X a ta) (hb : DE X b tb) : DC X (.Compare a [.Is] [b] pos) (dB (dOp rdIsN ta tb)) := c_cmp op_isN u_isN ha hb (nomark _)
theorem c_notN (ha : DE X a ta) (hb : DE X b tb) : DC X (.Compare a [.IsNot] [b] pos) (dB (dOp rdNotN ta tb)) := c_cmp op_notN u_notN ha hb (nomark _)
theorem c_lt (ha : DE X a ta) (hb : DE X b tb) : DC X (.Compare a [.Lt] [b] pos) (dB (dOp cLt ta tb)) := c_cmp op_lt u_lt ha hb (nomark _)
theorem c_le (ha : DE X a ta) (hb : DE X b tb) : DC X (.Compare a [.LtE] [b] pos) (dB (dOp cLe ta tb)) := c_cmp op_le u_le ha hb (nomark _)
theorem c_gt (ha : DE X a ta) (hb : DE X b tb) : DC X (.Compare a [.Gt] [b] pos) (dB (dOp cGt ta tb)) := c_cmp op_gt u_gt ha hb (nomark _)
theorem c_ge (ha : DE X a ta) (hb : DE X b tb) : DC X (.Compare a [.GtE] [b] pos) (dB (dOp cGe ta tb)) := c_cmp op_ge u_ge ha hb (nomark _)

/-! ### argument lists, tuples, lists -/
def aNil : DTA := fun _ μ Q => Q [] μ
def aCons (ta : DT) (tr : DTA) : DTA := fun δ μ Q => ta δ μ fun x μ1 => tr δ μ1 fun xs μ2 => Q (x :: xs) μ2
variable {es : List Expr} {tr : DTA}
theorem a_nil : DA X [] aNil := pa_imp pa_nil fun σ H Q ⟨δ, μ, Qd, rs, rm, q, w⟩ => w [] μ [] H (.refl _ _) rm .nil q
theorem a_cons (ha : DE X e te) (hr : DA X es tr) (hs : starEach (e :: es) X.env = (false, eval e X.env) :: starEach es X.env := by rfl) : DA X (e :: es) (aCons te tr) :=
  pa_imp (pa_cons ha hr hs) fun σ H Q ⟨δ, μ, Qd, rs, rm, q, w⟩ => up_use rs rm q fun x μ1 v H1 e1 m1 r1 q1 => upA_use (rs.mono e1) m1 q1 fun xs μ2 vs H2 e2 m2 r2 q2 =>
    w (x :: xs) μ2 (v :: vs) H2 (e1.trans e2) m2 (.cons (r1.mono e2) r2) q2
/-- all data -/
def allD : List DV → Option (List PyData)
  | [] => some []
  | .d x :: r => (allD r).map (x :: ·)
  | .cell _ :: _ => none
theorem allD_da {K : PySem.W.Frag} {μ : Mu} {H : Hp} : ∀ {ds : List DV} {vs : List V} {xs : List PyData}, allD ds = some xs → RVs K μ H vs ds → DaAll K (hid μ H) vs xs
  | [], _, _, h, .nil => by cases h; exact .nil
  | .d x :: r, _, _, h, .cons a t => by
    simp only [allD, Option.map_eq_some_iff] at h
    obtain ⟨y, h1, rfl⟩ := h
    exact .cons a (allD_da h1 t)
  | .cell _ :: _, _, _, h, _ => by cases h
def dTup (t : DTA) : DT := fun δ μ Q => t δ μ fun ds μ1 => match allD ds with
  | some xs => xs.length ≤ 1000 ∧ Q (.d (.tuple xs)) μ1
  | none => False
def dLst (t : DTA) : DT := fun δ μ Q => t δ μ fun ds μ1 => match allD ds with
  | some xs => xs.length ≤ 1000 ∧ Q (.d (.list xs)) μ1
  | none => False
/-- a list that will be changed -/
def dLstC (t : DTA) : DT := fun δ μ Q => t δ μ fun ds μ1 => match allD ds with
  | some xs => xs.length ≤ 1000 ∧ ∀ p, μ1 p = none → Q (.cell p) (put μ1 p (.lst xs))
  | none => False
theorem small_line {n : Nat} (h : n ≤ 1000) : n ≤ sizeLine := Nat.le_of_lt (small1000 h)
/-- the wish behind a new object that is data -/
theorem wk_tup {K : PySem.W.Frag} {μ : Mu} {H : Hp} {Qd : DK} {Q : VK} {vs : List V} {xs : List PyData} (w : Wk K μ H Qd Q) (m : RM K μ H) (r : DaAll K (hid μ H) vs xs) (q : Qd (.d (.tuple xs)) μ) : NewT H vs Q := fun p o hp t =>
  w (.d (.tuple xs)) μ _ _ (ext_new hp) (m.new hp) (.tup (.inl ⟨o, hid_new m hp, t⟩) (r.mono (ext_new hp))) q
theorem wk_lst {K : PySem.W.Frag} {μ : Mu} {H : Hp} {Qd : DK} {Q : VK} {vs : List V} {xs : List PyData} (w : Wk K μ H Qd Q) (m : RM K μ H) (r : DaAll K (hid μ H) vs xs) (q : Qd (.d (.list xs)) μ) {p : Addr} (hp : H p = none) : Q (.ref p) (upd H p (.lst vs)) :=
  w (.d (.list xs)) μ _ _ (ext_new hp) (m.new hp) (.lst (.of (hid_new m hp)) (r.mono (ext_new hp))) q
theorem wk_lstC {K : PySem.W.Frag} {μ : Mu} {H : Hp} {Qd : DK} {Q : VK} {vs : List V} {xs : List PyData} (w : Wk K μ H Qd Q) (m : RM K μ H) (r : DaAll K (hid μ H) vs xs) {p : Addr} (hp : H p = none) (q : Qd (.cell p) (put μ p (.lst xs))) : Q (.ref p) (upd H p (.lst vs)) :=
  w (.cell p) (put μ p (.lst xs)) _ _ (ext_cell hp) (m.cell (c := .lst xs) hp ⟨vs, upd_same, r.mono (ext_cell hp)⟩) rfl q
theorem d_tup {x1} (h : DA X es tr) : DE X (.Tuple es x1 pos) (dTup tr) := pe_imp (pt_tup h) fun σ H Q ⟨δ, μ, Qd, rs, rm, q, w⟩ => upA_use rs rm q fun xs μ1 vs H1 e1 m1 r1 q1 => by
  split at q1
  · next ys e =>
    have r := allD_da e r1
    exact ⟨small_line (by rw [r.length]; exact q1.1), wk_tup (w.step e1) m1 r q1.2⟩
  · exact q1.elim
theorem d_lst (h : DA X es tr) : DE X (.List es pos) (dLst tr) := pe_imp (pe_lst h) fun σ H Q ⟨δ, μ, Qd, rs, rm, q, w⟩ => upA_use rs rm q fun xs μ1 vs H1 e1 m1 r1 q1 => by
  split at q1
  · next ys e =>
    have r := allD_da e r1
    exact ⟨small_line (by rw [r.length]; exact q1.1), fun p hp => wk_lst (w.step e1) m1 r q1.2 hp⟩
  · exact q1.elim
theorem d_lstC (h : DA X es tr) : DE X (.List es pos) (dLstC tr) := pe_imp (pe_lst h) fun σ H Q ⟨δ, μ, Qd, rs, rm, q, w⟩ => upA_use rs rm q fun xs μ1 vs H1 e1 m1 r1 q1 => by
  split at q1
  · next ys e =>
    have r := allD_da e r1
    exact ⟨small_line (by rw [r.length]; exact q1.1), fun p hp => wk_lstC (w.step e1) m1 r hp (q1.2 p (m1.free hp))⟩
  · exact q1.elim

/-! ### built-in functions -/
abbrev DRA := List DV → Mu → DK → Prop
def dCall (r : DRA) (t : DTA) : DT := fun δ μ Q => t δ μ fun ds μ1 => r ds μ1 Q
def UpA (K : PySem.W.Frag) (rd : DRA) (rv : List V → Hp → VK → Prop) : Prop := ∀ ds μ Qd vs H Q, RM K μ H → RVs K μ H vs ds → rd ds μ Qd → Wk K μ H Qd Q → rv vs H Q
variable {x : Str} {p : Pos} {id T : String} {rd : DRA} {rv : List V → Hp → VK → Prop}
theorem up_call (h : UpA X.K rd rv) : ∀ σ H Q, up X.K (dCall rd tr) σ H Q → tCB rv (upA X.K tr) σ H Q := fun σ H Q ⟨δ, μ, Qd, rs, rm, q, w⟩ =>
  upA_use rs rm q fun ds μ1 vs H1 e1 m1 r1 q1 => h ds μ1 Qd vs H1 Q m1 r1 q1 (w.step e1)
theorem d_callB (hc : CallR X (.builtin id) rv) (h : UpA X.K rd rv) (hg : Gl X x) (hm : X.mg x = none) (hv : bootBuiltins x = some (.builtin id)) (ha : DA X (e :: es) tr) (hn : x ≠ "__name__" := by decide) (hdb : (x == ("__debug__" : Str)) = false := by decide)
    (he : starEach (e :: es) X.env = (false, eval e X.env) :: starEach es X.env := by rfl) (hpl : (backTo pos (starEach es X.env)).any (·.1) = false := by rfl) : DE X (.Call (.Name x p) (e :: es) [] pos) (dCall rd tr) :=
  pe_imp (pe_callB hc hg hm hv ha hn hdb he hpl) (up_call h)
theorem d_callTy (hc : CallR X (.type T) rv) (h : UpA X.K rd rv) (hg : Gl X x) (hm : X.mg x = none) (hv : bootBuiltins x = some (.type T)) (ha : DA X (e :: es) tr) (hn : x ≠ "__name__" := by decide) (hdb : (x == ("__debug__" : Str)) = false := by decide)
    (he : starEach (e :: es) X.env = (false, eval e X.env) :: starEach es X.env := by rfl) (hpl : (backTo pos (starEach es X.env)).any (·.1) = false := by rfl) : DE X (.Call (.Name x p) (e :: es) [] pos) (dCall rd tr) :=
  pe_imp (pe_callTy hc hg hm hv ha hn hdb he hpl) (up_call h)
end
end DL

namespace DL
open PySem PySem.Spec PyProof.Rows L2
section
variable {X : Cx} {pos : Pos} {a b c e : Expr} {ta tb tc te : DT} {K : PySem.W.Frag}

/-! ### == of ints, bools, texts; of data -/
def rdEq : DR2 := fun x y μ Q => match x, y with
  | .d (.int i), .d (.int j) => Q (.d (.bool (decide (i = j)))) μ
  | .d (.str i), .d (.str j) => Q (.d (.bool (decide (i = j)))) μ
  | .d (.bool i), .d (.bool j) => Q (.d (.bool (decide (i = j)))) μ
  | _, _ => False
def rdNe : DR2 := fun x y μ Q => match x, y with
  | .d (.int i), .d (.int j) => Q (.d (.bool (!decide (i = j)))) μ
  | .d (.str i), .d (.str j) => Q (.d (.bool (!decide (i = j)))) μ
  | .d (.bool i), .d (.bool j) => Q (.d (.bool (!decide (i = j)))) μ
  | _, _ => False
theorem dec_str {i j : Str} : decide (V.str i = V.str j) = decide (i = j) := by
  rw [Bool.eq_iff_iff]; simp
theorem dec_int2 {i j : Int} : decide (V.int i = V.int j) = decide (i = j) := by
  rw [Bool.eq_iff_iff]; simp
theorem dec_bl2 {i j : Bool} : decide (V.bl i = V.bl j) = decide (i = j) := by
  rw [Bool.eq_iff_iff]; simp
theorem u_eq : Up2 K rdEq rEq := fun x y μ Qd v u H Q m rx ry q w => by
  unfold rdEq at q
  split at q
  · next i j =>
    cases rx; cases ry
    exact ⟨rfl, w (.d (.bool _)) μ _ H (.refl _ _) m (by rw [dec_int2]; exact Da.bl _) q⟩
  · next i j =>
    cases rx; cases ry
    exact ⟨rfl, w (.d (.bool _)) μ _ H (.refl _ _) m (by rw [dec_str]; exact Da.bl _) q⟩
  · next i j =>
    cases rx; cases ry
    exact ⟨rfl, w (.d (.bool _)) μ _ H (.refl _ _) m (by rw [dec_bl2]; exact Da.bl _) q⟩
  · exact q.elim
theorem u_ne : Up2 K rdNe rNe := fun x y μ Qd v u H Q m rx ry q w => by
  unfold rdNe at q
  split at q
  · next i j =>
    cases rx; cases ry
    exact ⟨rfl, w (.d (.bool _)) μ _ H (.refl _ _) m (by rw [dec_int2]; exact Da.bl _) q⟩
  · next i j =>
    cases rx; cases ry
    exact ⟨rfl, w (.d (.bool _)) μ _ H (.refl _ _) m (by rw [dec_str]; exact Da.bl _) q⟩
  · next i j =>
    cases rx; cases ry
    exact ⟨rfl, w (.d (.bool _)) μ _ H (.refl _ _) m (by rw [dec_bl2]; exact Da.bl _) q⟩
  · exact q.elim
theorem d_eq (ha : DE X a ta) (hb : DE X b tb) : DE X (.Compare a [.Eq] [b] pos) (dOp rdEq ta tb) := d_cmp op_eq u_eq ha hb (nomark _)
theorem d_ne (ha : DE X a ta) (hb : DE X b tb) : DE X (.Compare a [.NotEq] [b] pos) (dOp rdNe ta tb) := d_cmp op_ne u_ne ha hb (nomark _)
theorem c_eq (ha : DE X a ta) (hb : DE X b tb) : DC X (.Compare a [.Eq] [b] pos) (dB (dOp rdEq ta tb)) := c_cmp op_eq u_eq ha hb (nomark _)
theorem c_ne (ha : DE X a ta) (hb : DE X b tb) : DC X (.Compare a [.NotEq] [b] pos) (dB (dOp rdNe ta tb)) := c_cmp op_ne u_ne ha hb (nomark _)
mutual
theorem Da.dp {H : Hp} : ∀ {v : V} {d : PyData}, Da K H v d → d.canLay0 = true → Dp K H v d
  | _, _, .non, _ => .non
  | _, _, .bl b, _ => .bl b
  | _, _, .int i, _ => .int i
  | _, _, .str x, _ => .str x
  | _, _, .lst (ds := ds) h r, c => .lst h (DaAll.dp r (by simpa [PyData.canLay0] using c))
  | _, _, .tup (ds := ds) h r, c => .tup h.t (DaAll.dp r (by simpa [PyData.canLay0] using c))
  | _, _, .dct h r, c => by simp [PyData.canLay0] at c
theorem DaAll.dp {H : Hp} : ∀ {vs : List V} {ds : List PyData}, DaAll K H vs ds → PyData.canLayAll0 ds = true → DpAll K H vs ds
  | _, _, .nil, _ => .nil
  | _, _, .cons h t, c => by
    simp only [PyData.canLayAll0, Bool.and_eq_true] at c
    exact .cons (Da.dp h c.1) (DaAll.dp t c.2)
end
def rdEqD : DR2 := fun x y μ Q => match x, y with
  | .d i, .d j => SeqAt.shaped i = true ∧ SeqAt.shaped j = true ∧ Q (.d (.bool (PyData.eqv i j))) μ
  | _, _ => False
theorem u_eqD : Up2 K rdEqD (rEqD K) := fun x y μ Qd v u H Q m rx ry q w => by
  unfold rdEqD at q
  split at q
  · next i j =>
    exact ⟨i, j, ((Da.mono unhid rx).dp (SeqAt.canLay_of_shaped q.1)), ((Da.mono unhid ry).dp (SeqAt.canLay_of_shaped q.2.1)), q.1, q.2.1, w (.d (.bool _)) μ _ H (.refl _ _) m (Da.bl _) q.2.2⟩
  · exact q.elim

/-! ### in a list of ints -/
def intsOf : List PyData → Option (List Int)
  | [] => some []
  | .int i :: r => (intsOf r).map (i :: ·)
  | _ :: _ => none
theorem intsOf_map : ∀ (ns : List Int), intsOf (ns.map PyData.int) = some ns
  | [] => rfl
  | n :: ns => by simp [intsOf, intsOf_map ns]
theorem intsOf_some : ∀ {ds : List PyData} {ns : List Int}, intsOf ds = some ns → ds = ns.map PyData.int
  | [], _, h => by cases h; rfl
  | d :: ds, ns, h => by
    cases d <;> simp only [intsOf, Option.map_eq_some_iff, reduceCtorEq] at h
    obtain ⟨ms, h1, rfl⟩ := h
    rw [intsOf_some h1]; rfl
theorem inV_ints (i : Int) : ∀ (ns : List Int), inV (.int i) (ns.map V.int) = decide (i ∈ ns)
  | [] => by simp [inV]
  | n :: ns => by
    have ih := inV_ints i ns
    unfold inV at ih ⊢
    rw [List.map_cons, List.any_cons, ih]
    rw [Bool.eq_iff_iff]
    simp only [eqV, Bool.or_eq_true, beq_iff_eq, List.mem_cons, decide_eq_true_eq]
    exact ⟨fun h => h.elim (fun e => .inl e.symm) .inr, fun h => h.elim (fun e => .inl e.symm) .inr⟩
theorem flat_ints : ∀ (ns : List Int), (ns.map V.int).all flatV = true
  | [] => rfl
  | n :: ns => by rw [List.map_cons, List.all_cons, flat_ints ns]; rfl
/-- the items of a sequence -/
def seqOf (μ : Mu) : DV → Option (List PyData)
  | .d (.list xs) => some xs
  | .d (.tuple xs) => some xs
  | .cell a => match μ a with
    | some (.lst xs) => some xs
    | _ => none
  | _ => none
theorem seq_v {μ : Mu} {H : Hp} {x : DV} {v : V} {xs : List PyData} (m : RM K μ H) (r : RV K μ H v x) (h : seqOf μ x = some xs) : ∃ p vs, v = .ref p ∧ (SqL K H p vs ∨ SqT K H p vs) ∧ DaAll K (hid μ H) vs xs :=
  match x, r, h with
  | .d (.list ys), r, h => by
    cases h
    cases (show Da K (hid μ H) v (.list xs) from r) with
    | lst s t => exact ⟨_, _, rfl, .inl (unhid.seq s), t⟩
  | .d (.tuple ys), r, h => by
    cases h
    cases (show Da K (hid μ H) v (.tuple xs) from r) with
    | tup s t => exact ⟨_, _, rfl, .inr (same_seqT unhid s), t⟩
  | .cell a, r, h => by
    have h : (match μ a with
      | some (.lst xs) => some xs
      | _ => none) = some xs := h
    cases e : μ a with
    | none => rw [e] at h; cases h
    | some c =>
      cases c with
      | dct _ => rw [e] at h; cases h
      | lst ys =>
        rw [e] at h
        cases h
        obtain ⟨vs, h1, h2⟩ := m a _ e
        exact ⟨a, vs, r, .inl (.of h1), h2⟩
def rdIn : DR2 := fun x y μ Q => match x, (seqOf μ y).bind intsOf with
  | .d (.int i), some ns => Q (.d (.bool (decide (i ∈ ns)))) μ
  | _, _ => False
theorem u_in : Up2 K rdIn (rIn K false) := fun x y μ Qd v u H Q m rx ry q w => by
  unfold rdIn at q
  split at q
  · next i ns h =>
    cases rx
    rw [Option.bind_eq_some_iff] at h
    obtain ⟨ds, h1, h2⟩ := h
    obtain ⟨p, vs, rfl, hs, hd⟩ := seq_v m ry h1
    have e := intsOf_some h2
    subst e
    have e2 := hd.ints_inv
    subst e2
    refine ⟨p, _, rfl, hs, rfl, flat_ints ns, w (.d (.bool _)) μ _ H (.refl _ _) m ?_ q⟩
    rw [if_neg Bool.false_ne_true, inV_ints]
    exact Da.bl _
  · exact q.elim
theorem d_in (ha : DE X a ta) (hb : DE X b tb) (hm : behindInMarks .In b = false := by rfl) : DE X (.Compare a [.In] [b] pos) (dOp rdIn ta tb) := d_cmp op_in_seq u_in ha hb hm
theorem c_in (ha : DE X a ta) (hb : DE X b tb) (hm : behindInMarks .In b = false := by rfl) : DC X (.Compare a [.In] [b] pos) (dB (dOp rdIn ta tb)) := c_cmp op_in_seq u_in ha hb hm

/-! ### items, slices -/
def rdIx : DR2 := fun x y μ Q => match seqOf μ x, y with
  | some xs, .d (.int i) => match atI xs i with
    | some d => Q (.d d) μ
    | none => False
  | _, _ => False
theorem atI_da {H : Hp} {vs : List V} {ds : List PyData} (r : DaAll K H vs ds) {i : Int} {d : PyData} (h : atI ds i = some d) : ∃ v, atI vs i = some v ∧ Da K H v d := by
  unfold atI at h ⊢
  rw [Option.bind_eq_some_iff] at h
  obtain ⟨j, h1, h2⟩ := h
  obtain ⟨v, h3, h4⟩ := r.get h2
  exact ⟨v, by rw [r.length, h1]; exact h3, h4⟩
theorem u_ix : Up2 K rdIx (rIx K) := fun x y μ Qd v u H Q m rx ry q w => by
  unfold rdIx at q
  split at q
  · next xs i h =>
    cases ry
    obtain ⟨p, vs, rfl, hs, hd⟩ := seq_v m rx h
    split at q
    · next d e =>
      obtain ⟨z, h1, h2⟩ := atI_da hd e
      have q' := w (.d d) μ z H (.refl _ _) m h2 q
      rcases hs with hs | hs
      · exact .inl ⟨p, vs, i, z, rfl, rfl, hs, h1, q'⟩
      · exact .inr (.inl ⟨p, vs, i, z, rfl, rfl, hs, h1, q'⟩)
    · exact q.elim
  · exact q.elim
theorem d_item (ha : DE X a ta) (hb : DE X b tb) (hs : PlainIx b := by exact fun _ _ => rfl) : DE X (.Subscript a b pos) (dOp rdIx ta tb) := d_ix ix_seq u_ix ha hb hs
/-- an optional bound -/
def dNo : DTP := fun _ μ Q => Q none μ
def dPart (t : DT) : DTP := fun δ μ Q => t δ μ fun x μ1 => match x with
  | .d (.int i) => Q (some i) μ1
  | _ => False
abbrev TPo := L2.St → Hp → (Option Int → Hp → Prop) → Prop
def upP (K : PySem.W.Frag) (t : DTP) : TPo := fun σ H Q => ∃ δ μ Qd, RS K μ H σ δ ∧ RM K μ H ∧ t δ μ Qd ∧ ∀ o μ' H', Ext μ H μ' H' → RM K μ' H' → Qd o μ' → Q o H'
abbrev DPO (X : Cx) (o : Option Expr) (t : DTP) : Prop := PO X o (upP X.K t)
theorem po_imp {o : Option Expr} {t t' : TPo} (h : PO X o t) (w : ∀ σ H Q, t' σ H Q → t σ H Q) : PO X o t' := ⟨fun pins s σ H Q I q => h.run pins s σ H Q I (w _ _ _ q)⟩
theorem o_no : DPO X none dNo := po_imp po_none fun σ H Q ⟨δ, μ, Qd, rs, rm, q, w⟩ => w none μ H (.refl _ _) rm q
theorem o_some (h : DE X e te) : DPO X (some e) (dPart te) := po_imp (po_some h) fun σ H Q ⟨δ, μ, Qd, rs, rm, q, w⟩ => up_use rs rm q fun x μ1 v H1 e1 m1 r1 q1 => by
  split at q1
  · cases r1; exact ⟨_, rfl, w _ μ1 H1 e1 m1 q1⟩
  · exact q1.elim
end
end DL

namespace DL
open PySem PySem.Spec PyProof.Rows L2
section
variable {X : Cx} {pos : Pos} {a b c e : Expr} {ta tb tc te : DT} {K : PySem.W.Frag}

/-! ### slices -/
def cutD (xs : List PyData) (lo hi : Option Int) : List PyData := (xs.drop (HT.sIx xs.length 0 lo)).take (HT.sIx xs.length xs.length hi - HT.sIx xs.length 0 lo)
theorem cut_da {H : Hp} {vs : List V} {ds : List PyData} (r : DaAll K H vs ds) (lo hi : Option Int) : DaAll K H (cutV vs lo hi) (cutD ds lo hi) := by
  unfold cutV cutD
  rw [r.length]
  exact (r.drop _).take _
theorem cut_whole {H : Hp} {vs : List V} {ds : List PyData} (r : DaAll K H vs ds) {lo hi : Option Int} (h : HT.sIx vs.length 0 lo = 0 ∧ HT.sIx vs.length vs.length hi = vs.length) : cutD ds lo hi = ds := by
  rw [r.length] at h
  unfold cutD
  rw [h.1, h.2]
  simp
abbrev DRS := DV → Option Int → Option Int → Mu → DK → Prop
def dSl (te : DT) (tl th : DTP) : DT := fun δ μ Q => te δ μ fun x μ1 => tl δ μ1 fun l μ2 => th δ μ2 fun u μ3 => match x with
  | .d (.list xs) => Q (.d (.list (cutD xs l u))) μ3
  | .d (.tuple xs) => Q (.d (.tuple (cutD xs l u))) μ3
  | .cell a => match μ3 a with
    | some (.lst xs) => Q (.d (.list (cutD xs l u))) μ3
    | _ => False
  | _ => False
theorem d_slice {lo hi : Option Expr} {tl th : DTP} {p2 : Pos} (he : DE X e te) (hl : DPO X lo tl) (hu : DPO X hi th) : DE X (.Subscript e (.Slice lo hi none p2) pos) (dSl te tl th) :=
  pe_imp (pe_slice (SlR.or sl_list slP_tup) he hl hu) fun σ H Q ⟨δ, μ, Qd, rs, rm, q, w⟩ =>
    up_use rs rm q fun x μ1 v H1 e1 m1 r1 q1 => ⟨δ, μ1, _, rs.mono e1, m1, q1, fun l μ2 H2 e2 m2 q2 => ⟨δ, μ2, _, rs.mono (e1.trans e2), m2, q2, fun u μ3 H3 e3 m3 q3 => by
      have r3 := r1.mono (e2.trans e3)
      have w3 := w.step (e1.trans (e2.trans e3))
      have lst : ∀ {p : Addr} {vs : List V} {xs : List PyData}, SqL X.K H3 p vs → DaAll X.K (hid μ3 H3) vs xs → Qd (.d (.list (cutD xs l u))) μ3 → rSlL X.K (.ref p) l u H3 Q := fun {p vs xs} s t q => ⟨p, vs, rfl, s, fun p' hp => wk_lst w3 m3 (cut_da t l u) q hp⟩
      split at q3
      · next xs =>
        cases (show Da X.K (hid μ3 H3) v (.list xs) from r3) with
        | lst s t => exact .inl (lst (unhid.seq s) t q3)
      · next xs =>
        cases (show Da X.K (hid μ3 H3) v (.tuple xs) from r3) with
        | @tup p vs _ s t =>
          refine .inr ⟨p, vs, rfl, same_seqT unhid s, fun hw => ?_, fun _ => wk_tup w3 m3 (cut_da t l u) q3⟩
          rw [cut_whole t hw] at q3
          exact w3 (.d (.tuple xs)) μ3 _ H3 (.refl _ _) m3 (Da.tup s t) q3
      · next a =>
        split at q3
        · next xs e =>
          obtain ⟨vs, h1, h2⟩ := m3 a _ e
          cases (show v = .ref a from r3)
          exact .inl (lst (.of h1) h2 q3)
        · exact q3.elim
      · exact q3.elim⟩⟩

/-! ### t + u of tuples, of lists -/
def rdCat : DR2 := fun x y μ Q => match x, y with
  | .d (.tuple xs), .d (.tuple ys) => xs.length + ys.length ≤ 100000 ∧ Q (.d (.tuple (xs ++ ys))) μ
  | _, _ => False
theorem le_line {n : Nat} (h : n ≤ 100000) : n ≤ sizeLine := Nat.le_trans h (by decide)
theorem u_cat : Up2 K rdCat (rCatP K) := fun x y μ Qd v u H Q m rx ry q w => by
  unfold rdCat at q
  split at q
  · next xs ys =>
    cases (show Da K (hid μ H) v (.tuple xs) from rx) with
    | @tup a vs _ s t =>
      cases (show Da K (hid μ H) u (.tuple ys) from ry) with
      | @tup b ws _ s' t' =>
        have l1 := t.length
        have l2 := t'.length
        refine ⟨a, b, vs, ws, rfl, rfl, same_seqT unhid s, same_seqT unhid s', le_line (by omega), fun z => ?_, fun _ z => ?_, fun _ _ => wk_tup w m (t.append t') q.2⟩
        · subst z
          have : xs = [] := by cases t; rfl
          subst this
          exact w (.d (.tuple ([] ++ ys))) μ _ H (.refl _ _) m (.tup s' t') q.2
        · subst z
          have : ys = [] := by cases t'; rfl
          subst this
          have q2 := q.2
          rw [List.append_nil] at q2
          exact w (.d (.tuple xs)) μ _ H (.refl _ _) m (.tup s t) q2
  · exact q.elim
theorem d_cat (ha : DE X a ta) (hb : DE X b tb) : DE X (.BinOp a .Add b pos) (dOp rdCat ta tb) := d_op opP_cat u_cat ha hb

/-! ### built-in functions of one value -/
variable {es : List Expr} {tr : DTA}
def rdLen : DRA := fun ds μ Q => match ds with
  | [x] => match seqOf μ x with
    | some xs => Q (.d (.int xs.length)) μ
    | none => False
  | _ => False
theorem u_len : UpA K rdLen (fun xs H Q => ∃ p ys, xs = [.ref p] ∧ (SqL K H p ys ∨ SqT K H p ys) ∧ Q (.int ys.length) H) := fun ds μ Qd vs H Q m r q w => by
  unfold rdLen at q
  split at q
  · next x =>
    cases r with
    | cons r t =>
      cases t
      split at q
      · next xs e =>
        obtain ⟨p, ws, rfl, hs, hd⟩ := seq_v m r e
        refine ⟨p, ws, rfl, hs, ?_⟩
        rw [hd.length]
        exact w (.d (.int _)) μ _ H (.refl _ _) m (Da.int _) q
      · exact q.elim
  · exact q.elim
def rdTuple : DRA := fun ds μ Q => match ds with
  | [x] => match seqOf μ x with
    | some xs => Q (.d (.tuple xs)) μ
    | none => False
  | _ => False
theorem u_tuple : UpA K rdTuple (fun xs H Q => ∃ p ys, xs = [.ref p] ∧ ((SqL K H p ys ∧ NewT H ys Q) ∨ (SqT K H p ys ∧ Q (.ref p) H))) := fun ds μ Qd vs H Q m r q w => by
  unfold rdTuple at q
  split at q
  · next x =>
    cases r with
    | cons r t =>
      cases t
      split at q
      · next xs e =>
        unfold seqOf at e
        split at e
        · next ys =>
          cases e
          cases (show Da K (hid μ H) _ (.list xs) from r) with
          | lst s t => exact ⟨_, _, rfl, .inl ⟨unhid.seq s, wk_tup w m t q⟩⟩
        · next ys =>
          cases e
          cases (show Da K (hid μ H) _ (.tuple xs) from r) with
          | tup s t => exact ⟨_, _, rfl, .inr ⟨same_seqT unhid s, w (.d (.tuple xs)) μ _ H (.refl _ _) m (.tup s t) q⟩⟩
        · next a =>
          split at e
          · next ys e' =>
            cases e
            obtain ⟨vs, h1, h2⟩ := m a _ e'
            cases (show _ = V.ref a from r)
            exact ⟨a, vs, rfl, .inl ⟨.of h1, wk_tup w m h2 q⟩⟩
          · cases e
        · cases e
      · exact q.elim
  · exact q.elim
def rdList : DRA := fun ds μ Q => match ds with
  | [x] => match seqOf μ x with
    | some xs => Q (.d (.list xs)) μ
    | none => False
  | _ => False
theorem u_list : UpA K rdList (fun xs H Q => ∃ p ys, xs = [.ref p] ∧ (SqL K H p ys ∨ SqT K H p ys) ∧ ∀ l, H l = none → Q (.ref l) (upd H l (.lst ys))) := fun ds μ Qd vs H Q m r q w => by
  unfold rdList at q
  split at q
  · next x =>
    cases r with
    | cons r t =>
      cases t
      split at q
      · next xs e =>
        obtain ⟨p, ws, rfl, hs, hd⟩ := seq_v m r e
        exact ⟨p, ws, rfl, hs, fun l hl => wk_lst w m hd q hl⟩
      · exact q.elim
  · exact q.elim
/-- ints of a list, for sum -/
def rdSum : DRA := fun ds μ Q => match ds with
  | [.d (.list xs)] => match intsOf xs with
    | some ns => Q (.d (.int ns.sum)) μ
    | none => False
  | _ => False
theorem u_sum : UpA K rdSum (rSum K) := fun ds μ Qd vs H Q m r q w => by
  unfold rdSum at q
  split at q
  · next xs =>
    cases r with
    | cons r t =>
      cases t
      split at q
      · next ns e =>
        have e := intsOf_some e
        subst e
        cases (show Da K (hid μ H) _ (.list _) from r) with
        | @lst a ws _ s t =>
          have := t.ints_inv
          subst this
          exact ⟨a, ns, rfl, unhid.seq s, w (.d (.int _)) μ _ H (.refl _ _) m (Da.int _) q⟩
      · exact q.elim
  · exact q.elim
def boolsOf : List PyData → Option (List Bool)
  | [] => some []
  | .bool i :: r => (boolsOf r).map (i :: ·)
  | _ :: _ => none
theorem boolsOf_map : ∀ (ns : List Bool), boolsOf (ns.map PyData.bool) = some ns
  | [] => rfl
  | n :: ns => by simp [boolsOf, boolsOf_map ns]
theorem boolsOf_some : ∀ {ds : List PyData} {ns : List Bool}, boolsOf ds = some ns → ds = ns.map PyData.bool
  | [], _, h => by cases h; rfl
  | d :: ds, ns, h => by
    cases d <;> simp only [boolsOf, Option.map_eq_some_iff, reduceCtorEq] at h
    obtain ⟨ms, h1, rfl⟩ := h
    rw [boolsOf_some h1]; rfl
theorem bools_inv {H : Hp} : ∀ {ns : List Bool} {vs : List V}, DaAll K H vs (ns.map PyData.bool) → vs = ns.map V.bl
  | [], _, h => by cases h; rfl
  | n :: ns, _, h => by
    cases h with
    | cons a t => cases a; rw [bools_inv t]; rfl
def rdAll : DRA := fun ds μ Q => match ds with
  | [.d (.list xs)] => match boolsOf xs with
    | some bs => Q (.d (.bool (bs.all id))) μ
    | none => False
  | _ => False
def rdAny : DRA := fun ds μ Q => match ds with
  | [.d (.list xs)] => match boolsOf xs with
    | some bs => Q (.d (.bool (bs.any id))) μ
    | none => False
  | _ => False
theorem u_all : UpA K rdAll (rAll K) := fun ds μ Qd vs H Q m r q w => by
  unfold rdAll at q
  split at q
  · next xs =>
    cases r with
    | cons r t =>
      cases t
      split at q
      · next ns e =>
        have e := boolsOf_some e
        subst e
        cases (show Da K (hid μ H) _ (.list _) from r) with
        | @lst a ws _ s t =>
          have := bools_inv t
          subst this
          exact ⟨a, ns, rfl, unhid.seq s, w (.d (.bool _)) μ _ H (.refl _ _) m (Da.bl _) q⟩
      · exact q.elim
  · exact q.elim
theorem u_any : UpA K rdAny (rAny K) := fun ds μ Qd vs H Q m r q w => by
  unfold rdAny at q
  split at q
  · next xs =>
    cases r with
    | cons r t =>
      cases t
      split at q
      · next ns e =>
        have e := boolsOf_some e
        subst e
        cases (show Da K (hid μ H) _ (.list _) from r) with
        | @lst a ws _ s t =>
          have := bools_inv t
          subst this
          exact ⟨a, ns, rfl, unhid.seq s, w (.d (.bool _)) μ _ H (.refl _ _) m (Da.bl _) q⟩
      · exact q.elim
  · exact q.elim
def rdAbs : DRA := fun ds μ Q => match ds with
  | [.d (.int i)] => Q (.d (.int (if i < 0 then -i else i))) μ
  | _ => False
theorem u_abs : UpA K rdAbs (fun xs H Q => ∃ i, xs = [.int i] ∧ Q (.int (if i < 0 then -i else i)) H) := fun ds μ Qd vs H Q m r q w => by
  unfold rdAbs at q
  split at q
  · cases r with
    | cons r t => cases t; cases r; exact ⟨_, rfl, w (.d (.int _)) μ _ H (.refl _ _) m (Da.int _) q⟩
  · exact q.elim
def rdMax2 : DRA := fun ds μ Q => match ds with
  | [.d (.int i), .d (.int j)] => Q (.d (.int (if j > i then j else i))) μ
  | _ => False
theorem u_max2 : UpA K rdMax2 (fun xs H Q => ∃ i j, xs = [.int i, .int j] ∧ Q (.int (if j > i then j else i)) H) := fun ds μ Qd vs H Q m r q w => by
  unfold rdMax2 at q
  split at q
  · cases r with
    | cons r t =>
      cases t with
      | cons r' t => cases t; cases r; cases r'; exact ⟨_, _, rfl, w (.d (.int _)) μ _ H (.refl _ _) m (Da.int _) q⟩
  · exact q.elim
def rdMin2 : DRA := fun ds μ Q => match ds with
  | [.d (.int i), .d (.int j)] => Q (.d (.int (if j < i then j else i))) μ
  | _ => False
theorem u_min2 : UpA K rdMin2 (fun xs H Q => ∃ i j, xs = [.int i, .int j] ∧ Q (.int (if j < i then j else i)) H) := fun ds μ Qd vs H Q m r q w => by
  unfold rdMin2 at q
  split at q
  · cases r with
    | cons r t =>
      cases t with
      | cons r' t => cases t; cases r; cases r'; exact ⟨_, _, rfl, w (.d (.int _)) μ _ H (.refl _ _) m (Da.int _) q⟩
  · exact q.elim
def rdInt : DRA := fun ds μ Q => match ds with
  | [.d (.int i)] => Q (.d (.int i)) μ
  | [.d (.bool k)] => Q (.d (.int (if k then 1 else 0))) μ
  | _ => False
theorem u_int : UpA K rdInt (fun xs H Q => (∃ i, xs = [.int i] ∧ Q (.int i) H) ∨ ∃ k, xs = [.bl k] ∧ Q (.int (if k then 1 else 0)) H) := fun ds μ Qd vs H Q m r q w => by
  unfold rdInt at q
  split at q
  · cases r with
    | cons r t => cases t; cases r; exact .inl ⟨_, rfl, w (.d (.int _)) μ _ H (.refl _ _) m (Da.int _) q⟩
  · cases r with
    | cons r t => cases t; cases r; exact .inr ⟨_, rfl, w (.d (.int _)) μ _ H (.refl _ _) m (Da.int _) q⟩
  · exact q.elim
def rdStr : DRA := fun ds μ Q => match ds with
  | [.d (.int i)] => i.natAbs.log2 < 1920 ∧ Q (.d (.str (toString i))) μ
  | _ => False
theorem u_str : UpA K rdStr (fun xs H Q => ∃ i, xs = [.int i] ∧ i.natAbs.log2 < 1920 ∧ Q (.str (toString i)) H) := fun ds μ Qd vs H Q m r q w => by
  unfold rdStr at q
  split at q
  · cases r with
    | cons r t => cases t; cases r; exact ⟨_, rfl, q.1, w (.d (.str _)) μ _ H (.refl _ _) m (Da.str _) q.2⟩
  · exact q.elim

/-! ### isinstance of a built-in class -/
def kindOf : PyData → String
  | .none => "NoneType"
  | .bool _ => "bool"
  | .int _ => "int"
  | .str _ => "str"
  | .list _ => "list"
  | .tuple _ => "tuple"
  | .dict _ => "dict"
theorem da_ty {H : Hp} {v : V} {d : PyData} (r : Da K H v d) : TyX K H v (.type (kindOf d)) := by
  cases r with
  | non => exact .base .non
  | bl b => exact .base (.bl b)
  | int i => exact .base (.int i)
  | str x => exact .base (.str x)
  | lst s t =>
    rcases s with (s | ⟨o, s⟩) | ⟨o, _, _, h1, h2, _⟩
    · exact .base (.lst s)
    · exact .base (.frz s)
    · exact .kList h1 h2
  | tup s t =>
    rcases s with ⟨o, s, _⟩ | ⟨o, _, _, h1, h2, _⟩
    · exact .fTuple s
    · exact .kTuple h1 h2.cl
  | dct s t => exact .base (.dK s)
def dIsi (T : String) (te : DT) : DT := fun δ μ Q => te δ μ fun x μ1 => match x with
  | .d d => Q (.d (.bool ((kitB (kindOf d) T).getD false))) μ1
  | _ => False
theorem kit_all (T : String) (hT : ∀ t ∈ ["NoneType", "bool", "int", "str", "list", "tuple", "dict"], (kitB t T).isSome = true) (d : PyData) : PySem.W.kitOne K (.type (kindOf d)) (.type T) = some ((kitB (kindOf d) T).getD false) := by
  refine kit_ty ?_
  have h : (kitB (kindOf d) T).isSome = true := hT _ (by cases d <;> simp [kindOf])
  cases e : kitB (kindOf d) T with
  | none => rw [e] at h; cases h
  | some b => rfl
theorem d_isi {T : String} {xi xt : Str} {p pt : Pos} (hT : ∀ t ∈ ["NoneType", "bool", "int", "str", "list", "tuple", "dict"], (kitB t T).isSome = true) (hg : Gl X xi) (hm : X.mg xi = none) (hv : bootBuiltins xi = some (.builtin "isinstance"))
    (hgt : Gl X xt) (hmt : X.mg xt = none) (hvt : bootBuiltins xt = some (.type T)) (ha : DE X a ta) (hn : xi ≠ "__name__" := by decide) (hdb : (xi == ("__debug__" : Str)) = false := by decide) (hnt : xt ≠ "__name__" := by decide) (hdbt : (xt == ("__debug__" : Str)) = false := by decide)
    (he : starEach [a, .Name xt pt] X.env = (false, eval a X.env) :: starEach [.Name xt pt] X.env := by rfl) (hpl : (backTo pos (starEach [.Name xt pt] X.env)).any (·.1) = false := by rfl) (hs1 : starEach [.Name xt pt] X.env = (false, eval (.Name xt pt) X.env) :: starEach [] X.env := by rfl) :
    DE X (.Call (.Name xi p) [a, .Name xt pt] [] pos) (dIsi T ta) :=
  pe_imp (pe_callB call_isi hg hm hv (pa_cons ha (pa_cons (pe_bltn (v := .ty T) hgt hmt hvt rfl hnt hdbt) pa_nil hs1) he) hn hdb he hpl) fun σ H Q ⟨δ, μ, Qd, rs, rm, q, w⟩ =>
    up_use rs rm q fun x μ1 v H1 e1 m1 r1 q1 => by
      split at q1
      · next d =>
        exact ⟨v, .ty T, .type (kindOf d), .type T, _, rfl, .ty T, da_ty (Da.mono unhid r1), kit_all T hT d, w (.d (.bool _)) μ1 _ H1 e1 m1 (Da.bl _) q1⟩
      · exact q1.elim
end
end DL

namespace DL
open PySem PySem.Spec PyProof.Rows L2

mutual
def noList : PyData → Bool
  | .list _ => false
  | .tuple xs => noListAll xs
  | .dict kvs => noListKv kvs
  | _ => true
def noListAll : List PyData → Bool
  | [] => true
  | x :: xs => noList x && noListAll xs
def noListKv : List (PyData × PyData) → Bool
  | [] => true
  | (_, v) :: r => noList v && noListKv r
end
theorem noListKv_vals : ∀ (ks : List PyData) (ds : List PyData), ks.length = ds.length → noListKv (ks.zip ds) = true → noListAll ds = true
  | [], [], _, _ => by simp [noListAll]
  | k :: ks, d :: ds, hl, h => by
    simp only [List.zip_cons_cons, noListKv, Bool.and_eq_true] at h
    simp only [noListAll, Bool.and_eq_true]
    exact ⟨h.1, noListKv_vals ks ds (by simpa using hl) h.2⟩
  | [], _ :: _, hl, _ => by simp at hl
  | _ :: _, [], hl, _ => by simp at hl
theorem mix_keys {P : Program} {w : World} {k : Key} {v : Value} (h : (mixKind P w).is k v = true) : RelV (kV k) v := by
  rcases keyIs_shape h with ⟨i, t, rfl, rfl⟩ | ⟨x, t, rfl, rfl⟩
  · exact ⟨t, rfl⟩
  · exact ⟨t, rfl⟩
theorem reads_key {h : Heap} {k : Key} {v : Value} (r : RelV (kV k) v) : Reads h v (kD k) [] := by
  cases k with
  | inl i => obtain ⟨t, rfl⟩ := r; exact .int i t
  | inr x => obtain ⟨t, rfl⟩ := r; exact .str x t
theorem pairs_keys {P : Program} {w : World} {h : Heap} : ∀ {es : List DictEntry} {kvs : List (Key × Value)}, Pairs (mixKind P w) es kvs → ReadsAll h (es.map (·.key)) (kvs.map fun p => kD p.1) []
  | _, _, .nil => .nil
  | _, _, .cons a b t => ReadsAll.cons (as := []) (bs := []) (reads_key (mix_keys a)) (pairs_keys t)
theorem pairs_vals {P : Program} {w : World} : ∀ {es : List DictEntry} {kvs : List (Key × Value)}, Pairs (mixKind P w) es kvs → es.map (·.val) = kvs.map (·.2)
  | _, _, .nil => rfl
  | _, _, .cons a b t => by rw [List.map_cons, List.map_cons, b, pairs_vals t]
theorem kv_parts : ∀ {ks : List (Key × V)} {vs : List (Key × Value)}, KV ks vs → ks.map (·.1) = vs.map (·.1) ∧ Vals (ks.map (·.2)) (vs.map (·.2))
  | _, _, .nil => ⟨rfl, .nil⟩
  | _, _, .cons a t => by
    obtain ⟨h1, h2⟩ := kv_parts t
    exact ⟨by rw [List.map_cons, List.map_cons, h1, a.1], .cons a.2 h2⟩
section
variable {X : Cx} {pins : List (Addr × Obj)} {σ : L2.St} {H : Hp} {s : Shared}
mutual
theorem Da.reads (I : Inv X pins σ H s) : ∀ {v : V} {d : PyData}, Da X.K H v d → ∀ (u : Value), RelV v u → ∃ as, Reads s.heap u d as ∧ (noList d = true → sysModules ∉ as)
  | _, _, .non, _, r => by
    cases r
    exact ⟨_, .none, fun _ => by simp⟩
  | _, _, .bl b, _, r => by
    cases r
    exact ⟨_, .bool b, fun _ => by simp⟩
  | _, _, .int i, _, r => by
    obtain ⟨t, rfl⟩ := r
    exact ⟨_, .int i t, fun _ => by simp⟩
  | _, _, .str x, _, r => by
    obtain ⟨t, rfl⟩ := r
    exact ⟨_, .str x t, fun _ => by simp⟩
  | _, _, .lst hs ha, _, r => by
    cases r
    obtain ⟨its, rv, ⟨o, n, ho, hc, _, hd⟩, _⟩ := I.list hs
    obtain ⟨as, hr, _⟩ := DaAll.reads I ha its rv
    exact ⟨_, .list ho hc hd hr, fun z => by simp [noList] at z⟩
  | _, _, .tup hs ha, _, r => by
    cases r
    obtain ⟨its, rv, ⟨o, ho, hc, n, hd⟩, _⟩ := I.tuple hs.t
    obtain ⟨as, hr, hm⟩ := DaAll.reads I ha its rv
    exact ⟨_, .tuple ho hc hd hr, fun z => hm (by simpa only [noList] using z)⟩
  | _, _, .dct (a := a) (kvs := ks) (ds := ds) he ha, _, r => by
    cases r
    obtain ⟨_, hz, vs, rel, o, es, ep, ho, hx, hd, hko, hp, hnd⟩ := I.hok a _ he
    obtain ⟨e1, e2⟩ := kv_parts rel
    obtain ⟨as, hr, hm⟩ := DaAll.reads I ha (vs.map (·.2)) e2
    have lk : (ks.map fun p => kD p.1).length = ds.length := by rw [List.length_map, ← ha.length, List.length_map]
    have f1 : ((ks.map fun p => kD p.1).zip ds).map (·.1) = ks.map fun p => kD p.1 := by rw [List.map_fst_zip]; omega
    have f2 : ((ks.map fun p => kD p.1).zip ds).map (·.2) = ds := by rw [List.map_snd_zip]; omega
    have kk : (ks.map fun p => kD p.1) = vs.map fun p => kD p.1 := by
      have e := congrArg (List.map kD) e1
      simpa [List.map_map, Function.comp_def] using e
    refine ⟨a :: [] ++ as, .dict ho hx.1 hd (by rw [f1, kk]; exact pairs_keys hp) (by rw [f2, pairs_vals hp]; exact hr), fun z => ?_⟩
    have z2 := hm (noListKv_vals _ _ lk (by simpa only [noList] using z))
    intro hmem
    rcases List.mem_cons.mp hmem with e | e
    · rw [← e] at hz; simp at hz
    · exact z2 e
theorem DaAll.reads (I : Inv X pins σ H s) : ∀ {vs : List V} {ds : List PyData}, DaAll X.K H vs ds → ∀ (us : List Value), Vals vs us → ∃ as, ReadsAll s.heap us ds as ∧ (noListAll ds = true → sysModules ∉ as)
  | _, _, .nil, _, r => by
    cases r
    exact ⟨_, .nil, fun _ => by simp⟩
  | _, _, .cons h1 h2, _, r => by
    cases r with
    | cons r1 r2 =>
      obtain ⟨as, q1, m1⟩ := Da.reads I h1 _ r1
      obtain ⟨bs, q2, m2⟩ := DaAll.reads I h2 _ r2
      refine ⟨_, .cons q1 q2, fun z => ?_⟩
      simp only [noListAll, Bool.and_eq_true] at z
      intro hm
      rcases List.mem_append.mp hm with e | e
      · exact m1 z.1 e
      · exact m2 z.2 e
end

/-- what repr asks -/
structure Show (d : PyData) : Prop where
  sh : d.showable = true
  sz : d.shown.length ≤ sizeLine
  dp : d.depth ≤ 60
  mx : d.hasDict = true → noList d = true
def rdRepr : DRA := fun ds μ Q => match ds with
  | [.d d] => Show d ∧ Q (.d (.str d.shown)) μ
  | _ => False
def rRepr (K : PySem.W.Frag) : List V → Hp → VK → Prop := fun xs H Q => ∃ x d, xs = [x] ∧ Da K H x d ∧ Show d ∧ Q (.str d.shown) H
theorem call_repr (hg : X.A.guards = some []) (hu : X.A.units + 64 < cLine) : CallR X (.builtin "repr") (rRepr X.K) := by
  intro pins s σ H xs us Q I r h
  obtain ⟨x, d, rfl, hd, S, q⟩ := h
  obtain ⟨u, rfl, ru⟩ := vals1 r
  have Sd := S.dp
  cases hd with
  | non => cases ru; exact PySem.P.repr_of_none ⟨.str _, H, I.tok _, ⟨_, rfl⟩, q⟩
  | bl b => cases ru; exact PySem.P.repr_of_bool ⟨.str _, H, I.tok _, ⟨_, rfl⟩, by simpa only [PyData.shown] using q⟩
  | int i =>
    obtain ⟨t, rfl⟩ := ru
    exact PySem.P.repr_of_int (by have z := S.sh; simpa [PyData.showable] using z) ⟨.str _, H, I.tok _, ⟨_, rfl⟩, q⟩
  | str y =>
    obtain ⟨t, rfl⟩ := ru
    exact PySem.P.repr_of_str ⟨.str _, H, I.tok _, ⟨_, rfl⟩, q⟩ (by have z := S.sz; simpa only [PyData.shown] using z)
  | lst s t =>
    cases ru
    obtain ⟨as, hr, hm⟩ := Da.reads I (Da.lst s t) _ rfl
    exact repr_of_reads' hr S.sh (fun z => hm (S.mx z)) hg (by omega) (fun _ _ e => e) (fun h' u tk hk => ⟨.str _, H, I.kept hk, ⟨_, rfl⟩, q⟩) S.sz
  | tup s t =>
    cases ru
    obtain ⟨as, hr, hm⟩ := Da.reads I (Da.tup s t) _ rfl
    exact repr_of_reads' hr S.sh (fun z => hm (S.mx z)) hg (by omega) (fun _ _ e => e) (fun h' u tk hk => ⟨.str _, H, I.kept hk, ⟨_, rfl⟩, q⟩) S.sz
  | dct s t =>
    cases ru
    obtain ⟨as, hr, hm⟩ := Da.reads I (Da.dct s t) _ rfl
    exact repr_of_reads' hr S.sh (fun z => hm (S.mx z)) hg (by omega) (fun _ _ e => e) (fun h' u tk hk => ⟨.str _, H, I.kept hk, ⟨_, rfl⟩, q⟩) S.sz
theorem u_repr {K : PySem.W.Frag} : UpA K rdRepr (rRepr K) := fun ds μ Qd vs H Q m r q w => by
  unfold rdRepr at q
  split at q
  · next d =>
    cases r with
    | cons r t =>
      cases t
      exact ⟨_, d, rfl, Da.mono unhid r, q.1, w (.d (.str _)) μ _ H (.refl _ _) m (Da.str _) q.2⟩
  · exact q.elim
end
end DL

namespace DL
open PySem PySem.Spec PyProof.Rows L2

/-! ### statements -/
structure EndsOk (K : PySem.W.Frag) (μ : Mu) (H : Hp) (Dd : DEnds) (D : Ends) : Prop where
  nx : ∀ δ' μ' σ' H', Ext μ H μ' H' → RM K μ' H' → RS K μ' H' σ' δ' → Dd.nx δ' μ' → D.nx σ' H'
  rt : Wk K μ H Dd.rt D.rt
  bk : ∀ δ' μ' σ' H', Ext μ H μ' H' → RM K μ' H' → RS K μ' H' σ' δ' → Dd.bk δ' μ' → D.bk σ' H'
  ct : ∀ δ' μ' σ' H', Ext μ H μ' H' → RM K μ' H' → RS K μ' H' σ' δ' → Dd.ct δ' μ' → D.ct σ' H'
theorem EndsOk.step {K : PySem.W.Frag} {μ μ1 : Mu} {H H1 : Hp} {Dd : DEnds} {D : Ends} (h : EndsOk K μ H Dd D) (e : Ext μ H μ1 H1) : EndsOk K μ1 H1 Dd D :=
  ⟨fun δ' μ' σ' H' x => h.nx δ' μ' σ' H' (e.trans x), h.rt.step e, fun δ' μ' σ' H' x => h.bk δ' μ' σ' H' (e.trans x), fun δ' μ' σ' H' x => h.ct δ' μ' σ' H' (e.trans x)⟩
def upS (K : PySem.W.Frag) (t : DTS) : TS := fun D σ H => ∃ δ μ Dd, RS K μ H σ δ ∧ RM K μ H ∧ t Dd δ μ ∧ EndsOk K μ H Dd D
abbrev DS (X : Cx) (st : Stmt) (t : DTS) : Prop := PS X st (upS X.K t)
abbrev DSs (X : Cx) (st : List Stmt) (t : DTS) : Prop := PSs X st (upS X.K t)
def upG (b : Bool) (K : PySem.W.Frag) (g : DTG) : TG := fun v σ H Q => ∃ δ μ d Qd, RS K μ H σ δ ∧ RM K μ H ∧ RVb b K μ H v d ∧ g d δ μ Qd ∧ ∀ δ' μ' σ' H', Ext μ H μ' H' → RM K μ' H' → RS K μ' H' σ' δ' → Qd δ' μ' → Q σ' H'
abbrev DG (b : Bool) (X : Cx) (tg : Expr) (g : DTG) : Prop := PG X tg (upG b X.K g)
theorem pg_imp {X : Cx} {e : Expr} {t t' : TG} (h : PG X e t) (w : ∀ v σ H Q, t' v σ H Q → t v σ H Q) : PG X e t' := ⟨fun pins s σ H v u Q I r q => h.run pins s σ H v u Q I r (w _ _ _ _ q)⟩
section
variable {X : Cx} {pos : Pos} {a b c e : Expr} {ta tb tc te : DT} {K : PySem.W.Frag} {st : Stmt} {rest : List Stmt} {t u : DTS}
def sNext : DTS := fun D δ μ => D.nx δ μ
def sSeq (t u : DTS) : DTS := fun D δ μ => t { D with nx := u D } δ μ
theorem s_nil : DSs X [] sNext := pss_imp pss_nil fun D σ H ⟨δ, μ, Dd, rs, rm, q, w⟩ => w.nx δ μ σ H (.refl _ _) rm rs q
theorem s_cons (h1 : DS X st t) (h2 : DSs X rest u) : DSs X (st :: rest) (sSeq t u) := pss_imp (pss_cons h1 h2) fun D σ H ⟨δ, μ, Dd, rs, rm, q, w⟩ =>
  ⟨δ, μ, _, rs, rm, q, ⟨fun δ' μ' σ' H' e m r z => ⟨δ', μ', Dd, r, m, z, w.step e⟩, w.rt, w.bk, w.ct⟩⟩
theorem s_one (h1 : DS X st t) : DSs X [st] t := pss_one h1
theorem s_pass : DS X (.Pass pos) sNext := ps_imp ps_pass fun D σ H ⟨δ, μ, Dd, rs, rm, q, w⟩ => w.nx δ μ σ H (.refl _ _) rm rs q
def sBreak : DTS := fun D δ μ => D.bk δ μ
def sCont : DTS := fun D δ μ => D.ct δ μ
theorem s_break : DS X (.Break pos) sBreak := ps_imp ps_break fun D σ H ⟨δ, μ, Dd, rs, rm, q, w⟩ => w.bk δ μ σ H (.refl _ _) rm rs q
theorem s_continue : DS X (.Continue pos) sCont := ps_imp ps_continue fun D σ H ⟨δ, μ, Dd, rs, rm, q, w⟩ => w.ct δ μ σ H (.refl _ _) rm rs q
def sRet (te : DT) : DTS := fun D δ μ => te δ μ D.rt
theorem s_ret (he : DE X e te) : DS X (.Return (some e) pos) (sRet te) := ps_imp (ps_ret he) fun D σ H ⟨δ, μ, Dd, rs, rm, q, w⟩ => up_use rs rm q w.rt
def sDrop (te : DT) : DTS := fun D δ μ => te δ μ fun _ μ1 => D.nx δ μ1
theorem s_expr (he : DE X e te) (hs : swapsWith e none pos.line X.env = pure false := by rfl) : DS X (.Expr e pos) (sDrop te) := ps_imp (ps_expr he hs) fun D σ H ⟨δ, μ, Dd, rs, rm, q, w⟩ =>
  up_use rs rm q fun x μ1 v H1 e1 m1 r1 q1 => w.nx δ μ1 σ H1 e1 m1 (rs.mono e1) q1
def sIf (c : DTT) (t u : DTS) : DTS := fun D δ μ => c δ μ fun b μ1 => if b = true then t D δ μ1 else u D δ μ1
theorem s_if {tC : DTT} {as bs : List Stmt} (hc : DC X c tC) (ha : DSs X as t) (hb : DSs X bs u) : DS X (.If c as bs pos) (sIf tC t u) := ps_imp (ps_if hc ha hb) fun D σ H ⟨δ, μ, Dd, rs, rm, q, w⟩ =>
  upT_use rs rm q fun k μ1 H1 e1 m1 q1 => by
    cases k with
    | true => rw [if_pos rfl] at q1 ⊢; exact ⟨δ, μ1, Dd, rs.mono e1, m1, q1, w.step e1⟩
    | false => rw [if_neg Bool.false_ne_true] at q1 ⊢; exact ⟨δ, μ1, Dd, rs.mono e1, m1, q1, w.step e1⟩
/-- a way that is never gone -/
def sNever : DTS := fun _ _ _ => False
theorem s_never : DS X st sNever := ps_imp ps_never fun _ _ _ ⟨_, _, _, _, _, q, _⟩ => q.elim
theorem ss_never {sts : List Stmt} : DSs X sts sNever := pss_imp pss_never fun _ _ _ ⟨_, _, _, _, _, q, _⟩ => q.elim

/-! ### targets -/
def gdName (i : Nat) : DTG := fun d δ μ Q => Q (δ.set i (some d)) μ
theorem g_name {i : Nat} {x : Str} (hN : X.N.Nodup) (hi : X.N[i]? = some x) (hx : Loc X.env.scope x) (hf : X.fn x = true ∨ X.env.scope.names.lookup x = some .local := by first | exact .inl rfl | exact .inr rfl | assumption) : DG true X (.Name x pos) (gdName i) :=
  pg_imp (pg_name hN hi hx hf) fun v σ H Q ⟨δ, μ, d, Qd, rs, rm, r, q, w⟩ => w _ μ _ H (.refl _ _) rm (rs.set r.rv i) q
/-- two, three names from a tuple (or a list) -/
def setAll : List Nat → List PyData → DSt → DSt
  | i :: is, d :: ds, δ => setAll is ds (δ.set i (some (.d d)))
  | _, _, δ => δ
def gdTup (is : List Nat) : DTG := fun d δ μ Q => match d with
  | .d (.tuple xs) => xs.length = is.length ∧ Q (setAll is xs δ) μ
  | _ => False
/-- the same over values -/
def gNames : List Nat → TGs
  | [] => gNil
  | i :: is => gCons (gName i) (gNames is)
theorem gNames_use : ∀ {is : List Nat} {vs : List V} {xs : List PyData} {μ : Mu} {H : Hp} {σ : L2.St} {δ : DSt} {Q : L2.St → Hp → Prop}, DaAll K (hid μ H) vs xs → xs.length = is.length → RS K μ H σ δ → (∀ σ', RS K μ H σ' (setAll is xs δ) → Q σ' H) → gNames is vs σ H Q
  | [], _, _, _, _, _, _, _, r, hl, rs, q => by
    cases r with
    | nil => exact ⟨rfl, q _ rs⟩
    | cons _ _ => simp at hl
  | i :: is, _, _, _, _, _, _, _, r, hl, rs, q => by
    cases r with
    | nil => simp at hl
    | @cons v vs d ds a t => exact ⟨v, vs, rfl, gNames_use t (by simpa using hl) (rs.set (d := .d d) a i) q⟩
theorem pgs_name2 {i : Nat} {is : List Nat} {x : Str} {es : List Expr} {p : Pos} (h1 : PG X (.Name x p) (gName i)) (h2 : PGs X es (gNames is))
    (hs : (assignEach (.Name x p :: es) X.env).map (·.2) = assign (.Name x p) X.env :: (assignEach es X.env).map (·.2) := by rfl) : PGs X (.Name x p :: es) (gNames (i :: is)) := pgs_cons h1 h2 hs
theorem g_tup {bb : Bool} {es : List Expr} {k : Nat} {is : List Nat} (hc : X.calm = true) (h : PGs X es (gNames is))
    (hn : (assignEach es X.env).length = is.length := by rfl) (hst : (assignEach es X.env).findIdx? (·.1) = none := by rfl) : DG bb X (.Tuple es k pos) (gdTup is) :=
  pg_imp (pg_tup hc h hn hst) fun v σ H Q ⟨δ, μ, d, Qd, rs, rm, r, q, w⟩ => by
    unfold gdTup at q
    split at q
    · next xs =>
      obtain ⟨a, vs, rfl, s, t⟩ := DaI.tup (DaB.i (show DaB bb X.K (hid μ H) v (.tuple xs) from r))
      exact ⟨a, vs, rfl, same_seqW unhid s, by rw [t.length, q.1], gNames_use t q.1 rs fun σ' rs' => w _ μ σ' H (.refl _ _) rm rs' q.2⟩
    · exact q.elim
def sAsg (te : DT) (g : DTG) : DTS := fun D δ μ => te δ μ fun x μ1 => g x δ μ1 D.nx
theorem s_asg {tg : Expr} {g : DTG} (he : DE X e te) (hg : DG true X tg g) (hs : swapsWithSole [tg] e pos.line X.env = pure false := by rfl) (hw : swappedStores [tg] e X.env = pure none := by rfl)
    (h1 : (assignEach [tg] X.env).map (·.2) = [assign tg X.env] := by rfl) : DS X (.Assign [tg] e pos) (sAsg te g) := ps_imp (ps_asg he hg hs hw h1) fun D σ H ⟨δ, μ, Dd, rs, rm, q, w⟩ =>
  up_use rs rm q fun x μ1 v H1 e1 m1 r1 q1 => ⟨δ, μ1, x, Dd.nx, rs.mono e1, m1, r1.rvb, q1, fun δ' μ' σ' H' e' m' r' z => w.nx δ' μ' σ' H' (e1.trans e') m' r' z⟩
theorem s_set {i : Nat} {x : Str} {pos' : Pos} (hN : X.N.Nodup) (hi : X.N[i]? = some x) (hx : Loc X.env.scope x) (he : DE X e te) (hs : swapsWith e (some (.Name x pos')) pos.line X.env = pure false := by rfl) (hf : X.fn x = true ∨ X.env.scope.names.lookup x = some .local := by first | exact .inl rfl | exact .inr rfl | assumption) :
    DS X (.Assign [.Name x pos'] e pos) (sAsg te (gdName i)) := ps_imp (ps_set hN hi hx he hs hf) fun D σ H ⟨δ, μ, Dd, rs, rm, q, w⟩ =>
  up_use rs rm q fun x μ1 v H1 e1 m1 r1 q1 => w.nx _ μ1 _ H1 e1 m1 ((rs.mono e1).set r1 i) q1
/-- a, b = x, y (two plain locals) -/
def sPar (i j : Nat) (ta : DTA) : DTS := fun D δ μ => ta δ μ fun ds μ1 => match ds with
  | [x, y] => D.nx ((δ.set i (some x)).set j (some y)) μ1
  | _ => False
theorem s_par {i j : Nat} {x y : Str} {tA : DTA} {px py pt : Pos} {kt k2 pt2} (hc : X.calm = true) (hN : X.N.Nodup) (hi : X.N[i]? = some x) (hj : X.N[j]? = some y) (hij : i ≠ j)
    (hx : X.env.scope.names.lookup x = some .local) (hy : X.env.scope.names.lookup y = some .local) (ha : DA X [a, b] tA)
    (hw : swappedStores [.Tuple [.Name x px, .Name y py] kt pt] (.Tuple [a, b] k2 pt2) X.env = pure (some [x, y]))
    (hs : swapsWithSole [.Tuple [.Name x px, .Name y py] kt pt] (.Tuple [a, b] k2 pt2) pos.line X.env = pure false := by rfl) :
    DS X (.Assign [.Tuple [.Name x px, .Name y py] kt pt] (.Tuple [a, b] k2 pt2) pos) (sPar i j tA) := ps_imp (ps_par hc hN hi hj hij hx hy ha hw hs) fun D σ H ⟨δ, μ, Dd, rs, rm, q, w⟩ =>
  upA_use rs rm q fun ds μ1 vs H1 e1 m1 r1 q1 => by
    split at q1
    · next x y =>
      cases r1 with
      | cons r t =>
        cases t with
        | cons r' t =>
          cases t
          exact ⟨_, _, rfl, w.nx _ μ1 _ H1 e1 m1 (((rs.mono e1).set r i).set r' j) q1⟩
    · exact q1.elim
/-- o[i] = e, o a cell that is a list -/
def rdSetL : DV → DV → DV → Mu → (Mu → Prop) → Prop := fun o i v μ Q => match o, i, v with
  | .cell p, .d (.int k), .d x => match μ p with
    | some (.lst xs) => match ixN xs.length k with
      | some j => Q (put μ p (.lst (xs.set j x)))
      | none => False
    | _ => False
  | _, _, _ => False
def gdSub (to ti : DT) (r : DV → DV → DV → Mu → (Mu → Prop) → Prop) : DTG := fun v δ μ Q => to δ μ fun o μ1 => ti δ μ1 fun i μ2 => r o i v μ2 fun μ3 => Q δ μ3
end
end DL

namespace DL
open PySem PySem.Spec PyProof.Rows L2
section
variable {X : Cx} {pos : Pos} {a b c e tg iter : Expr} {ta tb tc te : DT} {K : PySem.W.Frag}

/-! ### what is walked -/
abbrev DTI := DSt → Mu → (List PyData → Mu → Prop) → Prop
def Walk (b : Bool) (K : PySem.W.Frag) (μ0 : Mu) (H0 : Hp) (J : It) (ds : List PyData) : Prop := ∀ i μ H, Ext μ0 H0 μ H → RM K μ H →
  (∀ d, ds[i]? = some d → J.go i H ∧ ∀ x H', J.yld i H x H' → Ext μ H μ H' ∧ RM K μ H' ∧ DaB b K (hid μ H') x d) ∧ (ds[i]? = none → J.stop i H)
def upI (b : Bool) (K : PySem.W.Frag) (wi : DTI) : TI := fun σ H R => ∃ δ μ Qd, RS K μ H σ δ ∧ RM K μ H ∧ wi δ μ Qd ∧ ∀ ds μ' H' J, Ext μ H μ' H' → RM K μ' H' → Walk b K μ' H' J ds → Qd ds μ' → R J H'
abbrev DI (b : Bool) (X : Cx) (tg iter : Expr) (wi : DTI) : Prop := PI X tg iter (upI b X.K wi)
theorem pi_imp {t t' : TI} (h : PI X tg iter t) (w : ∀ σ H R, t' σ H R → t σ H R) : PI X tg iter t' := ⟨fun pins s σ H R I q => h.run pins s σ H R I (w _ _ _ q)⟩
theorem walk_list {μ : Mu} {H : Hp} {p : Addr} {vs : List V} {ds : List PyData} (s : SqL K (hid μ H) p vs) (t : DaAll K (hid μ H) vs ds) : Walk true K μ H (Itl K p) ds := fun i μ' H' e m => by
  have s' : SqL K H' p vs := unhid.seq (e.seq s)
  refine ⟨fun d hd => ?_, fun hd => ⟨vs, s', by rw [t.length]; exact List.getElem?_eq_none_iff.mp hd⟩⟩
  obtain ⟨v, h1, h2⟩ := t.get hd
  refine ⟨⟨vs, v, s', h1⟩, fun x H2 ⟨e1, e2⟩ => ?_⟩
  subst e1
  have e3 := e2 vs s'
  rw [h1] at e3
  cases e3
  exact ⟨.refl _ _, m, h2.mono e⟩
theorem walk_tup {μ : Mu} {H : Hp} {p : Addr} {vs : List V} {ds : List PyData} (s : SqT K (hid μ H) p vs) (t : DaAll K (hid μ H) vs ds) : Walk true K μ H (Itt K p) ds := fun i μ' H' e m => by
  have s' : SqT K H' p vs := same_seqW unhid (same_seqW e s)
  refine ⟨fun d hd => ?_, fun hd => ⟨vs, s', by rw [t.length]; exact List.getElem?_eq_none_iff.mp hd⟩⟩
  obtain ⟨v, h1, h2⟩ := t.get hd
  refine ⟨⟨vs, v, s', h1⟩, fun x H2 ⟨e1, e2⟩ => ?_⟩
  subst e1
  have e3 := e2 vs s'
  rw [h1] at e3
  cases e3
  exact ⟨.refl _ _, m, h2.mono e⟩
def dwList (te : DT) : DTI := fun δ μ Q => te δ μ fun x μ1 => match x with
  | .d (.list xs) => Q xs μ1
  | _ => False
def dwTup (te : DT) : DTI := fun δ μ Q => te δ μ fun x μ1 => match x with
  | .d (.tuple xs) => Q xs μ1
  | _ => False
theorem i_list (h : DE X e te) : DI true X tg e (dwList te) := pi_imp (pi_list h) fun σ H R ⟨δ, μ, Qd, rs, rm, q, w⟩ => up_use rs rm q fun x μ1 v H1 e1 m1 r1 q1 => by
  split at q1
  · next xs =>
    cases (show Da X.K (hid μ1 H1) v (.list xs) from r1) with
    | @lst p vs _ s t => exact ⟨p, rfl, ⟨vs, unhid.seq s⟩, w xs μ1 H1 _ e1 m1 (walk_list s t) q1⟩
  · exact q1.elim
theorem i_tup (h : DE X e te) : DI true X tg e (dwTup te) := pi_imp (pi_tup h) fun σ H R ⟨δ, μ, Qd, rs, rm, q, w⟩ => up_use rs rm q fun x μ1 v H1 e1 m1 r1 q1 => by
  split at q1
  · next xs =>
    cases (show Da X.K (hid μ1 H1) v (.tuple xs) from r1) with
    | @tup p vs _ s t => exact ⟨p, rfl, ⟨vs, same_seqT unhid s⟩, w xs μ1 H1 _ e1 m1 (walk_tup s.t t) q1⟩
  · exact q1.elim
/-- lo, lo + 1, .. (n of them) -/
def rangeD (lo : Int) (n : Nat) : List PyData := (List.range n).map fun (i : Nat) => .int (lo + (i : Int))
end
end DL
namespace DL
open PySem PySem.Spec PyProof.Rows L2
theorem rangeD_get {lo : Int} {n i : Nat} : (rangeD lo n)[i]? = if i < n then some (.int (lo + (i : Int))) else none := by
  unfold rangeD
  by_cases h : i < n
  · rw [if_pos h]; simp [List.getElem?_map, h]
  · rw [if_neg h]; simp [List.getElem?_map, h]
section
variable {X : Cx} {pos : Pos} {a b c e tg iter : Expr} {ta tb tc te : DT} {K : PySem.W.Frag}
theorem walk_range {μ : Mu} {H : Hp} {lo : Int} {n : Nat} : Walk true K μ H (Itr lo n) (rangeD lo n) := fun i μ' H' e m => by
  rw [rangeD_get]
  by_cases h : i < n
  · rw [if_pos h]
    refine ⟨fun d hd => ⟨h, fun x H2 ⟨e1, e2⟩ => ?_⟩, fun z => by cases z⟩
    cases hd
    subst e1; subst e2
    exact ⟨.refl _ _, m, .int _⟩
  · rw [if_neg h]
    exact ⟨fun d hd => (by cases hd), fun _ => Nat.le_of_not_lt h⟩
def dwRange1 (ta : DTA) : DTI := fun δ μ Q => ta δ μ fun ds μ1 => match ds with
  | [.d (.int j)] => (-(2 ^ 62) ≤ j ∧ j < 2 ^ 62) ∧ Q (rangeD 0 j.toNat) μ1
  | _ => False
def dwRange2 (ta : DTA) : DTI := fun δ μ Q => ta δ μ fun ds μ1 => match ds with
  | [.d (.int i), .d (.int j)] => (-(2 ^ 62) ≤ i ∧ i < 2 ^ 62 ∧ -(2 ^ 62) ≤ j ∧ j < 2 ^ 62) ∧ Q (rangeD i (j - i).toNat) μ1
  | _ => False
theorem i_range1 {tA : DTA} {p : Pos} (hg : Gl X "range") (hm : X.mg "range" = none) (ha : DA X [a] tA) (hs : starEach [a] X.env = [(false, eval a X.env)] := by rfl) : DI true X tg (.Call (.Name "range" p) [a] [] pos) (dwRange1 tA) :=
  pi_imp (pi_range1 hg hm ha hs) fun σ H R ⟨δ, μ, Qd, rs, rm, q, w⟩ => upA_use rs rm q fun ds μ1 vs H1 e1 m1 r1 q1 => by
    split at q1
    · next j =>
      cases r1 with
      | cons r t => cases t; cases r; exact ⟨j, rfl, q1.1.1, q1.1.2, w _ μ1 H1 _ e1 m1 walk_range q1.2⟩
    · exact q1.elim
theorem i_range2 {tA : DTA} {p : Pos} (hg : Gl X "range") (hm : X.mg "range" = none) (ha : DA X [a, b] tA) (hs : starEach [a, b] X.env = [(false, eval a X.env), (false, eval b X.env)] := by rfl) (hs2 : starEach [b] X.env = [(false, eval b X.env)] := by rfl) : DI true X tg (.Call (.Name "range" p) [a, b] [] pos) (dwRange2 tA) :=
  pi_imp (pi_range2 hg hm ha hs hs2) fun σ H R ⟨δ, μ, Qd, rs, rm, q, w⟩ => upA_use rs rm q fun ds μ1 vs H1 e1 m1 r1 q1 => by
    split at q1
    · next i j =>
      cases r1 with
      | cons r t =>
        cases t with
        | cons r' t => cases t; cases r; cases r'; exact ⟨i, j, rfl, q1.1, w _ μ1 H1 _ e1 m1 walk_range q1.2⟩
    · exact q1.elim
/-- enumerate -/
def enumD : Nat → List PyData → List PyData
  | _, [] => []
  | n, x :: xs => .tuple [.int n, x] :: enumD (n + 1) xs
theorem enumD_get : ∀ (n : Nat) (xs : List PyData) (i : Nat), (enumD n xs)[i]? = (xs[i]?).map fun x => .tuple [.int ((n + i : Nat) : Int), x]
  | _, [], _ => by simp [enumD]
  | n, x :: xs, 0 => by simp [enumD]
  | n, x :: xs, i + 1 => by
    rw [enumD, List.getElem?_cons_succ, List.getElem?_cons_succ, enumD_get (n + 1) xs i]
    have e : n + 1 + i = n + (i + 1) := by omega
    rw [e]
theorem walk_enum {μ : Mu} {H : Hp} {p : Addr} {vs : List V} {ds : List PyData} (s : SqL K (hid μ H) p vs) (t : DaAll K (hid μ H) vs ds) : Walk false K μ H (Ite K p) (enumD 0 ds) := fun i μ' H' e m => by
  have s' : SqL K H' p vs := unhid.seq (e.seq s)
  rw [enumD_get]
  refine ⟨fun d hd => ?_, fun hd => ⟨vs, s', ?_⟩⟩
  · rw [Option.map_eq_some_iff] at hd
    obtain ⟨y, hy, rfl⟩ := hd
    obtain ⟨v, h1, h2⟩ := t.get hy
    refine ⟨⟨vs, v, s', h1⟩, ?_⟩
    rintro x H2 ⟨T, x', rfl, hT, rfl, e2⟩
    have e3 := e2 vs s'
    rw [h1] at e3
    cases e3
    refine ⟨ext_new hT, m.new hT, Or.inr ⟨T, _, _, rfl, rfl, .inl (.inl (hid_new m hT)), (.cons ?_ (.cons ((h2.mono e).mono (ext_new hT)) .nil))⟩⟩
    rw [Nat.zero_add]
    exact .int _
  · rw [t.length]
    rw [Option.map_eq_none_iff] at hd
    exact List.getElem?_eq_none_iff.mp hd
def dwEnum (ta : DTA) : DTI := fun δ μ Q => ta δ μ fun ds μ1 => match ds with
  | [.d (.list xs)] => Q (enumD 0 xs) μ1
  | _ => False
theorem i_enum {tA : DTA} {p tpos : Pos} {elts : List Expr} {kk : Nat} (hg : Gl X "enumerate") (hm : X.mg "enumerate" = none) (ha : DA X [e] tA) (hs : starEach [e] X.env = [(false, eval e X.env)] := by rfl) : DI false X (.Tuple elts kk tpos) (.Call (.Name "enumerate" p) [e] [] pos) (dwEnum tA) :=
  pi_imp (pi_enum hg hm ha hs) fun σ H R ⟨δ, μ, Qd, rs, rm, q, w⟩ => upA_use rs rm q fun ds μ1 vs H1 e1 m1 r1 q1 => by
    split at q1
    · next xs =>
      cases r1 with
      | cons r t =>
        cases t
        cases (show Da X.K (hid μ1 H1) _ (.list xs) from r) with
        | @lst p vs _ s t => exact ⟨p, vs, rfl, unhid.seq s, w _ μ1 H1 _ e1 m1 (walk_enum s t) q1⟩
    · exact q1.elim
/-- zip -/
def zipD : List PyData → List PyData → List PyData
  | x :: xs, y :: ys => .tuple [x, y] :: zipD xs ys
  | _, _ => []
theorem zipD_get : ∀ (xs ys : List PyData) (i : Nat) (d : PyData), (zipD xs ys)[i]? = some d → ∃ x y, xs[i]? = some x ∧ ys[i]? = some y ∧ d = .tuple [x, y]
  | x :: xs, y :: ys, 0, d, h => by
    rw [zipD, List.getElem?_cons_zero] at h
    cases h
    exact ⟨x, y, rfl, rfl, rfl⟩
  | x :: xs, y :: ys, i + 1, d, h => by
    rw [zipD, List.getElem?_cons_succ] at h
    simpa using zipD_get xs ys i d h
  | [], _, _, _, h => by simp [zipD] at h
  | _ :: _, [], _, _, h => by simp [zipD] at h
theorem zipD_none : ∀ (xs ys : List PyData) (i : Nat), (zipD xs ys)[i]? = none → xs.length ≤ i ∨ ys.length ≤ i
  | x :: xs, y :: ys, 0, h => by simp [zipD] at h
  | x :: xs, y :: ys, i + 1, h => by
    rw [zipD, List.getElem?_cons_succ] at h
    rcases zipD_none xs ys i h with q | q
    · exact .inl (by simpa using q)
    · exact .inr (by simpa using q)
  | [], _, _, _ => .inl (Nat.zero_le _)
  | _ :: _, [], _, _ => .inr (Nat.zero_le _)
theorem walk_zip {μ : Mu} {H : Hp} {p r : Addr} {vs ws : List V} {ds es : List PyData} (s : SqL K (hid μ H) p vs) (t : DaAll K (hid μ H) vs ds) (s2 : SqL K (hid μ H) r ws) (t2 : DaAll K (hid μ H) ws es) : Walk false K μ H (Itz K p r) (zipD ds es) := fun i μ' H' e m => by
  have s' : SqL K H' p vs := unhid.seq (e.seq s)
  have s2' : SqL K H' r ws := unhid.seq (e.seq s2)
  refine ⟨fun d hd => ?_, fun hd => ⟨vs, ws, s', s2', ?_⟩⟩
  · obtain ⟨x, y, hx, hy, rfl⟩ := zipD_get _ _ _ _ hd
    obtain ⟨v, h1, h2⟩ := t.get hx
    obtain ⟨u, h3, h4⟩ := t2.get hy
    refine ⟨⟨vs, ws, v, u, s', s2', h1, h3⟩, ?_⟩
    rintro z H2 ⟨T, x', y', rfl, hT, rfl, e2, e3⟩
    have e4 := e2 vs s'
    have e5 := e3 ws s2'
    rw [h1] at e4
    rw [h3] at e5
    cases e4; cases e5
    exact ⟨ext_new hT, m.new hT, Or.inr ⟨T, _, _, rfl, rfl, .inl (.inl (hid_new m hT)), (.cons ((h2.mono e).mono (ext_new hT)) (.cons ((h4.mono e).mono (ext_new hT)) .nil))⟩⟩
  · rw [t.length, t2.length]
    exact zipD_none _ _ _ hd
def dwZip (ta : DTA) : DTI := fun δ μ Q => ta δ μ fun ds μ1 => match ds with
  | [.d (.list xs), .d (.list ys)] => Q (zipD xs ys) μ1
  | _ => False
theorem i_zip {tA : DTA} {p tpos : Pos} {elts : List Expr} {kk : Nat} (hg : Gl X "zip") (hm : X.mg "zip" = none) (ha : DA X [a, b] tA) (hs : starEach [a, b] X.env = (false, eval a X.env) :: starEach [b] X.env := by rfl) (hpl : (backTo pos (starEach [b] X.env)).any (·.1) = false := by rfl) :
    DI false X (.Tuple elts kk tpos) (.Call (.Name "zip" p) [a, b] [] pos) (dwZip tA) :=
  pi_imp (pi_zip hg hm ha hs hpl) fun σ H R ⟨δ, μ, Qd, rs, rm, q, w⟩ => upA_use rs rm q fun ds μ1 vs H1 e1 m1 r1 q1 => by
    split at q1
    · next xs ys =>
      cases r1 with
      | cons r t =>
        cases t with
        | cons r' t =>
          cases t
          cases (show Da X.K (hid μ1 H1) _ (.list xs) from r) with
          | @lst p vs _ s t =>
            cases (show Da X.K (hid μ1 H1) _ (.list ys) from r') with
            | @lst p' vs' _ s' t' => exact ⟨p, p', vs, vs', rfl, unhid.seq s, unhid.seq s', w _ μ1 H1 _ e1 m1 (walk_zip s t s' t') q1⟩
    · exact q1.elim
end
end DL

namespace DL
open PySem PySem.Spec PyProof.Rows L2

/-! ### wiped slots -/
def wipeD (δ : DSt) : List Nat → DSt
  | [] => δ
  | v :: vs => (wipeD δ vs).set v none
theorem wipe_get (σ : L2.St) : ∀ (vs : List Nat) (k : Nat), (wipe σ vs)[k]? = if k ∈ vs ∧ k < σ.length then some none else σ[k]?
  | [], k => by simp [wipe]
  | v :: vs, k => by
    unfold wipe
    by_cases hk : v = k
    · subst hk
      by_cases hl : v < σ.length
      · rw [List.getElem?_set_self (by rw [wipe_length]; exact hl), if_pos ⟨List.mem_cons_self, hl⟩]
      · rw [List.getElem?_eq_none (by rw [List.length_set, wipe_length]; omega), if_neg (fun z => hl z.2), List.getElem?_eq_none (by omega)]
    · rw [List.getElem?_set_ne hk, wipe_get σ vs k]
      have e : (k ∈ v :: vs ∧ k < σ.length) ↔ (k ∈ vs ∧ k < σ.length) := by
        simp only [List.mem_cons]
        exact ⟨fun z => ⟨z.1.resolve_left fun q => hk q.symm, z.2⟩, fun z => ⟨.inr z.1, z.2⟩⟩
      by_cases h : k ∈ vs ∧ k < σ.length
      · rw [if_pos h, if_pos (e.mpr h)]
      · rw [if_neg h, if_neg (fun z => h (e.mp z))]
theorem wipeD_length (δ : DSt) : ∀ vs : List Nat, (wipeD δ vs).length = δ.length
  | [] => rfl
  | v :: vs => by unfold wipeD; rw [List.length_set, wipeD_length δ vs]
theorem wipeD_some {δ : DSt} {i : Nat} {x : DV} : ∀ {vs : List Nat}, (wipeD δ vs)[i]? = some (some x) → δ[i]? = some (some x) ∧ i ∉ vs
  | [], h => ⟨h, by simp⟩
  | v :: vs, h => by
    unfold wipeD at h
    by_cases hi : v = i
    · subst hi
      by_cases hv : v < (wipeD δ vs).length
      · rw [List.getElem?_set_self hv] at h; cases h
      · rw [List.getElem?_eq_none (by simpa using hv)] at h; cases h
    · rw [List.getElem?_set_ne hi] at h
      obtain ⟨h1, h2⟩ := wipeD_some h
      exact ⟨h1, by simp only [List.mem_cons, not_or]; exact ⟨fun e => hi e.symm, h2⟩⟩
theorem RS.wipe {K : PySem.W.Frag} {μ : Mu} {H : Hp} {σ : L2.St} {δ : DSt} (h : RS K μ H σ δ) (vs : List Nat) : RS K μ H (wipe σ vs) (wipeD δ vs) :=
  h.weak (by rw [wipe_length, wipeD_length]; exact h.1) fun i d e => by
    obtain ⟨h1, h2⟩ := wipeD_some e
    exact ⟨h1, wipe_out h2⟩
theorem wipe_set {σ : L2.St} {i : Nat} {x : Option V} {vs : List Nat} (h : i ∈ vs) : wipe (σ.set i x) vs = wipe σ vs := by
  apply List.ext_getElem?
  intro k
  rw [wipe_get, wipe_get, List.length_set]
  by_cases hk : k ∈ vs ∧ k < σ.length
  · rw [if_pos hk, if_pos hk]
  · rw [if_neg hk, if_neg hk]
    by_cases e : i = k
    · subst e
      have : ¬ i < σ.length := fun z => hk ⟨h, z⟩
      rw [List.getElem?_eq_none (by rw [List.length_set]; omega), List.getElem?_eq_none (by omega)]
    · rw [List.getElem?_set_ne e]
theorem wipe_wipe {σ : L2.St} {vs : List Nat} : wipe (wipe σ vs) vs = wipe σ vs := by
  apply List.ext_getElem?
  intro k
  rw [wipe_get, wipe_length]
  by_cases hk : k ∈ vs ∧ k < σ.length
  · rw [if_pos hk, wipe_get, if_pos hk]
  · rw [if_neg hk]

/-- a comprehension's target -/
structure CompG (b : Bool) (K : PySem.W.Frag) (vs : List Nat) (g : TG) (gd : DTG) : Prop where
  use : ∀ {v : V} {d : DV} {σ : L2.St} {δ : DSt} {μ : Mu} {H : Hp} {Qd : DSt → Mu → Prop} {Q : L2.St → Hp → Prop}, RS K μ H (wipe σ vs) (wipeD δ vs) → RM K μ H → RVb b K μ H v d → gd d (wipeD δ vs) μ Qd →
    (∀ σ2 δ2, RS K μ H σ2 δ2 → wipe σ2 vs = wipe σ vs → Qd δ2 μ → Q σ2 H) → g v (wipe σ vs) H Q
theorem compG_name {K : PySem.W.Frag} {vs : List Nat} {i : Nat} (h : i ∈ vs) : CompG true K vs (gName i) (gdName i) := ⟨fun {v d σ δ μ H Qd Q} rs rm r q w => w _ _ (rs.set r.rv i) (by rw [wipe_set h, wipe_wipe]) q⟩
theorem gNames_use2 {vs' : List Nat} : ∀ {is : List Nat} {vs : List V} {xs : List PyData} {K : PySem.W.Frag} {μ : Mu} {H : Hp} {σ : L2.St} {δ : DSt} {Q : L2.St → Hp → Prop}, (∀ i ∈ is, i ∈ vs') → DaAll K (hid μ H) vs xs → xs.length = is.length → RS K μ H σ δ →
    (∀ σ', RS K μ H σ' (setAll is xs δ) → wipe σ' vs' = wipe σ vs' → Q σ' H) → gNames is vs σ H Q
  | [], _, _, _, _, _, _, _, _, _, r, hl, rs, q => by
    cases r with
    | nil => exact ⟨rfl, q _ rs rfl⟩
    | cons _ _ => simp at hl
  | i :: is, _, _, _, _, _, _, _, _, hi, r, hl, rs, q => by
    cases r with
    | nil => simp at hl
    | @cons v vs d ds a t =>
      exact ⟨v, vs, rfl, gNames_use2 (vs' := vs') (fun j hj => hi j (List.mem_cons_of_mem _ hj)) t (by simpa using hl) (rs.set (d := .d d) a i) fun σ' rs' e => q σ' rs' (by rw [e, wipe_set (hi i List.mem_cons_self)])⟩
theorem compG_tup {bb : Bool} {K : PySem.W.Frag} {vs is : List Nat} (h : ∀ i ∈ is, i ∈ vs) : CompG bb K vs (gTup K is.length (gNames is)) (gdTup is) := ⟨fun {v d σ δ μ H Qd Q} rs rm r q w => by
  unfold gdTup at q
  split at q
  · next xs =>
    obtain ⟨a, us, rfl, s, t⟩ := DaI.tup (DaB.i (show DaB bb K (hid μ H) v (.tuple xs) from r))
    exact ⟨a, us, rfl, same_seqW unhid s, by rw [t.length, q.1], gNames_use2 h t q.1 rs fun σ' rs' e => w σ' _ rs' (by rw [e, wipe_wipe]) q.2⟩
  · exact q.elim⟩

/-! ### comprehensions -/
section
variable {X : Cx} {pos : Pos} {elt tg iter : Expr} {ifs : List Expr} {scope : Scope} {own : List (Str × Nat)} {wi : DTI} {g : TG} {gd : DTG} {tt : DTT} {te : DT}
def lcGo (gd : DTG) (tt : DTT) (te : DT) (δw : DSt) (D : Addr) (fin : List PyData → Mu → Prop) : List PyData → List PyData → Mu → Prop
  | [], acc, μ => fin acc μ
  | d :: ds, acc, μ => gd (.d d) δw μ fun δ2 μ2 => tt δ2 μ2 fun b μ3 => if b = true then te δ2 μ3 fun y μ4 => match y with
      | .d x => μ4 D = some (.lst acc) ∧ acc.length < 1000000 ∧ lcGo gd tt te δw D fin ds (acc ++ [x]) (put μ4 D (.lst (acc ++ [x])))
      | .cell _ => False
    else μ3 D = some (.lst acc) ∧ lcGo gd tt te δw D fin ds acc μ3
/-- the list is data -/
def dLc (wi : DTI) (gd : DTG) (tt : DTT) (te : DT) (vs : List Nat) : DT := fun δ μ Q => wi δ μ fun ds μ1 => ∀ D, μ1 D = none → lcGo gd tt te (wipeD δ vs) D (fun acc μ' => Q (.d (.list acc)) (del μ' D)) ds [] (put μ1 D (.lst []))
/-- the list will be changed -/
def dLcC (wi : DTI) (gd : DTG) (tt : DTT) (te : DT) (vs : List Nat) : DT := fun δ μ Q => wi δ μ fun ds μ1 => ∀ D, μ1 D = none → lcGo gd tt te (wipeD δ vs) D (fun acc μ' => Q (.cell D) μ') ds [] (put μ1 D (.lst []))
def dYes : DTT := fun _ μ Q => Q true μ
abbrev DTs (X : Cx) (ifs : List Expr) (t : DTT) : Prop := PTs X ifs (upT X.K t)
theorem t_nil : DTs X [] dYes := ⟨fun pins s σ H Q I ⟨δ, μ, Qd, rs, rm, q, w⟩ => (pts_nil (X := X)).run pins s σ H Q I (w true μ H (.refl _ _) rm q)⟩
theorem t_one {c : Expr} {t : DTT} (h : DC X c t) : DTs X [c] t := pts_one h
theorem lc_up {bb : Bool} {K : PySem.W.Frag} (G : CompG bb K (own.map (·.2)) g gd) {fin : List PyData → Mu → Prop} {δ : DSt} {μ : Mu} {H : Hp} {σ : L2.St} {Q : VK} {J : It} {ds : List PyData} {D : Addr} (rs : RS K μ H σ δ) (rm : RM K μ H) (wk : Walk bb K μ H J ds) (hD : H D = none)
    (h : lcGo gd tt te (wipeD δ (own.map (·.2))) D fin ds [] (put μ D (.lst [])))
    (hf : ∀ acc μ' H', Ext μ H μ' H' → RM K μ' H' → μ' D = some (.lst acc) → fin acc μ' → Q (.ref D) H') :
    ∃ W : Nat → Nat → Hp → Prop, (∃ m, W 0 m (upd H D (.lst []))) ∧ ∀ i m H, W i m H → (J.stop i H ∧ Q (.ref D) H) ∨ (J.go i H ∧ ∃ Nx : Hp → Prop, (∀ H', Nx H' → ∃ m', m' < m ∧ W (i + 1) m' H') ∧ ∀ x H', J.yld i H x H' → g x (wipe σ (own.map (·.2))) H' fun σ2 H2 => wipe σ2 (own.map (·.2)) = wipe σ (own.map (·.2)) ∧ upT K tt σ2 H2 fun b H3 =>
      if b = true then up K te σ2 H3 fun y H4 => ∃ acc, H4 D = some (.lst acc) ∧ acc.length < sizeLine ∧ Nx (upd H4 D (.lst (acc ++ [y]))) else Nx H3) := by
  refine ⟨fun i m H1 => ∃ μ1 acc, i ≤ ds.length ∧ m = ds.length - i ∧ Ext μ H μ1 H1 ∧ RM K μ1 H1 ∧ μ1 D = some (.lst acc) ∧ lcGo gd tt te (wipeD δ (own.map (·.2))) D fin (ds.drop i) acc μ1,
    ⟨ds.length, put μ D (.lst []), [], Nat.zero_le _, by omega, ext_cell hD, rm.cell hD ⟨[], upd_same, .nil⟩, put_same, by simpa using h⟩, ?_⟩
  rintro i m H1 ⟨μ1, acc, hi, rfl, e1, m1, hD1, h1⟩
  have wk1 := wk i μ1 H1 e1 m1
  cases hd : ds[i]? with
  | none =>
    have hle : ds.length ≤ i := List.getElem?_eq_none_iff.mp hd
    rw [List.drop_eq_nil_of_le hle] at h1
    exact .inl ⟨wk1.2 hd, hf acc μ1 H1 e1 m1 hD1 h1⟩
  | some d =>
    have hlt : i < ds.length := (List.getElem?_eq_some_iff.mp hd).1
    have hdr : ds.drop i = d :: ds.drop (i + 1) := by
      rw [List.drop_eq_getElem_cons hlt]
      congr 1
      exact (List.getElem?_eq_some_iff.mp hd).2
    rw [hdr] at h1
    obtain ⟨go, yl⟩ := wk1.1 d hd
    refine .inr ⟨go, fun H' => ∃ μ' acc', Ext μ H μ' H' ∧ RM K μ' H' ∧ μ' D = some (.lst acc') ∧ lcGo gd tt te (wipeD δ (own.map (·.2))) D fin (ds.drop (i + 1)) acc' μ', fun H' ⟨μ', acc', x1, x2, x3, x4⟩ => ⟨ds.length - (i + 1), by omega, μ', acc', by omega, rfl, x1, x2, x3, x4⟩, fun x H2 hy => ?_⟩
    obtain ⟨e2, m2, r2⟩ := yl x H2 hy
    have e12 := e1.trans e2
    have rs2 : RS K μ1 H2 (wipe σ (own.map (·.2))) (wipeD δ (own.map (·.2))) := (rs.mono e12).wipe _
    refine G.use (d := .d d) rs2 m2 r2 h1 fun σ2 δ2 rs3 hw h3 => ⟨hw, ?_⟩
    refine upT_use rs3 m2 h3 fun b μ3 H3 e3 m3 h4 => ?_
    cases b with
    | false =>
      rw [if_neg Bool.false_ne_true] at h4 ⊢
      exact ⟨μ3, acc, e12.trans e3, m3, h4.1, h4.2⟩
    | true =>
      rw [if_pos rfl] at h4 ⊢
      refine up_use (rs3.mono e3) m3 h4 fun y μ4 v H4 e4 m4 r4 h5 => ?_
      split at h5
      · next z =>
        obtain ⟨h6, h7, h8⟩ := h5
        obtain ⟨vs, g1, g2⟩ := m4 D _ h6
        refine ⟨vs, g1, by rw [g2.length]; exact Nat.lt_of_lt_of_le h7 (by decide), put μ4 D (.lst (acc ++ [z])), acc ++ [z], (e12.trans (e3.trans e4)).trans (ext_write h6), m4.write h6 ⟨_, upd_same, ?_⟩, put_same, h8⟩
        exact (g2.append (.cons r4 .nil)).mono (ext_write h6)
      · exact h5.elim
theorem d_lc {bb : Bool} (hc : X.calm = true) (hN : X.N.Nodup) (hi : DI bb X tg iter wi) (ok : BlkOk X.N X.env.scope scope own) (G : CompG bb X.K (own.map (·.2)) g gd)
    (hg : ∀ (s : Shared) (H : Hp) (C : Addr) (cl : List (Str × Addr)) (fp : List Addr), PG (X.blk s H scope (compEnvC scope cl C X.env) fp) tg g)
    (ht : ∀ (s : Shared) (H : Hp) (C : Addr) (cl : List (Str × Addr)) (fp : List Addr), DTs (X.blk s H scope (compEnvC scope cl C X.env) fp) ifs tt)
    (he : ∀ (s : Shared) (H : Hp) (C : Addr) (cl : List (Str × Addr)) (fp : List Addr), DE (X.blk s H scope (compEnvC scope cl C X.env) fp) elt te)
    (hs : ∀ (x : Value), foldedSetIterable iter X.env x = pure x := by intro _; rfl) : DE X (.ListComp elt [⟨tg, iter, ifs, 0⟩] scope pos) (dLc wi gd tt te (own.map (·.2))) :=
  pe_imp (pe_lc hc hN hi ok hg ht he hs) fun σ H Q ⟨δ, μ, Qd, rs, rm, q, w⟩ => ⟨δ, μ, _, rs, rm, q, fun ds μ1 H1 J e1 m1 wk q1 D hD => by
    refine lc_up (fin := fun acc μ' => Qd (.d (.list acc)) (del μ' D)) G (rs.mono e1) m1 wk hD (q1 D (m1.free hD)) fun acc μ' H' e2 m2 hd qq => ?_
    exact w (.d (.list acc)) (del μ' D) _ H' (e1.trans (e2.trans ext_freeze)) m2.freeze (freeze_lst m2 hd) qq⟩
theorem d_lcC {bb : Bool} (hc : X.calm = true) (hN : X.N.Nodup) (hi : DI bb X tg iter wi) (ok : BlkOk X.N X.env.scope scope own) (G : CompG bb X.K (own.map (·.2)) g gd)
    (hg : ∀ (s : Shared) (H : Hp) (C : Addr) (cl : List (Str × Addr)) (fp : List Addr), PG (X.blk s H scope (compEnvC scope cl C X.env) fp) tg g)
    (ht : ∀ (s : Shared) (H : Hp) (C : Addr) (cl : List (Str × Addr)) (fp : List Addr), DTs (X.blk s H scope (compEnvC scope cl C X.env) fp) ifs tt)
    (he : ∀ (s : Shared) (H : Hp) (C : Addr) (cl : List (Str × Addr)) (fp : List Addr), DE (X.blk s H scope (compEnvC scope cl C X.env) fp) elt te)
    (hs : ∀ (x : Value), foldedSetIterable iter X.env x = pure x := by intro _; rfl) : DE X (.ListComp elt [⟨tg, iter, ifs, 0⟩] scope pos) (dLcC wi gd tt te (own.map (·.2))) :=
  pe_imp (pe_lc hc hN hi ok hg ht he hs) fun σ H Q ⟨δ, μ, Qd, rs, rm, q, w⟩ => ⟨δ, μ, _, rs, rm, q, fun ds μ1 H1 J e1 m1 wk q1 D hD => by
    refine lc_up (fin := fun acc μ' => Qd (.cell D) μ') G (rs.mono e1) m1 wk hD (q1 D (m1.free hD)) fun acc μ' H' e2 m2 hd qq => ?_
    exact w (.cell D) μ' _ H' (e1.trans e2) m2 rfl qq⟩
/-- y = [..] -/
theorem s_setLc {bb : Bool} {i : Nat} {y : Str} {py spos : Pos} (hc : X.calm = true) (hN : X.N.Nodup) (hy : X.N[i]? = some y) (hyl : X.env.scope.names.lookup y = some .local) (hsw : swapsWith (.ListComp elt [⟨tg, iter, ifs, 0⟩] scope pos) (some (.Name y py)) spos.line X.env = pure true)
    (hi : DI bb X tg iter wi) (ok : BlkOk X.N X.env.scope scope own) (G : CompG bb X.K (own.map (·.2)) g gd)
    (hg : ∀ (s : Shared) (H : Hp) (C : Addr) (cl : List (Str × Addr)) (fp : List Addr), PG (X.blk s H scope (compEnvC scope cl C X.env) fp) tg g)
    (ht : ∀ (s : Shared) (H : Hp) (C : Addr) (cl : List (Str × Addr)) (fp : List Addr), DTs (X.blk s H scope (compEnvC scope cl C X.env) fp) ifs tt)
    (he : ∀ (s : Shared) (H : Hp) (C : Addr) (cl : List (Str × Addr)) (fp : List Addr), DE (X.blk s H scope (compEnvC scope cl C X.env) fp) elt te)
    (hs : ∀ (x : Value), foldedSetIterable iter X.env x = pure x := by intro _; rfl) : DS X (.Assign [.Name y py] (.ListComp elt [⟨tg, iter, ifs, 0⟩] scope pos) spos) (sAsg (dLc wi gd tt te (own.map (·.2))) (gdName i)) :=
  ps_imp (ps_setLc hc hN hy hyl hsw hi ok hg ht he hs) fun D' σ H ⟨δ, μ, Dd, rs, rm, q, w⟩ => ⟨δ, μ, _, rs, rm, q, fun ds μ1 H1 J e1 m1 wk q1 D hD => by
    refine lc_up (fin := fun acc μ' => Dd.nx (δ.set i (some (.d (.list acc)))) (del μ' D)) (Q := fun v H' => D'.nx (σ.set i (some v)) H') G (rs.mono e1) m1 wk hD (q1 D (m1.free hD)) fun acc μ' H' e2 m2 hd qq => ?_
    have e3 := e1.trans (e2.trans (ext_freeze (p := D)))
    exact w.nx _ (del μ' D) _ H' e3 m2.freeze ((rs.mono e3).set (d := .d (.list acc)) (freeze_lst m2 hd) i) qq⟩

/-! ### for -/
def forGo (gd : DTG) (tb : DTS) (D : DEnds) : List PyData → DSt → Mu → Prop
  | [], δ, μ => D.nx δ μ
  | d :: ds, δ, μ => gd (.d d) δ μ fun δ2 μ2 => tb { D with nx := forGo gd tb D ds, ct := forGo gd tb D ds, bk := D.nx } δ2 μ2
def sFor (wi : DTI) (gd : DTG) (tb : DTS) : DTS := fun D δ μ => wi δ μ fun ds μ1 => forGo gd tb D ds δ μ1
variable {body : List Stmt} {tb : DTS}
theorem s_for {bb : Bool} (hp : PassesOwn (model X.prog X.w) X.A X.env X.xe) (hc : X.calm = true) (hi : DI bb X tg iter wi) (hg : DG bb X tg gd) (hb : DSs X body tb) (hs : ∀ (x : Value), foldedSetIterable iter X.env x = pure x := by intro _; rfl) : DS X (.For tg iter body [] pos) (sFor wi gd tb) :=
  ps_imp (ps_for hp hc hi hg hb hs) fun D σ H ⟨δ, μ, Dd, rs, rm, q, w⟩ => ⟨δ, μ, _, rs, rm, q, fun ds μ1 H1 J e1 m1 wk q1 => by
    refine ⟨fun i m σ' H' => ∃ δ' μ', i ≤ ds.length ∧ m = ds.length - i ∧ Ext μ1 H1 μ' H' ∧ RM X.K μ' H' ∧ RS X.K μ' H' σ' δ' ∧ forGo gd tb Dd (ds.drop i) δ' μ', ⟨ds.length, δ, μ1, Nat.zero_le _, by omega, .refl _ _, m1, rs.mono e1, by simpa using q1⟩, ?_⟩
    rintro i m σ' H' ⟨δ', μ', hi', rfl, e2, m2, rs2, h1⟩
    have wk1 := wk i μ' H' e2 m2
    cases hd : ds[i]? with
    | none =>
      have hle : ds.length ≤ i := List.getElem?_eq_none_iff.mp hd
      rw [List.drop_eq_nil_of_le hle] at h1
      exact .inl ⟨wk1.2 hd, w.nx δ' μ' σ' H' (e1.trans e2) m2 rs2 h1⟩
    | some d =>
      have hlt : i < ds.length := (List.getElem?_eq_some_iff.mp hd).1
      have hdr : ds.drop i = d :: ds.drop (i + 1) := by
        rw [List.drop_eq_getElem_cons hlt]
        congr 1
        exact (List.getElem?_eq_some_iff.mp hd).2
      rw [hdr] at h1
      obtain ⟨go, yl⟩ := wk1.1 d hd
      refine .inr ⟨go, fun σ2 H2 => ∃ δ2 μ2, Ext μ1 H1 μ2 H2 ∧ RM X.K μ2 H2 ∧ RS X.K μ2 H2 σ2 δ2 ∧ forGo gd tb Dd (ds.drop (i + 1)) δ2 μ2, fun σ2 H2 ⟨δ2, μ2, x1, x2, x3, x4⟩ => ⟨ds.length - (i + 1), by omega, δ2, μ2, by omega, rfl, x1, x2, x3, x4⟩, fun x H2 hy => ?_⟩
      obtain ⟨e3, m3, r3⟩ := yl x H2 hy
      refine ⟨δ', μ', .d d, _, rs2.mono e3, m3, r3, h1, fun δ4 μ4 σ4 H4 e4 m4 rs4 h4 => ⟨δ4, μ4, _, rs4, m4, h4, ?_⟩⟩
      have e24 := e2.trans (e3.trans e4)
      exact ⟨fun δ5 μ5 σ5 H5 e5 m5 rs5 h5 => ⟨δ5, μ5, e24.trans e5, m5, rs5, h5⟩, w.rt.step (e1.trans e24), fun δ5 μ5 σ5 H5 e5 m5 rs5 h5 => w.nx δ5 μ5 σ5 H5 (e1.trans (e24.trans e5)) m5 rs5 h5, fun δ5 μ5 σ5 H5 e5 m5 rs5 h5 => ⟨δ5, μ5, e24.trans e5, m5, rs5, h5⟩⟩⟩
end
end DL

namespace DL
open PySem PySem.Spec PyProof.Rows L2

/-! ### defs -/
structure RoomG (k : Nat) (A : Around) : Prop where
  r : Room k A
  g : A.guards = some []
theorem RoomG.mono {j k : Nat} {A : Around} (r : RoomG k A) (h : j ≤ k) : RoomG j A := ⟨r.r.mono h, r.g⟩
theorem RoomG.deeper {k : Nat} {A : Around} (r : RoomG (k + 1) A) (env : Env) : RoomG k (A.deeper env) := ⟨r.r.deeper env, r.g⟩
/-- a def's promise over data: the arguments, the cells, the wish -/
abbrev DSp := List DV → Mu → DK → Prop
structure FnD (P : Program) (w : World) (K : PySem.W.Frag) (mg : Str → Option Value) (base : Heap) (k : Nat) (f : Addr) (fd : FuncData) (ps : List Str) (sp : DSp) : Prop where
  len : ∀ ds μ Q, sp ds μ Q → ds.length = ps.length
  run : ∀ (A : Around) (outer : List Env) (s : Shared) (H : Hp) (args : Args) (us : List Value) (vs : List V) (ds : List DV) (μ : Mu) (Qd : DK) (Q : VK), RoomG k A → Env0 P w K mg base A outer s H → BindsTo s fd args (ps.zip us) → Vals vs us →
    RVs K μ H vs ds → RM K μ H → sp ds μ Qd → Wk K μ H Qd Q → codeAny (model P w) A (.call (.ref f) args) (CR CX0 outer P w H s Q E0) s
theorem FnD.mono {P : Program} {w : World} {K : PySem.W.Frag} {mg : Str → Option Value} {base : Heap} {j k : Nat} {f : Addr} {fd : FuncData} {ps : List Str} {sp : DSp} (F : FnD P w K mg base j f fd ps sp) (h : j ≤ k) : FnD P w K mg base k f fd ps sp :=
  ⟨F.len, fun A outer s H args us vs ds μ Qd Q hr => F.run A outer s H args us vs ds μ Qd Q (hr.mono h)⟩
section
variable {P : Program} {w : World} {K : PySem.W.Frag} {mg : Str → Option Value} {base : Heap}
/-- the data at the entry of a def's body -/
def dstart (n : Nat) (ds : List DV) : DSt := ds.map some ++ List.replicate (n - ds.length) none
/-- the context in which a body is read -/
abbrev cxD (P : Program) (w : World) (K : PySem.W.Frag) (mg : Str → Option Value) (base : Heap) (N : List Str) (qual : Str) (scope : Scope) (f : Addr) (cd : Value) (A : Around) (outer : List Env) (s : Shared) (H : Hp) : Cx :=
  (cxOf CX0 P w K mg base N qual scope f cd A outer s H E0).nox
theorem Fun.okD {x qual : Str} {st : Stmt} {f : Addr} {fd : FuncData} {N ps : List Str} {k : Nat} {sp : DSp} (F : Fun K x qual st f fd) (S : FnScope N ps (defScope st)) (len : ∀ ds μ Q, sp ds μ Q → ds.length = ps.length)
    (hbody : ∀ (cdv : Value) (A : Around) (outer : List Env) (s : Shared) (H : Hp), RoomG k (A.deeper (envOfC qual (defScope st) s.heap.objs.size f cdv)) →
      ∃ t, DSs (cxD P w K mg base N qual (defScope st) f cdv A outer s H) (defBody st) t ∧ ∀ ds μ Q, sp ds μ Q → t { nx := fun _ μ' => Q (.d .none) μ', rt := Q } (dstart N.length ds) μ) : FnD P w K mg base (k + 1) f fd ps sp := by
  obtain ⟨oc, od, kV, doc, pm, an, cdv, ct, osl, rfl, lk, hcd⟩ := F.ex
  refine ⟨len, fun A outer s H args us vs ds μ Qd Q hr e0 hb r rd rm hsp hw => ?_⟩
  have hld := len _ _ _ hsp
  have hl : vs.length = ps.length := (Paired.length rd).trans hld
  have KX : K.In s.heap := e0.mod.kin.keeps fun b o e => (e0.bs b o e).1
  have lim : s.heap.NoLimit := e0.mod.nolimit.keeps fun b o e => (e0.bs b o e).1
  obtain ⟨t, ht, hq⟩ := hbody cdv A outer s H (hr.deeper _)
  have hpar : ((ps.zip us).all fun y => (defScope st).names.lookup y.1 == some .local || (defScope st).names.lookup y.1 == some .cell) = true := by
    rw [List.all_eq_true]
    rintro ⟨n, v⟩ hy
    rcases S.par n (List.of_mem_zip hy).1 with q | q
    · simp [q]
    · simp [q]
  refine Att.call_fn KX lim lk hcd hr.r.depth hb hpar (fun s1 x => ?_) S.co S.gen S.kind
  have I : Inv (cxOf CX0 P w K mg base N qual (defScope st) f cdv A outer s H E0) [] (L2.start N vs) H s1 := inv_start S hr.r.hd e0 hl r x
  have h2 := ht.run [] s1 (L2.start N vs) H { nx := fun _ H' => Q .non H', rt := Q } (I.wish _) ⟨dstart N.length ds, μ, _, RS.start rd, rm, hq ds μ Qd hsp,
    ⟨fun δ' μ' σ' H' e m _ q => hw (.d .none) μ' .non H' e m Da.non q, hw, fun _ _ _ _ _ _ _ q => q, fun _ _ _ _ _ _ _ q => q⟩⟩
  refine wpAny_mono h2 (fun fl s' hs => ?_) fun _ _ z => z.elim
  have hs := hs.unwish
  cases fl with
  | ret u =>
    obtain ⟨v, σ', H', J, rv, q⟩ := hs
    exact ⟨v, H', J.os, J.bare, J.base, J.hok, rv, q⟩
  | next =>
    obtain ⟨σ', H', J, q⟩ := hs
    exact ⟨.non, H', J.os, J.bare, J.base, J.hok, rfl, q⟩
  | brk =>
    obtain ⟨_, _, _, q⟩ := hs
    exact q.elim
  | cont =>
    obtain ⟨_, _, _, q⟩ := hs
    exact q.elim
end

/-! ### calls -/
section
variable {X : Cx} {k : Nat} {f : Addr} {fd : FuncData} {ps : List Str} {sp : DSp} {x : Str} {p pos : Pos} {e : Expr} {es : List Expr} {tr : DTA}
theorem run_D {pins : List (Addr × Obj)} {σ : L2.St} {H : Hp} {s : Shared} {Q : VK} {args : Args} {us : List Value} {vs : List V} {ds : List DV} {μ : Mu} {Qd : DK} (F : FnD X.prog X.w X.K X.mg X.base k f fd ps sp) (hr : RoomG k X.A) (hb : BindsTo s fd args (ps.zip us))
    (I : Inv X pins σ H s) (r : Vals vs us) (rd : RVs X.K μ H vs ds) (rm : RM X.K μ H) (h : sp ds μ Qd) (w : Wk X.K μ H Qd Q) : codeAny (model X.prog X.w) X.A (.call (.ref f) args) (fun r s' => match r with
      | .ok (.ret u) => EP X pins σ Q u s'
      | .ok _ => False
      | .error e => X.xe e s') s :=
  codeAny_mono (F.run X.A X.stack s H args us vs ds μ Qd Q hr I.env0 hb r rd rm h w) fun r s' hq => by
    cases r with
    | error e => exact hq.elim
    | ok fl =>
      cases fl with
      | ret u => exact I.after hq
      | next => exact hq.elim
      | brk => exact hq.elim
      | cont => exact hq.elim
def dCallF (sp : DSp) (t : DTA) : DT := fun δ μ Q => t δ μ fun ds μ1 => sp ds μ1 Q
theorem d_call (F : FnD X.prog X.w X.K X.mg X.base k f fd ps sp) (hr : RoomG k X.A) (hg : Gl X x) (hm : X.mg x = some (.ref f)) (hk : PySem.W.keepIn X.K (.ref f) = true) (hb : Binds X.K fd ps []) (ha : DA X (e :: es) tr)
    (hdb : (x == ("__debug__" : Str)) = false := by decide) (he : starEach (e :: es) X.env = (false, eval e X.env) :: starEach es X.env := by rfl) (hpl : (backTo pos (starEach es X.env)).any (·.1) = false := by rfl) :
    DE X (.Call (.Name x p) (e :: es) [] pos) (dCallF sp tr) := by
  refine ⟨fun pins s σ H Q I ⟨δ, μ, Qd, rs, rm, q, w⟩ => ?_⟩
  refine wpAny_Call_Name_kw (ld_glob I hg hm ?_ hdb)
  refine PySem.W.callWith_K (h₀ := X.base) I.ok.mod.kin hk ?_ he hpl
  refine thn (ha.run pos pins s σ H (fun vs H' => ∃ ds μ', Ext μ H μ' H' ∧ RM X.K μ' H' ∧ RVs X.K μ' H' vs ds ∧ sp ds μ' Qd) I (upA_use rs rm q fun ds μ' vs H' e1 m1 r1 q1 => ⟨ds, μ', e1, m1, r1, q1⟩)) ?_
  rintro us s1 ⟨vs, H1, I1, r, ds, μ1, e1, m1, r1, q1⟩
  refine ⟨I1.kIn, wpAny_call (codeAny_mono (run_D F hr (us := us) ?_ I1 r r1 m1 q1 (w.step e1)) fun r s' hq => ?_)⟩
  · have hl : us.length = ps.length := by rw [← r.length, Paired.length r1]; exact F.len _ _ _ q1
    have z := hb s1 us I1.kIn (by simpa using hl)
    simpa using z
  · exact hq
/-- how keywords alone bind: g puts the values in the parameters' order -/
structure KB (K : PySem.W.Frag) (fd : FuncData) (ps ks : List Str) (g : {α : Type} → List α → List α) : Prop where
  to : ∀ (s : Shared) (ws : List Value), ws.length = ks.length → BindsTo s fd ⟨[], ks.zip ws⟩ (ps.zip (g ws))
  rel : ∀ {R : V → Value → Prop} {vs : List V} {us : List Value}, vs.length = ks.length → Paired R vs us → Paired R (g vs) (g us)
  relD : ∀ {R : V → DV → Prop} {vs : List V} {us : List DV}, vs.length = ks.length → Paired R vs us → Paired R (g vs) (g us)
abbrev DKw (X : Cx) (kws : List Keyword) (t : DTA) : Prop := PK X kws (upA X.K t)
theorem pk_imp {kws : List Keyword} {t t' : TA} (h : PK X kws t) (w : ∀ σ H Q, t' σ H Q → t σ H Q) : PK X kws t' := ⟨fun pos pins s σ H Q I q => h.run pos pins s σ H Q I (w _ _ _ q)⟩
variable {kws : List Keyword} {nm : Option Str} {kpos : Pos} {te : DT}
theorem k_nil : DKw X [] aNil := pk_imp pk_nil fun σ H Q ⟨δ, μ, Qd, rs, rm, q, w⟩ => w [] μ [] H (.refl _ _) rm .nil q
theorem k_cons (ha : DE X e te) (hr : DKw X kws tr) : DKw X (⟨nm, e, kpos⟩ :: kws) (aCons te tr) :=
  pk_imp (pk_cons ha hr) fun σ H Q ⟨δ, μ, Qd, rs, rm, q, w⟩ => up_use rs rm q fun x μ1 v H1 e1 m1 r1 q1 => upA_use (rs.mono e1) m1 q1 fun xs μ2 vs H2 e2 m2 r2 q2 =>
    w (x :: xs) μ2 (v :: vs) H2 (e1.trans e2) m2 (.cons (r1.mono e2) r2) q2
def dCallK (sp : DSp) (n : Nat) (g : {α : Type} → List α → List α) (t : DTA) : DT := fun δ μ Q => t δ μ fun ds μ1 => ds.length = n ∧ sp (g ds) μ1 Q
theorem d_callK {ks : List Str} {g : {α : Type} → List α → List α} (F : FnD X.prog X.w X.K X.mg X.base k f fd ps sp) (hr : RoomG k X.A) (hg : Gl X x) (hm : X.mg x = some (.ref f)) (hk : PySem.W.keepIn X.K (.ref f) = true) (hb : KB X.K fd ps ks g) (ha : DKw X kws tr)
    (hall : (backToKw pos (keywordEach kws X.env)).all (·.1.isSome) = true := by rfl) (hks : (backToKw pos (keywordEach kws X.env)).filterMap (·.1) = ks := by rfl) (hdb : (x == ("__debug__" : Str)) = false := by decide)
    (hpl : ((backTo pos (starEach [] X.env)).any (·.1) || (backToKw pos (keywordEach kws X.env)).any (·.1.isNone)) = false := by rfl) :
    DE X (.Call (.Name x p) [] kws pos) (dCallK sp ks.length g tr) := by
  refine ⟨fun pins s σ H Q I ⟨δ, μ, Qd, rs, rm, q, w⟩ => ?_⟩
  refine wpAny_Call_Name_kw (ld_glob I hg hm ?_ hdb)
  refine PySem.W.callWith_KW0 (h₀ := X.base) I.ok.mod.kin hk hall ?_ hpl
  refine thn (ha.run pos pins s σ H (fun vs H' => ∃ ds μ', Ext μ H μ' H' ∧ RM X.K μ' H' ∧ RVs X.K μ' H' vs ds ∧ ds.length = ks.length ∧ sp (g ds) μ' Qd) I (upA_use rs rm q fun ds μ' vs H' e1 m1 r1 q1 => ⟨ds, μ', e1, m1, r1, q1⟩)) ?_
  rintro us s1 ⟨vs, H1, I1, r, ds, μ1, e1, m1, r1, hlen, q1⟩
  have hlv : vs.length = ks.length := (Paired.length r1).trans hlen
  refine ⟨I1.kIn, wpAny_call (codeAny_mono (run_D F hr (us := g us) ?_ I1 (hb.rel hlv r) (hb.relD hlv r1) m1 q1 (w.step e1)) fun r s' hq => hq)⟩
  rw [hks]
  exact hb.to s1 us (by rw [← r.length]; exact hlv)
end

/-! ### the law's end -/
def spTop (ns : List Int) : DSp := fun ds μ Q => ds = [.d (.list (ns.map .int))] ∧ (μ = fun _ => none) ∧ ∀ μ', Q (.d (.bool true)) μ'
theorem dtop_call {P : Program} {w : World} {K : PySem.W.Frag} {mg mb : Str → Option Value} {k : Nat} {fa a : Addr} {fd : FuncData} {x : Str} {s₁ : Shared} {vs : List Value} {ns : List Int} {sp : DSp}
    (KX : K.In s₁.heap) (hns : s₁.heap.Ns mainGlobals mg) (hb : s₁.heap.Ns builtinsNs mb) (hbb : ∀ x : Str, x ≠ "__name__" → mb x = bootBuiltins x) (hlim : s₁.heap.NoLimit) (hg : s₁.gens = #[])
    (ha : s₁.heap.get? a = some { cls := .type "list", data := .seq vs.toArray }) (hi : IntsAre vs ns) (hl : ns.length ≤ sizeLine) (hr : Room k callerA)
    (F : ∀ base : Heap, K.In base → base.Ns mainGlobals mg → FnD P w K mg base k fa fd [x] sp) (hbind : ∀ (s : Shared) (u : Value), BindsTo s fd ⟨[u], []⟩ [(x, u)])
    (hsp : sp [.d (.list (ns.map .int))] (fun _ => none) (fun d _ => d = .d (.bool true))) :
    codeAny (model P w) callerA (.call (.ref fa) ⟨[.ref a], []⟩) (fun r s' => r = .ok (.ret (.bool true)) ∧ OldK s₁.heap s'.heap ∧ s'.os = s₁.os ∧ AllBare s'.gens) s₁ := by
  have rv := vals_ints hi
  -- the heap that tracks the script alone, or nothing
  have main : ∀ H : Hp, (∀ b u, H b = some u → b = a ∧ K.lookup a = none ∧ u = .frz { cls := .type "list", data := .seq vs.toArray } (.lst (ns.map V.int))) → SqL K H a (ns.map V.int) → HOk P w H s₁.heap →
      codeAny (model P w) callerA (.call (.ref fa) ⟨[.ref a], []⟩) (fun r s' => r = .ok (.ret (.bool true)) ∧ OldK s₁.heap s'.heap ∧ s'.os = s₁.os ∧ AllBare s'.gens) s₁ := by
    intro H hA hS hok
    have keep : ∀ {b : Addr} {o : Obj}, s₁.heap.get? b = some o → (b = a → K.lookup a ≠ none ∨ ∃ es ep, o.data = .dict es ep) → H b = none := by
      intro b o e hno
      cases q : H b with
      | none => rfl
      | some u =>
        obtain ⟨e1, e2, _⟩ := hA b u q
        rcases hno e1 with z | ⟨es, ep, z⟩
        · exact absurd e2 z
        · rw [e1, ha] at e
          cases e
          cases (show Data.seq vs.toArray _ = Data.dict es ep from z)
    have bIn : K.In (hidT s₁.heap H) := fun b o e => hidT_get (KX b o e) (keep (KX b o e) fun z => .inl (by rw [← z, e]; simp))
    have bNs : ∀ {b : Addr} {m : Str → Option Value}, s₁.heap.Ns b m → (hidT s₁.heap H).Ns b m := fun ⟨o, es, ep, e, d, r⟩ => ⟨o, es, ep, hidT_get e (keep e fun _ => .inr ⟨es, ep, d⟩), d, r⟩
    have hM : Mod K mg (hidT s₁.heap H) := ⟨bIn, bNs hns, ⟨mb, bNs hb, hbb⟩, let ⟨mc, h1, h2⟩ := hlim; ⟨mc, bNs h1, h2⟩⟩
    have e0 : Env0 P w K mg (hidT s₁.heap H) callerA [] s₁ H := ⟨rfl, hM, fun b o e => of_hidT e, Nat.le_of_eq (hidT_size _ _), trivial, fun b hb => (nomatch hb), hok, .of_eq hg⟩
    have h0 : hid (fun _ => none) H = H := by funext b; rfl
    have hda : DaAll K (hid (fun _ => none) H) (ns.map V.int) (ns.map PyData.int) := DaAll.ints ns
    refine codeAny_mono ((F _ bIn (bNs hns)).run callerA [] s₁ H ⟨[.ref a], []⟩ [.ref a] [.ref a] [.d (.list (ns.map .int))] (fun _ => none) _ (fun v _ => v = .bl true) ⟨hr, rfl⟩ e0 (hbind s₁ (.ref a)) (.cons rfl .nil)
      (.cons (show Da K (hid (fun _ => none) H) (.ref a) (.list (ns.map .int)) from .lst (by rw [h0]; exact hS) hda) .nil) (fun b c e => by cases e) hsp fun d μ' v H' _ _ r q => ?_) fun r s' h => ?_
    · subst q
      cases (show Da K (hid μ' H') v (.bool true) from r)
      rfl
    · cases r with
      | error e => exact h.elim
      | ok fl =>
        cases fl with
        | next => exact h.elim
        | brk => exact h.elim
        | cont => exact h.elim
        | ret u =>
          obtain ⟨v, H', os, bare, un, hok', r', q⟩ := h
          have q' : v = .bl true := q
          subst q'
          cases (show u = Value.bool true from r')
          refine ⟨rfl, OldK.of_keep fun b o e => ?_, os, bare⟩
          cases q : H b with
          | none => exact un.keep b o e q (fun z => nomatch z) (fun z => nomatch z)
          | some u =>
            obtain ⟨_, _, e1⟩ := hA b u q
            subst e1
            obtain ⟨e2, _⟩ := hok b _ q
            obtain ⟨e3, _⟩ := hok' b _ (un.frzs b _ _ q)
            rw [e] at e2
            rw [e3, ← e2]
  cases hk : K.lookup a with
  | some o =>
    have e := KX a o hk
    rw [ha] at e
    cases e
    exact main (fun _ => none) (fun b u z => by cases z) (.inr ⟨_, vs.toArray, _, hk, rfl, rfl, rfl, by rw [List.size_toArray, hi.length]; exact hl, by simpa using rv⟩) fun b u z => by cases z
  | none =>
    refine main (fun b => if b = a then some (.frz { cls := .type "list", data := .seq vs.toArray } (.lst (ns.map V.int))) else none) (fun b u z => ?_) (.inl (.inr ⟨_, if_pos rfl⟩)) fun b u z => ?_
    · by_cases hb : b = a
      · rw [if_pos hb] at z; cases z; exact ⟨hb, hk, rfl⟩
      · rw [if_neg hb] at z; cases z
    · dsimp only at z
      by_cases hb : b = a
      · rw [if_pos hb] at z; cases z
        subst hb
        exact ⟨ha, by rw [List.length_map]; exact hl, vs, _, rv, ha⟩
      · rw [if_neg hb] at z; cases z
theorem dwalk {l : PySem.W.OpenLaw} {n k : Nat} {q : Program} {loose : List Str} {XP : (Str → Option Value) → Heap → Prop} {YP : World → Heap → Prop} {d : DefRec} {K : Params → PySem.W.Frag} {x : Str} {sp : DSp}
    (hn : l.most = some n) (hn2 : n ≤ sizeLine) (hdf : d.params.defaults = []) (hr : Room k callerA) (hY : ∀ (w : World) (h : Heap), YP w h → (K w.params).In h)
    (F : ∀ (w : World) (mg : Str → Option Value) (fa : Addr) (h : Heap), (K w.params).In h → h.Ns mainGlobals mg → mg d.name = some (.ref fa) →
      ∃ fd : FuncData, (∀ (s : Shared) (u : Value), BindsTo s fd ⟨[u], []⟩ [(x, u)]) ∧ ∀ base : Heap, (K w.params).In base → base.Ns mainGlobals mg → FnD l.prog w (K w.params) mg base k fa fd [x] sp)
    (hsp : ∀ ns : List Int, ns.length ≤ n → (∀ z ∈ ns, Builtin.Int.intBits z ≤ 1048576) → sp [.d (.list (ns.map .int))] (fun _ => none) (fun d _ => d = .d (.bool true))) :
    PySem.W.WalkO q loose XP YP l.row.toRowW d [] (fun f vs => PySem.call f vs) := by
  refine Att.attach_callB hn hdf fun w s₀ s₁ mg mb fa o pm cd doc a vs ns G Y ho hd hcd hmg hobj hints hlen hbits hg => ?_
  have KX := hY w _ Y
  obtain ⟨fd, hb, hF⟩ := F w mg fa _ KX G.T.g hmg
  exact dtop_call KX G.T.g G.T.b G.T.builtins G.T.nolimit hg hobj hints (Nat.le_trans hlen hn2) hr hF hb (hsp ns hlen hbits)
end DL

namespace DL
open PySem PySem.Spec PyProof.Rows L2
section
variable {X : Cx} {pos : Pos} {a b c e o : Expr} {ta tb tc te to ti : DT} {K : PySem.W.Frag}

/-! ### + of ints, tuples, lists, texts -/
def rdPlus : DR2 := fun x y μ Q => match x, y with
  | .d (.int i), .d (.int j) => Q (.d (.int (i + j))) μ
  | .d (.tuple xs), .d (.tuple ys) => xs.length + ys.length ≤ 100000 ∧ Q (.d (.tuple (xs ++ ys))) μ
  | .d (.str i), .d (.str j) => i.length + j.length ≤ sizeLine ∧ Q (.d (.str (i ++ j))) μ
  | _, _ => False
theorem u_plus : Up2 K rdPlus (fun x y H Q => rI0 (fun i j => .int (i + j)) x y H Q ∨ rCatP K x y H Q ∨ (∃ i j, x = .str i ∧ y = .str j ∧ i.length + j.length ≤ sizeLine ∧ Q (.str (i ++ j)) H)) := fun x y μ Qd v u H Q m rx ry q w => by
  unfold rdPlus at q
  split at q
  · next i j =>
    cases rx; cases ry
    exact .inl ⟨i, j, rfl, rfl, w (.d (.int (i + j))) μ _ H (.refl _ _) m (Da.int _) q⟩
  · next xs ys => exact .inr (.inl (u_cat _ _ μ Qd v u H Q m rx ry (show rdCat (.d (.tuple xs)) (.d (.tuple ys)) μ Qd from q) w))
  · next i j =>
    cases rx; cases ry
    exact .inr (.inr ⟨i, j, rfl, rfl, q.1, w (.d (.str (i ++ j))) μ _ H (.refl _ _) m (Da.str _) q.2⟩)
  · exact q.elim
theorem d_plus (ha : DE X a ta) (hb : DE X b tb) : DE X (.BinOp a .Add b pos) (dOp rdPlus ta tb) := d_op (op_add.or (opP_cat.or op_add_str)) u_plus ha hb

/-! ### == of anything -/
def rdEqX : DR2 := fun x y μ Q => match x, y with
  | .d (.int i), .d (.int j) => Q (.d (.bool (decide (i = j)))) μ
  | .d (.str i), .d (.str j) => Q (.d (.bool (decide (i = j)))) μ
  | .d (.bool i), .d (.bool j) => Q (.d (.bool (decide (i = j)))) μ
  | .d i, .d j => SeqAt.shaped i = true ∧ SeqAt.shaped j = true ∧ Q (.d (.bool (PyData.eqv i j))) μ
  | _, _ => False
theorem u_eqX : Up2 K rdEqX (fun x y H Q => rEq x y H Q ∨ rEqD K x y H Q) := fun x y μ Qd v u H Q m rx ry q w => by
  unfold rdEqX at q
  split at q
  · next i j => exact .inl (u_eq _ _ μ Qd v u H Q m rx ry (show rdEq (.d (.int i)) (.d (.int j)) μ Qd from q) w)
  · next i j => exact .inl (u_eq _ _ μ Qd v u H Q m rx ry (show rdEq (.d (.str i)) (.d (.str j)) μ Qd from q) w)
  · next i j => exact .inl (u_eq _ _ μ Qd v u H Q m rx ry (show rdEq (.d (.bool i)) (.d (.bool j)) μ Qd from q) w)
  · next i j _ _ _ => exact .inr (u_eqD _ _ μ Qd v u H Q m rx ry (show rdEqD (.d i) (.d j) μ Qd from q) w)
  · exact q.elim
def rdNeX : DR2 := fun x y μ Q => match x, y with
  | .d (.int i), .d (.int j) => Q (.d (.bool (!decide (i = j)))) μ
  | .d (.str i), .d (.str j) => Q (.d (.bool (!decide (i = j)))) μ
  | .d (.bool i), .d (.bool j) => Q (.d (.bool (!decide (i = j)))) μ
  | .d i, .d j => SeqAt.shaped i = true ∧ SeqAt.shaped j = true ∧ Q (.d (.bool (!PyData.eqv i j))) μ
  | _, _ => False
theorem u_neX : Up2 K rdNeX (fun x y H Q => rNe x y H Q ∨ rNeD K x y H Q) := fun x y μ Qd v u H Q m rx ry q w => by
  unfold rdNeX at q
  split at q
  · next i j => exact .inl (u_ne _ _ μ Qd v u H Q m rx ry (show rdNe (.d (.int i)) (.d (.int j)) μ Qd from q) w)
  · next i j => exact .inl (u_ne _ _ μ Qd v u H Q m rx ry (show rdNe (.d (.str i)) (.d (.str j)) μ Qd from q) w)
  · next i j => exact .inl (u_ne _ _ μ Qd v u H Q m rx ry (show rdNe (.d (.bool i)) (.d (.bool j)) μ Qd from q) w)
  · next i j _ _ _ =>
    exact .inr ⟨i, j, ((Da.mono unhid rx).dp (SeqAt.canLay_of_shaped q.1)), ((Da.mono unhid ry).dp (SeqAt.canLay_of_shaped q.2.1)), q.1, q.2.1, w (.d (.bool _)) μ _ H (.refl _ _) m (Da.bl _) q.2.2⟩
  · exact q.elim
theorem d_eqX (hu : X.A.units + 64 < cLine) (ha : DE X a ta) (hb : DE X b tb) : DE X (.Compare a [.Eq] [b] pos) (dOp rdEqX ta tb) := d_cmp (op_eq.or (op_eqD hu)) u_eqX ha hb (nomark _)
theorem d_neX (hu : X.A.units + 64 < cLine) (ha : DE X a ta) (hb : DE X b tb) : DE X (.Compare a [.NotEq] [b] pos) (dOp rdNeX ta tb) := d_cmp (op_ne.or (op_neD hu)) u_neX ha hb (nomark _)
theorem c_eqX (hu : X.A.units + 64 < cLine) (ha : DE X a ta) (hb : DE X b tb) : DC X (.Compare a [.Eq] [b] pos) (dB (dOp rdEqX ta tb)) := c_cmp (op_eq.or (op_eqD hu)) u_eqX ha hb (nomark _)
theorem c_neX (hu : X.A.units + 64 < cLine) (ha : DE X a ta) (hb : DE X b tb) : DC X (.Compare a [.NotEq] [b] pos) (dB (dOp rdNeX ta tb)) := c_cmp (op_ne.or (op_neD hu)) u_neX ha hb (nomark _)

/-! ### truth -/
def dTr (te : DT) : DTT := fun δ μ Q => te δ μ fun x μ1 => match x with
  | .d (.bool b) => Q b μ1
  | .d (.int i) => Q (i != 0) μ1
  | .d .none => Q false μ1
  | .d (.list xs) => Q (!xs.isEmpty) μ1
  | .d (.tuple xs) => Q (!xs.isEmpty) μ1
  | _ => False
theorem emp_da {H : Hp} {vs : List V} {ds : List PyData} (r : DaAll K H vs ds) : (!ds.isEmpty) = !vs.isEmpty := by cases r <;> rfl
theorem c_tr (ha : DE X a ta) (he : ∀ whole, isTrue a X.env whole = (do let v ← whole; standAt a.pos; holding [v] (truthy v)) := by intro _; rfl) : DC X a (dTr ta) := pt_imp (pt_truth ha he) fun σ H Q ⟨δ, μ, Qd, rs, rm, q, w⟩ => up_use rs rm q fun x μ1 v H1 e1 m1 r1 q1 => by
  split at q1
  · cases r1; exact ⟨_, rfl, w _ μ1 H1 e1 m1 q1⟩
  · cases r1; exact ⟨_, rfl, w _ μ1 H1 e1 m1 q1⟩
  · cases r1; exact ⟨_, rfl, w _ μ1 H1 e1 m1 q1⟩
  · next xs =>
    cases (show Da X.K (hid μ1 H1) v (.list xs) from r1) with
    | @lst p vs _ s t => exact ⟨_, .inl ⟨vs, unhid.seq s, rfl⟩, by rw [← emp_da t]; exact w _ μ1 H1 e1 m1 q1⟩
  · next xs =>
    cases (show Da X.K (hid μ1 H1) v (.tuple xs) from r1) with
    | @tup p vs _ s t => exact ⟨_, .inr (.inl ⟨vs, same_seqT unhid s, rfl⟩), by rw [← emp_da t]; exact w _ μ1 H1 e1 m1 q1⟩
  · exact q1.elim

/-! ### cells changed -/
theorem DaAll.set {H : Hp} : ∀ {vs : List V} {ds : List PyData} (i : Nat) {v : V} {d : PyData}, DaAll K H vs ds → Da K H v d → DaAll K H (vs.set i v) (ds.set i d)
  | _, _, _, _, _, .nil, _ => .nil
  | _, _, 0, _, _, .cons _ t, h => .cons h t
  | _, _, i + 1, _, _, .cons a t, h => .cons a (DaAll.set i t h)
theorem g_subL (ho : DE X o to) (hi : DE X b ti)
    (ha : ∀ v, assign (.Subscript o b pos) X.env v = (do
      let ov ← holding [v] (eval o X.env)
      let iv ← holding [v, ov] (eval b X.env)
      standAt pos
      holding [v, ov, iv] (setItem ov iv v)
      release [v, ov, iv] []) := by intro _; rfl) : DG true X (.Subscript o b pos) (gdSub to ti rdSetL) :=
  pg_imp (pg_sub ho hi set_list ha) fun v σ H Q ⟨δ, μ, d, Qd, rs, rm, r, q, w⟩ =>
    up_use rs rm q fun x μ1 ov H1 e1 m1 r1 q1 => up_use (rs.mono e1) m1 q1 fun y μ2 iv H2 e2 m2 r2 q2 => by
      unfold rdSetL at q2
      split at q2
      · next p k z =>
        split at q2
        · next xs ex =>
          split at q2
          · next j ej =>
            cases (show ov = .ref p from r1)
            cases r2
            obtain ⟨vs, h1, h2⟩ := m2 p _ ex
            refine ⟨p, vs, k, j, rfl, rfl, h1, by rw [h2.length]; exact ej, ?_⟩
            have e12 := e1.trans (e2.trans (ext_write (p := p) (o := .lst (vs.set j v)) (c := .lst (xs.set j z)) ex))
            refine w δ _ σ _ e12 (m2.write ex ⟨_, upd_same, ?_⟩) (rs.mono e12) q2
            exact (h2.set j ((show Da X.K (hid μ H) v z from r).mono (e1.trans e2))).mono (ext_write ex)
          · exact q2.elim
        · exact q2.elim
      · exact q2.elim
/-- xs.append(e) -/
def dAppend (to te : DT) : DT := fun δ μ Q => to δ μ fun x μ1 => match x with
  | .cell p => (∃ ys, μ1 p = some (.lst ys)) ∧ te δ μ1 fun y μ2 => match y, μ2 p with
    | .d d, some (.lst xs) => xs.length < 1000000 ∧ Q (.d .none) (put μ2 p (.lst (xs ++ [d])))
    | _, _ => False
  | _ => False
theorem d_append {apos cpos : Pos} (ho : DE X o to) (he : DE X e te)
    (hbase : attributeBase o "append" X.env (eval o X.env) = eval o X.env := by rfl)
    (hfew : ((backTo cpos (starEach [e] X.env)).all (fun x => !x.1) && (backToKw cpos (keywordEach [] X.env)).all (fun x => x.1.isSome)
      && decide ([e].length + ([] : List Keyword).length + (if ([] : List Keyword).isEmpty then 0 else 1) < 30)) = true := by rfl)
    (hline : (apos.endLine == cpos.line) = true := by rfl) (hs : starEach [e] X.env = (false, eval e X.env) :: starEach [] X.env := by rfl) (hplain : (backTo cpos (starEach [] X.env)).any (·.1) = false := by rfl) :
    DE X (.Call (.Attribute o "append" apos) [e] [] cpos) (dAppend to te) :=
  pe_imp (pe_bm PySem.F.plainAttrs_list PySem.F.slot_list_append PySem.F.type_list_append mt_append ho (pa_cons he pa_nil hs) hbase hfew hline hs hplain) fun σ H Q ⟨δ, μ, Qd, rs, rm, q, w⟩ =>
    up_use rs rm q fun x μ1 v H1 e1 m1 r1 q1 => by
      split at q1
      · next p =>
        obtain ⟨⟨ys, hy⟩, q1⟩ := q1
        cases (show v = .ref p from r1)
        obtain ⟨vs0, h01, h02⟩ := m1 p _ hy
        refine ⟨.inl ⟨rfl, vs0, .of h01⟩, up_use (rs.mono e1) m1 q1 fun y μ2 u H2 e2 m2 r2 q2 => ?_⟩
        split at q2
        · next d xs ex =>
          obtain ⟨vs, h1, h2⟩ := m2 p _ ex
          refine ⟨p, vs, u, rfl, rfl, h1, by rw [h2.length]; exact Nat.lt_of_lt_of_le q2.1 (by decide), ?_⟩
          refine w (.d .none) (put μ2 p (.lst (xs ++ [d]))) _ _ (e1.trans (e2.trans (ext_write ex))) (m2.write (c := .lst (xs ++ [d])) ex ⟨_, upd_same, ?_⟩) Da.non q2.2
          exact (h2.append (.cons r2 .nil)).mono (ext_write ex)
        · exact q2.elim
      · exact q1.elim

/-! ### a def that stands behind the top, and its promise -/
structure Cal (P : Program) (w : World) (K : PySem.W.Frag) (mg : Str → Option Value) (base : Heap) (k : Nat) (x : Str) (st : Stmt) (ps : List Str) (sp : DSp) : Prop where
  ex : ∃ f fd, FnD P w K mg base k f fd ps sp ∧ mg x = some (.ref f) ∧ Fun K x x st f fd
structure DefM (K : PySem.W.Frag) (mg : Str → Option Value) (x : Str) (st : Stmt) : Prop where
  ex : ∃ f fd, mg x = some (.ref f) ∧ Fun K x x st f fd
theorem Cal.mono {P : Program} {w : World} {mg : Str → Option Value} {base : Heap} {j k : Nat} {x : Str} {st : Stmt} {ps : List Str} {sp : DSp} (C : Cal P w K mg base j x st ps sp) (h : j ≤ k) : Cal P w K mg base k x st ps sp :=
  let ⟨f, fd, F, m, D⟩ := C.ex
  ⟨f, fd, F.mono h, m, D⟩
variable {k : Nat} {ps : List Str} {sp : DSp} {x : Str} {p : Pos} {es : List Expr} {tr : DTA} {st : Stmt}
theorem d_callC (C : Cal X.prog X.w X.K X.mg X.base k x st ps sp) (hr : RoomG k X.A) (hg : Gl X x) (hb : ∀ f fd, Fun X.K x x st f fd → Binds X.K fd ps []) (ha : DA X (e :: es) tr)
    (hdb : (x == ("__debug__" : Str)) = false := by decide) (he : starEach (e :: es) X.env = (false, eval e X.env) :: starEach es X.env := by rfl) (hpl : (backTo pos (starEach es X.env)).any (·.1) = false := by rfl) :
    DE X (.Call (.Name x p) (e :: es) [] pos) (dCallF sp tr) := by
  obtain ⟨f, fd, F, m, D⟩ := C.ex
  exact d_call F hr hg m D.kp (hb f fd D) ha hdb he hpl
theorem d_callCK {ks : List Str} {g : {α : Type} → List α → List α} {kws : List Keyword} (C : Cal X.prog X.w X.K X.mg X.base k x st ps sp) (hr : RoomG k X.A) (hg : Gl X x) (hb : ∀ f fd, Fun X.K x x st f fd → KB X.K fd ps ks g) (ha : DKw X kws tr)
    (hall : (backToKw pos (keywordEach kws X.env)).all (·.1.isSome) = true := by rfl) (hks : (backToKw pos (keywordEach kws X.env)).filterMap (·.1) = ks := by rfl) (hdb : (x == ("__debug__" : Str)) = false := by decide)
    (hpl : ((backTo pos (starEach [] X.env)).any (·.1) || (backToKw pos (keywordEach kws X.env)).any (·.1.isNone)) = false := by rfl) :
    DE X (.Call (.Name x p) [] kws pos) (dCallK sp ks.length g tr) := by
  obtain ⟨f, fd, F, m, D⟩ := C.ex
  exact d_callK F hr hg m D.kp (hb f fd D) ha hall hks hdb hpl
theorem Cal.of {P : Program} {w : World} {mg : Str → Option Value} {base : Heap} {N : List Str} {rd : DTS} (D : DefM K mg x st) (S : FnScope N ps (defScope st)) (len : ∀ ds μ Q, sp ds μ Q → ds.length = ps.length)
    (der : ∀ (f : Addr) (cdv : Value) (A : Around) (outer : List Env) (s : Shared) (H : Hp), RoomG k (A.deeper (envOfC x (defScope st) s.heap.objs.size f cdv)) → DSs (cxD P w K mg base N x (defScope st) f cdv A outer s H) (defBody st) rd)
    (R : ∀ ds μ Q, sp ds μ Q → rd { nx := fun _ μ' => Q (.d .none) μ', rt := Q } (dstart N.length ds) μ) : Cal P w K mg base (k + 1) x st ps sp := by
  obtain ⟨f, fd, m, F⟩ := D.ex
  exact ⟨f, fd, Fun.okD F S len fun cdv A outer s H hr => ⟨rd, der f cdv A outer s H hr, R⟩, m, F⟩
end
/-- what the built-in names stand for: none is a module's name -/
structure Bl (mg : Str → Option Value) : Prop where
  isinstance : mg "isinstance" = none
  int : mg "int" = none
  bool : mg "bool" = none
  str : mg "str" = none
  tuple : mg "tuple" = none
  list : mg "list" = none
  dict : mg "dict" = none
  len : mg "len" = none
  all : mg "all" = none
  any : mg "any" = none
  sum : mg "sum" = none
  abs : mg "abs" = none
  max : mg "max" = none
  min : mg "min" = none
  repr : mg "repr" = none
  range : mg "range" = none
  enumerate : mg "enumerate" = none
  zip : mg "zip" = none
  reversed : mg "reversed" = none
  sorted : mg "sorted" = none
  set : mg "set" = none
end DL

namespace DL
open PySem PySem.Spec PyProof.Rows L2

/-! ### a dict of the written part whose keys are ints -/
def keysI : List DictEntry → List Int → Bool
  | [], [] => true
  | e :: es, k :: ks => (match e.key with
    | .int i _ => i == k && e.hash == hashInt k
    | _ => false) && keysI es ks
  | _, _ => false
structure KInt (K : PySem.W.Frag) (a : Addr) (ks : List Int) : Prop where
  ex : ∃ (es : Array DictEntry) (n : Nat), K.lookup a = some ⟨.type "dict", none, .dict es n, #[]⟩ ∧ keysI es.toList ks = true
  nd : ks.Nodup
  low : (a == sysModules) = false
theorem keysI_pairs {P : Program} {w : World} : ∀ {es : List DictEntry} {ks : List Int}, keysI es ks = true → ∃ kvs : List (Key × Value), Pairs (mixKind P w) es kvs ∧ kvs.map (·.1) = ks.map Sum.inl ∧ ∀ e ∈ es, ∃ k, (mixKind P w).is k e.key = true ∧ e.hash = (mixKind P w).hash k
  | [], [], _ => ⟨[], .nil, rfl, fun e h => by cases h⟩
  | e :: es, k :: ks, h => by
    simp only [keysI, Bool.and_eq_true] at h
    obtain ⟨h1, h2⟩ := h
    obtain ⟨kvs, p, q, r⟩ := keysI_pairs (P := P) (w := w) h2
    obtain ⟨hh, kk, vv⟩ := e
    cases kk <;> simp at h1
    next i t =>
      obtain ⟨rfl, rfl⟩ := h1
      refine ⟨(Sum.inl i, vv) :: kvs, .cons (keyIs_int i t) rfl p, by rw [List.map_cons, List.map_cons, q], fun e he => ?_⟩
      rcases List.mem_cons.mp he with z | z
      · subst z; exact ⟨Sum.inl i, keyIs_int i t, rfl⟩
      · exact r e z
  | [], _ :: _, h => by simp [keysI] at h
  | _ :: _, [], h => by simp [keysI] at h
section
variable {X : Cx} {pos : Pos} {a b c e o : Expr} {ta tb tc te to ti : DT} {K : PySem.W.Frag}
theorem KInt.dict {P : Program} {w : World} {ad : Addr} {ks : List Int} (D : KInt K ad ks) {h : Heap} (I : K.In h) : ∃ kvs : List (Key × Value), h.DictOf (mixKind P w) ad kvs ∧ kvs.map (·.1) = ks.map Sum.inl := by
  obtain ⟨es, n, hl, hk⟩ := D.ex
  obtain ⟨kvs, p, q, r⟩ := keysI_pairs (P := P) (w := w) hk
  refine ⟨kvs, ⟨_, es, n, I _ _ hl, ⟨rfl, rfl, rfl⟩, rfl, fun e he => r e (by simpa using he), p, ?_⟩, q⟩
  rw [q]
  exact List.Pairwise.map _ (fun x y hxy z => hxy (Sum.inl.inj z)) D.nd
theorem valueAt_some {kvs : List (Key × Value)} {ks : List Int} (h : kvs.map (·.1) = ks.map Sum.inl) (i : Int) : (valueAt kvs (Sum.inl i : Key)).isSome = decide (i ∈ ks) := by
  unfold valueAt
  rw [Option.isSome_map, Bool.eq_iff_iff, List.find?_isSome, decide_eq_true_eq]
  constructor
  · rintro ⟨p, hp, e⟩
    have e' : p.1 = Sum.inl i := by simpa using e
    have : (Sum.inl i : Key) ∈ ks.map Sum.inl := by rw [← h, ← e']; exact List.mem_map_of_mem hp
    simpa using this
  · intro hi
    have : (Sum.inl i : Key) ∈ kvs.map (·.1) := by rw [h]; exact List.mem_map_of_mem hi
    obtain ⟨p, hp, e⟩ := List.mem_map.mp this
    exact ⟨p, hp, by simpa using e⟩
theorem op_inK {ad : Addr} {ks : List Int} (D : KInt X.K ad ks) : OpR X (compareOp .In) (fun x y H Q => ∃ i, x = .int i ∧ y = .ref ad ∧ Q (.bl (decide (i ∈ ks))) H) := by
  intro pins s σ H x y v u Q I rx ry h
  obtain ⟨i, rfl, rfl, q⟩ := h
  obtain ⟨t, rfl⟩ := rx
  cases ry
  obtain ⟨kvs, dd, e⟩ := D.dict (P := X.prog) (w := X.w) I.kIn
  refine wpAny_in_of (mixKind_int X.prog X.w i t) D.low dd.mapOf ?_
  rw [valueAt_some e]
  exact ⟨.bl _, H, I.tok _, rfl, q⟩
/-- x in D, D such a dict of the module -/
def dInK (ks : List Int) (ta : DT) : DT := fun δ μ Q => ta δ μ fun x μ1 => match x with
  | .d (.int i) => Q (.d (.bool (decide (i ∈ ks)))) μ1
  | _ => False
structure KName (K : PySem.W.Frag) (mg : Str → Option Value) (x : Str) (ks : List Int) : Prop where
  ex : ∃ ad, mg x = some (.ref ad) ∧ KInt K ad ks
theorem d_inK {x : Str} {p : Pos} {ks : List Int} (D : KName X.K X.mg x ks) (hg : Gl X x) (ha : DE X a ta) (hm : behindInMarks .In (.Name x p) = false := by rfl) (hdb : (x == ("__debug__" : Str)) = false := by decide) : DE X (.Compare a [.In] [.Name x p] pos) (dInK ks ta) := by
  obtain ⟨ad, m, D⟩ := D.ex
  exact pe_imp (pe_cmpR (op_inK D) ha (pe_glob (v := .ref ad) hg m rfl hdb) hm) fun σ H Q ⟨δ, μ, Qd, rs, rm, q, w⟩ => up_use rs rm q fun x μ1 v H1 e1 m1 r1 q1 => by
    split at q1
    · cases r1
      exact ⟨_, rfl, rfl, w (.d (.bool _)) μ1 _ H1 e1 m1 (Da.bl _) q1⟩
    · exact q1.elim
/-- a whole number of the module -/
structure KNum (mg : Str → Option Value) (x : Str) (n : Int) : Prop where
  ex : ∃ t, mg x = some (.int n t)
theorem d_num {x : Str} {p : Pos} {n : Int} (D : KNum X.mg x n) (hg : Gl X x) (hdb : (x == ("__debug__" : Str)) = false := by decide) : DE X (.Name x p) (dC (.int n)) := by
  obtain ⟨t, m⟩ := D.ex
  exact d_glob (v := .int n) hg m ⟨t, rfl⟩ (fun _ => .int n) hdb
end
end DL

namespace DL
open PySem PySem.Spec PyProof.Rows L2
local macro_rules | `(tactic| walk_at "dl") => `(tactic| simp only [dVar, dC, dOp, dUn, rdI, rdI0, rdU, dChain, dB, dAnd, dOr, dNot, dAndV, dOrV, dNotV, dIf, rdIsN, rdNotN, isNone, aNil, aCons, allD, dTup, dLst, dLstC, dCall, rdEq, rdNe, rdIn, seqOf, rdIx, dNo, dPart, dSl, rdLen, rdTuple, rdList, rdSum, rdAll, rdAny, rdAbs, rdMax2, rdMin2, rdInt, rdStr, dIsi, rdRepr, sNext, sSeq, sBreak, sCont, sRet, sDrop, sIf, sNever, gdName, setAll, gdTup, sAsg, sPar, rdSetL, gdSub, dwList, dwTup, dwRange1, dwRange2, dwEnum, dwZip, wipeD, dLc, dLcC, dYes, sFor, dCallF, dCallK, rdPlus, rdEqX, rdNeX, dTr, dAppend, dInK, dstart, List.map_cons, List.map_nil, List.length_cons, List.length_nil, List.replicate_succ, List.replicate_zero, List.cons_append, List.nil_append, List.getElem?_cons_zero, List.getElem?_cons_succ, List.getElem?_nil, List.set_cons_zero, List.set_cons_succ, Option.map_some, Option.map_none, Option.bind_some, Option.bind_none, Nat.reduceSub, Nat.reduceAdd, if_true, if_false, Bool.false_eq_true, reduceIte, Nat.sub_zero, Nat.zero_add, reduceCtorEq])
theorem atI0 {α : Type} {x : α} {xs : List α} : atI (x :: xs) 0 = some x := by
  simp [atI, ixN]
theorem atI1 {α : Type} {x y : α} {xs : List α} : atI (x :: y :: xs) 1 = some y :=
  (show atI (x :: y :: xs) ((1 : Nat) : Int) = some y from atI_nat rfl)
theorem atI_nat2 {α : Type} {xs : List α} {i : Nat} {x : α} (h : xs[i]? = some x) : atI xs (i : Int) = some x := atI_nat h
/-- a comprehension whose element is a function of the item -/
theorem lcGo_pure {gd : DTG} {tt : DTT} {te : DT} {δw : DSt} {D : Addr} {fin : List PyData → Mu → Prop} {f : PyData → PyData} {p : PyData → Bool} : ∀ (ds acc : List PyData) (μ : Mu), μ D = some (.lst acc) → acc.length + ds.length ≤ 900000 →
    (∀ d ∈ ds, ∀ (μ : Mu) (K1 : DK) (K0 : Mu → Prop), (p d = true → K1 (.d (f d)) μ) → (p d = false → K0 μ) → gd (.d d) δw μ fun δ2 μ2 => tt δ2 μ2 fun b μ3 => if b = true then te δ2 μ3 K1 else K0 μ3) →
    (∀ μ', (∀ b, b ≠ D → μ' b = μ b) → μ' D = some (.lst (acc ++ (ds.filter p).map f)) → fin (acc ++ (ds.filter p).map f) μ') → lcGo gd tt te δw D fin ds acc μ
  | [], acc, μ, hD, hl, H, q => by
    unfold lcGo
    simpa using q μ (fun _ _ => rfl) (by simpa using hD)
  | d :: ds, acc, μ, hD, hl, H, q => by
    unfold lcGo
    refine H d List.mem_cons_self μ _ _ (fun hp => ?_) (fun hp => ?_)
    · refine ⟨hD, by simp at hl; omega, lcGo_pure ds (acc ++ [f d]) _ put_same (by simp at hl ⊢; omega) (fun e he => H e (List.mem_cons_of_mem _ he)) fun μ' h1 h2 => ?_⟩
      have e : acc ++ [f d] ++ (ds.filter p).map f = acc ++ ((d :: ds).filter p).map f := by simp [List.filter_cons, hp]
      rw [e] at h2 ⊢
      exact q μ' (fun b hb => (h1 b hb).trans (put_ne hb)) h2
    · refine ⟨hD, lcGo_pure ds acc μ hD (by simp at hl; omega) (fun e he => H e (List.mem_cons_of_mem _ he)) fun μ' h1 h2 => ?_⟩
      have e : (ds.filter p).map f = ((d :: ds).filter p).map f := by simp [List.filter_cons, hp]
      rw [e] at h2 ⊢
      exact q μ' h1 h2
theorem lc_pure {gd : DTG} {tt : DTT} {te : DT} {δw : DSt} {f : PyData → PyData} {p : PyData → Bool} {ds : List PyData} {μ : Mu} {fin : Addr → List PyData → Mu → Prop} (hl : ds.length ≤ 900000)
    (H : ∀ d ∈ ds, ∀ (μ : Mu) (K1 : DK) (K0 : Mu → Prop), (p d = true → K1 (.d (f d)) μ) → (p d = false → K0 μ) → gd (.d d) δw μ fun δ2 μ2 => tt δ2 μ2 fun b μ3 => if b = true then te δ2 μ3 K1 else K0 μ3)
    (q : ∀ D μ', del μ' D = μ → fin D ((ds.filter p).map f) μ') : ∀ D, μ D = none → lcGo gd tt te δw D (fin D) ds [] (put μ D (.lst [])) := fun D hD =>
  lcGo_pure ds [] _ put_same (by simpa using hl) H fun μ' h1 h2 => by
    have e : del μ' D = μ := by
      funext b
      by_cases hb : b = D
      · subst hb; rw [del_same, hD]
      · rw [del_ne hb, h1 b hb, put_ne hb]
    simpa using q D μ' e
theorem lc_map {gd : DTG} {te : DT} {δw : DSt} {f : PyData → PyData} {ds : List PyData} {μ : Mu} {fin : Addr → List PyData → Mu → Prop} (hl : ds.length ≤ 900000)
    (H : ∀ d ∈ ds, ∀ (μ : Mu) (K1 : DK), K1 (.d (f d)) μ → gd (.d d) δw μ fun δ2 μ2 => te δ2 μ2 K1)
    (q : ∀ D μ', del μ' D = μ → fin D (ds.map f) μ') : ∀ D, μ D = none → lcGo gd dYes te δw D (fin D) ds [] (put μ D (.lst [])) :=
  lc_pure (p := fun _ => true) hl (fun d hd μ K1 K0 h1 _ => by
    show gd (.d d) δw μ fun δ2 μ2 => if true = true then te δ2 μ2 K1 else K0 μ2
    simp only [if_true]
    exact H d hd μ K1 (h1 rfl)) fun D μ' e => by rw [List.filter_eq_self.mpr (fun _ _ => rfl)]; exact q D μ' e
end DL

namespace DL
open PySem PySem.Spec PyProof.Rows L2
section
variable {prog : Program} {w : World} {A : Around} {E : Value → Shared → Prop} {s : Shared}
/-- what t[::-1] picks -/
theorem back_pick (xs : Array Value) : ((List.range xs.size).filterMap fun (k : Nat) => xs[(((xs.size : Int) - 1) + (k : Int) * (-1)).toNat]?).toArray = xs.toList.reverse.toArray := by
  congr 1
  have e : (List.range xs.size).filterMap (fun (k : Nat) => xs[(((xs.size : Int) - 1) + (k : Int) * (-1)).toNat]?) = (List.range xs.size).filterMap (fun (k : Nat) => xs.toList.reverse[k]?) := by
    have cg : ∀ (l : List Nat) (f g : Nat → Option Value), (∀ k ∈ l, f k = g k) → l.filterMap f = l.filterMap g := by
      intro l f g h
      induction l with
      | nil => rfl
      | cons a l ih => rw [List.filterMap_cons, List.filterMap_cons, h a List.mem_cons_self, ih fun k hk => h k (List.mem_cons_of_mem _ hk)]
    refine cg _ _ _ fun k hk => ?_
    have hk := List.mem_range.mp hk
    rw [show ((((xs.size : Int) - 1) + (k : Int) * (-1)).toNat) = xs.size - 1 - k by omega, List.getElem?_reverse (by simpa using hk)]
    simp
  rw [e]
  have h2 : ∀ l : List Value, (List.range l.length).filterMap (fun k => l[k]?) = l := by
    intro l
    induction l with
    | nil => rfl
    | cons x l ih =>
      rw [List.length_cons, List.range_succ_eq_map, List.filterMap_cons]
      simp only [List.getElem?_cons_zero, List.filterMap_map]
      have : (fun k => (x :: l)[k]?) ∘ Nat.succ = fun k => l[k]? := by funext k; simp
      rw [this, ih]
  have h3 := h2 xs.toList.reverse
  rw [List.length_reverse, Array.length_toList] at h3
  exact h3
theorem back_places (n : Nat) : Builtin.Slice.slicePlaces ((n : Int) - 1) (-1) (-1) = n := by
  unfold Builtin.Slice.slicePlaces
  by_cases h : (n : Int) - 1 > -1
  · rw [if_neg (by decide), if_pos h]
    have e : ((n : Int) - 1 - -1 - 1) / (- -1) = (n : Int) - 1 := by rw [show (- -1 : Int) = 1 by decide, Int.ediv_one]; omega
    rw [e]; omega
  · rw [if_neg (by decide), if_neg h]; omega
theorem tuple_back {t sl : Addr} {items : Array Value} {vl vu vs : Value} {Q : Value → Shared → Prop} (ht : IsTup s.heap t items) (hs : s.heap.IsSliceOf sl vl vu vs) (pl : IsPart vl none) (pu : IsPart vu none) (ps : IsPart vs (some (-1))) (hsz : items.size ≤ sizeLine)
    (h : Q (.ref s.heap.objs.size) { s with heap := s.heap.push { cls := .type "tuple", data := .seq items.toList.reverse.toArray } }) : wpAny (model prog w) A (getItem (.ref t) (.ref sl)) Q E s := by
  obtain ⟨os, hos, hcs, hds⟩ := id hs
  have hR : sizeOk (.seq items.toList.reverse.toArray) := by show items.toList.reverse.toArray.size ≤ sizeLine; simpa using hsz
  unfold getItem
  with_reducible refine wpAny_holding ?_
  refine wpAny_bind (wpAny_sequenceKey ht.typeIs (by decide) (wpAny_bind (wpAny_callSpecial?_slot (name := Str.ofString "__getitem__") ht.typeIs PyProof.Rows.slot_tuple_getitem (wpAny_call_entry PyProof.Rows.slot_tuple_getitem ht.typeIs entry_tuple_getitem ?_ (args_tuple_getitem _ _)))))
  show wpAny _ _ (Builtin.Tuple.tupleItemsOf (.ref t) >>= _) _ _ s
  refine wpAny_bind (tupleItemsOf_ ht (wpAny_bind (wpAny_typeOf (T := "slice") ⟨os, hos, hcs⟩ ?_)))
  rw [if_pos (by decide)]
  refine wpAny_bind ?_
  unfold Builtin.Slice.sliceApplied Builtin.Slice.sliceFields
  refine wpAny_bind (wpAny_bind (wpAny_field hos hds (x := vl) rfl (wpAny_bind (wpAny_field hos hds (x := vu) rfl (wpAny_bind (wpAny_field hos hds (x := vs) rfl (wpAny_pure ?_)))))))
  refine wpAny_bind (HT.slicePart_ ps ?_)
  show wpAny _ _ (if ((-1 : Int) == 0) = true then _ else _) _ _ s
  rw [if_neg (by decide)]
  refine wpAny_bind (HT.slicePart_ pl (wpAny_bind (HT.slicePart_ pu (wpAny_bind (wpAny_pure ?_)))))
  show wpAny _ _ (pure (((items.size : Int) - 1), (-1 : Int), Builtin.Slice.slicePlaces ((items.size : Int) - 1) (-1) (-1))) _ _ s
  rw [back_places]
  refine wpAny_pure ?_
  show wpAny _ _ (if (((items.size : Int) - 1) == 0 && (-1 : Int) == 1 && items.size == items.size) = true then _ else _) _ _ s
  rw [if_neg (by simp), back_pick]
  first
    | exact wpAny_bind (m := Builtin.Tuple.tupleExact _) (wpAny_newObj_type (wpAny_pure ⟨_, rfl, wpAny_pure h⟩) hR)
    | exact wpAny_bind (m := Builtin.Tuple.tupleExact _) (wpAny_newObj_type (wpAny_bind (wpAny_pure (wpAny_pure ⟨_, rfl, wpAny_pure h⟩))) hR)
    | exact wpAny_bind (wpAny_bind (m := Builtin.Tuple.tupleExact _) (wpAny_newObj_type (wpAny_pure (wpAny_pure ⟨_, rfl, wpAny_pure h⟩)) hR))
    | exact wpAny_bind (wpAny_bind (m := Builtin.Tuple.tupleExact _) (wpAny_newObj_type (wpAny_pure ⟨_, rfl, wpAny_pure h⟩) hR))
end
section
variable {X : Cx} {pos : Pos} {a b c e o : Expr} {ta tb tc te to ti : DT} {K : PySem.W.Frag}
/-- t[::-1] of a tuple -/
def dRev (te : DT) : DT := fun δ μ Q => te δ μ fun x μ1 => match x with
  | .d (.tuple xs) => Q (.d (.tuple xs.reverse)) μ1
  | .d (.list xs) => Q (.d (.list xs.reverse)) μ1
  | _ => False
theorem pe_back {k : Nat} {p1 p2 p3 : Pos} {t : TE} (he : PE X e t) : PE X (.Subscript e (.Slice none none (some (.UnaryOp .USub (.Constant (.int 1) k p1) p2)) p3) pos)
    (fun σ H Q => t σ H fun x H1 => ∃ a xs, x = .ref a ∧ ((SqT X.K H1 a xs ∧ NewT H1 xs.reverse Q) ∨ (SqL X.K H1 a xs ∧ ∀ p, H1 p = none → Q (.ref p) (upd H1 p (.lst xs.reverse))))) := by
  refine ⟨fun pins s σ H Q I h => Subscript_ (thn (he.run pins s σ H _ I h) ?_)⟩
  rintro v s1 ⟨x, H1, I1, r1, a, xs, rfl, q⟩
  cases r1
  have hst : PO X (some (.UnaryOp .USub (.Constant (.int 1) k p1) p2)) (tPart (tUn (rU fun i => .int (-i)) (tC (.int 1)))) := po_some (pe_un un_neg pe_int)
  refine wpAny_Slice (thn (po_none.run pins s1 σ H1 (fun o H2 => o = none ∧ H2 = H1) I1 ⟨rfl, rfl⟩) ?_)
  rintro vl s2 ⟨_, _, I2, pl, rfl, rfl⟩
  refine thn (po_none.run pins s2 σ _ (fun o H3 => o = none ∧ H3 = _) I2 ⟨rfl, rfl⟩) ?_
  rintro vu s3 ⟨_, _, I3, pu, rfl, rfl⟩
  refine thn (hst.run pins s3 σ _ (fun o H4 => o = some (-1) ∧ H4 = _) I3 ⟨1, rfl, -1, rfl, rfl, rfl⟩) ?_
  rintro vs s4 ⟨_, H4, I4, ps, rfl, rfl⟩
  have I5 : Inv X pins σ H4 { s4 with heap := s4.heap.push { cls := .type "slice", data := .fields #[vl, vu, vs] } } := I4.kept (t' := s4.toks) fun b ob q => Heap.get?_push_of_some _ q
  show wpAny (model X.prog X.w) X.A (subscriptTail e (.Slice none none (some (.UnaryOp .USub (.Constant (.int 1) k p1) p2)) p3) (.ref a) (.ref s4.heap.objs.size)) (EP X pins σ Q) X.xe _
  rcases q with ⟨hx, q⟩ | ⟨hx, q⟩
  · obtain ⟨its, r, ht, hz⟩ := I5.tuple hx
    have hlen := r.length
    refine tail_any (ops := [.ref a, .ref s4.heap.objs.size]) ht.typeIs PyProof.Rows.slot_tuple_getitem.lookup ?_ (by with_unfolding_all rfl)
    refine tuple_back ht (Heap.IsSliceOf.new _ vl vu vs) pl pu ps (by rw [List.size_toArray]; omega) ?_
    exact lay_tup I5 (by rw [List.length_reverse]; exact hz) r.reverse q
  · obtain ⟨its, r, ht, hz⟩ := I5.list hx
    have hlen := r.length
    refine tail_any (ops := [.ref a, .ref s4.heap.objs.size]) ht.isList.typeIs PySem.slot_list_getitem.lookup ?_ (by with_unfolding_all rfl)
    refine wpAny_getItem_list_slice ht.isList (Heap.IsSliceOf.new _ vl vu vs) pl pu ps (by decide) ?_ (by rw [List.size_toArray]; omega)
    rw [PySem.W.krv_pick]
    exact ⟨.ref _, _, I5.laid (t' := s4.toks) (o := .lst xs.reverse) (fun b ob q => Heap.get?_push_of_some _ q) (Nat.le_refl _) ⟨by rw [List.length_reverse]; exact hz, _, 0, r.reverse, Heap.get?_push_size _ rfl⟩, rfl, q _ (I5.hok.fresh (Nat.le_refl _))⟩
theorem d_rev {k : Nat} {p1 p2 p3 : Pos} (he : DE X e te) : DE X (.Subscript e (.Slice none none (some (.UnaryOp .USub (.Constant (.int 1) k p1) p2)) p3) pos) (dRev te) :=
  pe_imp (pe_back he) fun σ H Q ⟨δ, μ, Qd, rs, rm, q, w⟩ => up_use rs rm q fun x μ1 v H1 e1 m1 r1 q1 => by
    split at q1
    · next xs =>
      cases (show Da X.K (hid μ1 H1) v (.tuple xs) from r1) with
      | @tup p vs _ s t => exact ⟨p, vs, rfl, .inl ⟨same_seqT unhid s, wk_tup (w.step e1) m1 t.rev q1⟩⟩
    · next xs =>
      cases (show Da X.K (hid μ1 H1) v (.list xs) from r1) with
      | @lst p vs _ s t => exact ⟨p, vs, rfl, .inr ⟨unhid.seq s, fun p' hp => wk_lst (w.step e1) m1 t.rev q1 hp⟩⟩
    · exact q1.elim

/-! ### t == () -/
def rEqE (K : PySem.W.Frag) : R2 := fun x y H Q => ∃ a b xs, x = .ref a ∧ y = .ref b ∧ SqT K H a xs ∧ SqT K H b [] ∧ Q (.bl xs.isEmpty) H
theorem op_eqE (hu : X.A.units + 64 < cLine) : OpR X (compareOp .Eq) (rEqE X.K) := by
  intro pins s σ H x y v u Q I rx ry h
  obtain ⟨a, b, xs, rfl, rfl, ha, hb, q⟩ := h
  cases rx; cases ry
  obtain ⟨its, r, p, _⟩ := I.tuple ha
  obtain ⟨its2, r2, p2, _⟩ := I.tuple hb
  cases r2
  refine SeqAt.eq_tupleAt (e := fun _ => true) p p2 (by omega) (fun j h1 h2 => absurd h2 (by simp)) ⟨.bl _, H, I, ?_, q⟩
  show Value.bool _ = Value.bool _
  have hl := r.length
  cases xs with
  | nil => cases r; rfl
  | cons x xs =>
    congr 1
    cases its with
    | nil => simp at hl
    | cons y its => simp
def rdEqE : DR2 := fun x y μ Q => match x, y with
  | .d (.tuple xs), .d (.tuple []) => Q (.d (.bool xs.isEmpty)) μ
  | _, _ => False
theorem u_eqE : Up2 K rdEqE (rEqE K) := fun x y μ Qd v u H Q m rx ry q w => by
  unfold rdEqE at q
  split at q
  · next xs =>
    cases (show Da K (hid μ H) v (.tuple xs) from rx) with
    | @tup a vs _ s t =>
      cases (show Da K (hid μ H) u (.tuple []) from ry) with
      | @tup b ws _ s' t' =>
        cases t'
        refine ⟨a, b, vs, rfl, rfl, same_seqT unhid s, same_seqT unhid s', w (.d (.bool xs.isEmpty)) μ _ H (.refl _ _) m ?_ q⟩
        have e : xs.isEmpty = vs.isEmpty := by cases t <;> rfl
        rw [e]
        exact Da.bl _
  · exact q.elim
theorem d_eqE (hu : X.A.units + 64 < cLine) (ha : DE X a ta) (hb : DE X b tb) : DE X (.Compare a [.Eq] [b] pos) (dOp rdEqE ta tb) := d_cmp (op_eqE hu) u_eqE ha hb (nomark _)
theorem c_eqE (hu : X.A.units + 64 < cLine) (ha : DE X a ta) (hb : DE X b tb) : DC X (.Compare a [.Eq] [b] pos) (dB (dOp rdEqE ta tb)) := c_cmp (op_eqE hu) u_eqE ha hb (nomark _)

/-! ### dicts written out -/
def dDict0 : DT := fun _ μ Q => Q (.d (.dict [])) μ
theorem d_dict0 : DE X (.Dict [] [] pos) dDict0 := pe_imp pe_dnewK fun σ H Q ⟨δ, μ, Qd, rs, rm, q, w⟩ p hp =>
  w (.d (.dict [])) μ _ _ (ext_new hp) (rm.new hp) (Da.dct (kvs := []) (ds := []) (hid_new rm hp) .nil) q
/-- one entry, its key and its value written ints -/
def dDict1 (i j : Int) : DT := fun _ μ Q => Q (.d (.dict [(.int i, .int j)])) μ
theorem d_dict1 {i j : Int} {k1 k2 p1 p2} : DE X (.Dict [some (.Constant (.int i) k1 p1)] [.Constant (.int j) k2 p2] pos) (dDict1 i j) :=
  pe_imp (pe_disp (pps_cons pe_int pe_int pps_nil) rfl rfl (fun z => by cases z) (by show 1 ≤ 15; decide)) fun σ H Q ⟨δ, μ, Qd, rs, rm, q, w⟩ p hp => by
    refine ⟨upd_same, [(Sum.inl i, .int j)], rfl, by show 1 ≤ 15; decide, ?_⟩
    rw [upd_upd]
    exact w (.d (.dict [(.int i, .int j)])) μ _ _ (ext_new hp) (rm.new hp) (Da.dct (kvs := [(Sum.inl i, .int j)]) (ds := [.int j]) (hid_new rm hp) (.cons (.int j) .nil)) q
end
end DL

namespace DL
open PySem PySem.Spec PyProof.Rows L2

/-! ### the source of draws: a cell of three ints -/
def Src (n : Nat) (μ : Mu) (p : Addr) : Prop := ∃ a b c : Int, μ p = some (.lst [.int a, .int b, .int c]) ∧ 0 ≤ b ∧ b < 10 ^ 30 ∧ 0 ≤ c ∧ c ≤ n
def Oth (p : Addr) (μ μ' : Mu) : Prop := ∀ b, b ≠ p → μ' b = μ b
theorem Src.mono {n m : Nat} {μ : Mu} {p : Addr} (s : Src n μ p) (h : n ≤ m) : Src m μ p := by
  obtain ⟨a, b, c, h1, h2, h3, h4, h5⟩ := s
  exact ⟨a, b, c, h1, h2, h3, h4, by omega⟩
theorem Src.ne {n : Nat} {μ : Mu} {p D : Addr} (s : Src n μ p) (h : μ D = none) : D ≠ p := by
  obtain ⟨a, b, c, h1, _⟩ := s
  rintro rfl
  rw [h] at h1; cases h1
theorem Src.at {n : Nat} {μ μ' : Mu} {p : Addr} (s : Src n μ p) (h : μ' p = μ p) : Src n μ' p := by
  obtain ⟨a, b, c, h1, h2⟩ := s
  exact ⟨a, b, c, h.trans h1, h2⟩
theorem Oth.refl (p : Addr) (μ : Mu) : Oth p μ μ := fun _ _ => rfl
theorem Oth.trans {p : Addr} {μ μ1 μ2 : Mu} (a : Oth p μ μ1) (b : Oth p μ1 μ2) : Oth p μ μ2 := fun c h => (b c h).trans (a c h)
theorem Oth.put {p : Addr} {μ : Mu} {c : Cell} : Oth p μ (put μ p c) := fun _ h => put_ne h
/-- a comprehension whose element draws -/
theorem lcGo_src {gd : DTG} {te : DT} {δw : DSt} {D p : Addr} {fin : List PyData → Mu → Prop} {P : PyData → PyData → Prop} (B : Nat) (hne : D ≠ p) : ∀ (ds acc : List PyData) (μ : Mu) (n : Nat), μ D = some (.lst acc) → Src n μ p → acc.length + ds.length ≤ 900000 →
    (∀ d ∈ ds, ∀ (μ : Mu) (m : Nat) (K1 : DK), Src m μ p → n ≤ m → m + B ≤ n + B * ds.length → (∀ r μ', P d r → Src (m + B) μ' p → Oth p μ μ' → K1 (.d r) μ') → gd (.d d) δw μ fun δ2 μ2 => te δ2 μ2 K1) →
    (∀ rs μ', Paired P ds rs → Src (n + B * ds.length) μ' p → (∀ b, b ≠ p → b ≠ D → μ' b = μ b) → μ' D = some (.lst (acc ++ rs)) → fin (acc ++ rs) μ') → lcGo gd dYes te δw D fin ds acc μ
  | [], acc, μ, n, hD, hs, hl, H, q => by
    unfold lcGo
    have := q [] μ .nil (by simpa using hs) (fun _ _ _ => rfl) (by simpa using hD)
    simpa using this
  | d :: ds, acc, μ, n, hD, hs, hl, H, q => by
    unfold lcGo
    have e1 : B * (d :: ds).length = B + B * ds.length := by rw [List.length_cons, Nat.mul_succ]; omega
    simp only [dYes, if_true]
    refine H d List.mem_cons_self μ n _ hs (Nat.le_refl _) (by rw [e1]; omega) fun r μ' hp hs' ho => ?_
    have hD' : μ' D = some (.lst acc) := (ho D hne).trans hD
    refine ⟨hD', by simp at hl; omega, lcGo_src (P := P) B hne ds (acc ++ [r]) _ (n + B) put_same (hs'.at (put_ne hne.symm)) (by simp at hl ⊢; omega) (fun e he μ2 m K1 h1 h2 h3 h4 => H e (List.mem_cons_of_mem _ he) μ2 m K1 h1 (by omega) (by rw [e1]; omega) h4) fun rs μ2 h1 h2 h3 h4 => ?_⟩
    have := q (r :: rs) μ2 (.cons hp h1) (by rw [e1, ← Nat.add_assoc]; exact h2) (fun b hb hb2 => ((h3 b hb hb2).trans (put_ne hb2)).trans (ho b hb)) (by rw [h4]; simp)
    simpa using this
theorem lc_src {gd : DTG} {te : DT} {δw : DSt} {p : Addr} {fin : Addr → List PyData → Mu → Prop} {P : PyData → PyData → Prop} {ds : List PyData} {μ : Mu} {n : Nat} (B : Nat) (hs : Src n μ p) (hl : ds.length ≤ 900000)
    (H : ∀ d ∈ ds, ∀ (μ : Mu) (m : Nat) (K1 : DK), Src m μ p → n ≤ m → m + B ≤ n + B * ds.length → (∀ r μ', P d r → Src (m + B) μ' p → Oth p μ μ' → K1 (.d r) μ') → gd (.d d) δw μ fun δ2 μ2 => te δ2 μ2 K1)
    (q : ∀ D rs μ', Paired P ds rs → Src (n + B * ds.length) (del μ' D) p → Oth p μ (del μ' D) → fin D rs μ') : ∀ D, μ D = none → lcGo gd dYes te δw D (fin D) ds [] (put μ D (.lst [])) := fun D hD => by
  have hne := hs.ne hD
  refine lcGo_src (P := P) B hne ds [] _ n put_same (hs.at (put_ne hne.symm)) (by simpa using hl) H fun rs μ' h1 h2 h3 h4 => ?_
  rw [List.nil_append]
  refine q D rs μ' h1 (h2.at (del_ne hne.symm)) fun b hb => ?_
  by_cases hb2 : b = D
  · subst hb2; rw [del_same, hD]
  · rw [del_ne hb2, h3 b hb hb2, put_ne hb2]

/-! ### bits -/
theorem bits_le {i : Int} {k : Nat} (h : i.natAbs < 2 ^ k) : Builtin.Int.intBits i ≤ k := by
  unfold Builtin.Int.intBits
  split
  · exact Nat.zero_le _
  · next h0 =>
    have h1 : i.natAbs ≠ 0 := by
      intro z
      apply h0
      have : i = 0 := Int.natAbs_eq_zero.mp z
      simp [this]
    have := (Nat.log2_lt h1).mpr h
    omega
theorem Bits.of {i j : Int} {a b : Nat} (h1 : Builtin.Int.intBits i ≤ a) (h2 : Builtin.Int.intBits j ≤ b) (h : a + b < 100000000) : Bits i j := by unfold Bits; omega
theorem divW {j : Int} (h : 0 < j) (h2 : j < 2 ^ 1000) : ∀ i, CDivW i j := fun _ => by
  refine ⟨h, ?_⟩
  have : j.natAbs < 2 ^ 1000 := by omega
  exact Nat.lt_of_lt_of_le ((Nat.log2_lt (by omega)).mpr this) (by decide)
theorem powB {i j : Int} {k : Nat} (h0 : 0 ≤ j) (h : Builtin.Int.intBits i ≤ k) (h2 : (k : Int) * j ≤ 2 ^ 27) : CPowB i j := ⟨h0, Int.le_trans (Int.mul_le_mul_of_nonneg_right (by omega) h0) h2⟩

/-! ### small data -/
mutual
/-- ints and tuples of such -/
def tupInt : PyData → Bool
  | .int i => decide (i.natAbs < 10 ^ 62)
  | .tuple xs => tupIntAll xs
  | _ => false
def tupIntAll : List PyData → Bool
  | [] => true
  | x :: xs => tupInt x && tupIntAll xs
end
theorem tupIntAll_iff : ∀ xs : List PyData, tupIntAll xs = true ↔ ∀ x ∈ xs, tupInt x = true
  | [] => by simp [tupIntAll]
  | x :: xs => by simp [tupIntAll, tupIntAll_iff xs]
/-- what may be shown -/
structure Sz (k n : Nat) (d : PyData) : Prop where
  lv : d.leavesShort 70 = true
  sh : d.showable = true
  dp : d.depth ≤ k
  bk : d.bulk ≤ n
  mx : d.hasDict = true → noList d = true
theorem Sz.show {k n : Nat} {d : PyData} (s : Sz k n d) (hk : k ≤ 60) (hn : n ≤ 100000) : Show d := by
  refine ⟨s.sh, ?_, Nat.le_trans s.dp hk, s.mx⟩
  have h := PyData.shown_le_bulk 70 (by decide) d s.lv
  have h2 := s.bk
  rw [sizeLine_eq]
  have h3 : (70 + 2) * d.bulk ≤ 72 * 100000 := Nat.mul_le_mul (by decide) (by omega)
  omega
structure Pl (k n : Nat) (d : PyData) : Prop where
  ti : tupInt d = true
  dp : d.depth ≤ k
  bk : d.bulk ≤ n
theorem Pl.mono {k n k' n' : Nat} {d : PyData} (h : Pl k n d) (hk : k ≤ k') (hn : n ≤ n') : Pl k' n' d := ⟨h.ti, Nat.le_trans h.dp hk, Nat.le_trans h.bk hn⟩
theorem Sz.mono {k n k' n' : Nat} {d : PyData} (h : Sz k n d) (hk : k ≤ k') (hn : n ≤ n') : Sz k' n' d := ⟨h.lv, h.sh, Nat.le_trans h.dp hk, Nat.le_trans h.bk hn, h.mx⟩
theorem Pl.int {i : Int} (h : i.natAbs < 10 ^ 62) : Pl 0 0 (.int i) := ⟨by simp [tupInt, h], by simp [PyData.depth], by simp [PyData.bulk]⟩
theorem depthAll_le {k : Nat} : ∀ {xs : List PyData}, (∀ x ∈ xs, x.depth ≤ k) → PyData.depthAll xs ≤ k
  | [], _ => by simp [PyData.depthAll]
  | x :: xs, h => by
    simp only [PyData.depthAll]
    have h1 := h x List.mem_cons_self
    have h2 := depthAll_le (xs := xs) fun y hy => h y (List.mem_cons_of_mem _ hy)
    omega
theorem depthAll_mem {x : PyData} : ∀ {xs : List PyData}, x ∈ xs → x.depth ≤ PyData.depthAll xs
  | y :: xs, h => by
    simp only [PyData.depthAll]
    rcases List.mem_cons.mp h with e | h
    · subst e; omega
    · have := depthAll_mem h; omega
theorem bulkAll_le {n : Nat} : ∀ {xs : List PyData}, (∀ x ∈ xs, x.bulk ≤ n) → PyData.bulkAll xs ≤ xs.length * (n + 1)
  | [], _ => by simp [PyData.bulkAll]
  | x :: xs, h => by
    simp only [PyData.bulkAll, List.length_cons, Nat.succ_mul]
    have h1 := h x List.mem_cons_self
    have h2 := bulkAll_le (xs := xs) fun y hy => h y (List.mem_cons_of_mem _ hy)
    omega
theorem bulkAll_len : ∀ (xs : List PyData), xs.length ≤ PyData.bulkAll xs
  | [] => by simp
  | x :: xs => by simp only [PyData.bulkAll, List.length_cons]; have := bulkAll_len xs; omega
theorem bulkAll_mem {x : PyData} : ∀ {xs : List PyData}, x ∈ xs → x.bulk + 1 ≤ PyData.bulkAll xs
  | y :: xs, h => by
    simp only [PyData.bulkAll]
    rcases List.mem_cons.mp h with e | h
    · subst e; omega
    · have := bulkAll_mem h; omega
theorem bulkAll_append : ∀ (xs ys : List PyData), PyData.bulkAll (xs ++ ys) = PyData.bulkAll xs + PyData.bulkAll ys
  | [], ys => by simp [PyData.bulkAll]
  | x :: xs, ys => by simp only [List.cons_append, PyData.bulkAll, bulkAll_append xs ys]; omega
theorem Pl.tup {k n m : Nat} {xs : List PyData} (h : ∀ x ∈ xs, Pl k n x) (hl : xs.length ≤ m) : Pl (k + 1) (m * (n + 1)) (.tuple xs) := by
  refine ⟨?_, ?_, ?_⟩
  · simp only [tupInt]; exact (tupIntAll_iff xs).mpr fun x hx => (h x hx).ti
  · simp only [PyData.depth]; have := depthAll_le fun x hx => (h x hx).dp; omega
  · simp only [PyData.bulk]
    exact Nat.le_trans (bulkAll_le fun x hx => (h x hx).bk) (Nat.mul_le_mul_right _ hl)
theorem Pl.pair {k n m : Nat} {a b : PyData} (h1 : Pl k n a) (h2 : Pl k m b) : Pl (k + 1) (n + m + 2) (.tuple [a, b]) := by
  refine ⟨?_, ?_, ?_⟩
  · simp only [tupInt, tupIntAll, h1.ti, h2.ti, Bool.and_true]
  · simp only [PyData.depth, PyData.depthAll]; have := h1.dp; have := h2.dp; omega
  · simp only [PyData.bulk, PyData.bulkAll]; have := h1.bk; have := h2.bk; omega
theorem Pl.mem {k n : Nat} {xs : List PyData} (h : Pl (k + 1) n (.tuple xs)) {x : PyData} (hx : x ∈ xs) : Pl k n x := by
  refine ⟨?_, ?_, ?_⟩
  · have := h.ti; simp only [tupInt] at this; exact (tupIntAll_iff xs).mp this x hx
  · have := h.dp; simp only [PyData.depth] at this; have := depthAll_mem hx; omega
  · have := h.bk; simp only [PyData.bulk] at this; have := bulkAll_mem hx; omega
mutual
theorem tupInt_leaves : ∀ d : PyData, tupInt d = true → d.leavesShort 70 = true ∧ d.showable = true ∧ d.hasDict = false ∧ noList d = true
  | .int i, h => by
    have h' : i.natAbs < 10 ^ 62 := by simpa [tupInt] using h
    refine ⟨?_, ?_, by simp [PyData.hasDict], by simp [noList]⟩
    · have e : (PyData.shown (.int i)).length ≤ 70 := by
        show (Str.ofString (toString i)).length ≤ 70
        rw [PySem.ofString_length]
        exact Nat.le_trans (int_text_length_le10 (k := 62) (by decide) h') (by decide)
      simp only [PyData.leavesShort, decide_eq_true_eq]
      exact e
    · simp only [PyData.showable, decide_eq_true_eq]
      by_cases h0 : i.natAbs = 0
      · rw [h0]; decide
      · exact Nat.lt_of_lt_of_le ((Nat.log2_lt h0).mpr (Nat.lt_of_lt_of_le h' (by decide : 10 ^ 62 ≤ 2 ^ 207))) (by decide)
  | .tuple xs, h => by
    have := tupIntAll_leaves xs (by simpa only [tupInt] using h)
    simpa only [PyData.leavesShort, PyData.showable, PyData.hasDict, noList] using this
  | .none, h => by simp [tupInt] at h
  | .bool _, h => by simp [tupInt] at h
  | .str _, h => by simp [tupInt] at h
  | .list _, h => by simp [tupInt] at h
  | .dict _, h => by simp [tupInt] at h
theorem tupIntAll_leaves : ∀ xs : List PyData, tupIntAll xs = true → PyData.leavesShortAll 70 xs = true ∧ PyData.showableAll xs = true ∧ PyData.hasDictAll xs = false ∧ noListAll xs = true
  | [], _ => ⟨by simp [PyData.leavesShortAll], by simp [PyData.showableAll], by simp [PyData.hasDictAll], by simp [noListAll]⟩
  | x :: xs, h => by
    simp only [tupIntAll, Bool.and_eq_true] at h
    obtain ⟨a1, a2, a3, a4⟩ := tupInt_leaves x h.1
    obtain ⟨b1, b2, b3, b4⟩ := tupIntAll_leaves xs h.2
    simp [PyData.leavesShortAll, PyData.showableAll, PyData.hasDictAll, noListAll, a1, a2, a3, a4, b1, b2, b3, b4]
end
theorem Pl.sz {k n : Nat} {d : PyData} (h : Pl k n d) : Sz k n d := by
  obtain ⟨a, b, c, e⟩ := tupInt_leaves d h.ti
  exact ⟨a, b, h.dp, h.bk, fun z => by rw [c] at z; cases z⟩
end DL

namespace DL
open PySem PySem.Spec PyProof.Rows L2
section
variable {X : Cx} {pos : Pos} {tg iter elt : Expr} {ifs : List Expr} {te : DT} {tt : DTT} {wi : DTI} {g : TG} {gd : DTG} {scope : Scope} {own : List (Str × Nat)} {vs : List Nat}
/-- the same, the names' places told apart -/
theorem d_lcV {bb : Bool} (hc : X.calm = true) (hN : X.N.Nodup) (hi : DI bb X tg iter wi) (ok : BlkOk X.N X.env.scope scope own) (G : CompG bb X.K vs g gd)
    (hg : ∀ (s : Shared) (H : Hp) (C : Addr) (cl : List (Str × Addr)) (fp : List Addr), PG (X.blk s H scope (compEnvC scope cl C X.env) fp) tg g)
    (ht : ∀ (s : Shared) (H : Hp) (C : Addr) (cl : List (Str × Addr)) (fp : List Addr), DTs (X.blk s H scope (compEnvC scope cl C X.env) fp) ifs tt)
    (he : ∀ (s : Shared) (H : Hp) (C : Addr) (cl : List (Str × Addr)) (fp : List Addr), DE (X.blk s H scope (compEnvC scope cl C X.env) fp) elt te)
    (hv : own.map (·.2) = vs := by rfl) (hs : ∀ (x : Value), foldedSetIterable iter X.env x = pure x := by intro _; rfl) : DE X (.ListComp elt [⟨tg, iter, ifs, 0⟩] scope pos) (dLc wi gd tt te vs) := by
  subst hv
  exact d_lc hc hN hi ok G hg ht he hs
theorem d_lcCV {bb : Bool} (hc : X.calm = true) (hN : X.N.Nodup) (hi : DI bb X tg iter wi) (ok : BlkOk X.N X.env.scope scope own) (G : CompG bb X.K vs g gd)
    (hg : ∀ (s : Shared) (H : Hp) (C : Addr) (cl : List (Str × Addr)) (fp : List Addr), PG (X.blk s H scope (compEnvC scope cl C X.env) fp) tg g)
    (ht : ∀ (s : Shared) (H : Hp) (C : Addr) (cl : List (Str × Addr)) (fp : List Addr), DTs (X.blk s H scope (compEnvC scope cl C X.env) fp) ifs tt)
    (he : ∀ (s : Shared) (H : Hp) (C : Addr) (cl : List (Str × Addr)) (fp : List Addr), DE (X.blk s H scope (compEnvC scope cl C X.env) fp) elt te)
    (hv : own.map (·.2) = vs := by rfl) (hs : ∀ (x : Value), foldedSetIterable iter X.env x = pure x := by intro _; rfl) : DE X (.ListComp elt [⟨tg, iter, ifs, 0⟩] scope pos) (dLcC wi gd tt te vs) := by
  subst hv
  exact d_lcC hc hN hi ok G hg ht he hs
theorem s_setLcV {bb : Bool} {i : Nat} {y : Str} {py spos : Pos} (hc : X.calm = true) (hN : X.N.Nodup) (hy : X.N[i]? = some y) (hyl : X.env.scope.names.lookup y = some .local) (hsw : swapsWith (.ListComp elt [⟨tg, iter, ifs, 0⟩] scope pos) (some (.Name y py)) spos.line X.env = pure true)
    (hi : DI bb X tg iter wi) (ok : BlkOk X.N X.env.scope scope own) (G : CompG bb X.K vs g gd)
    (hg : ∀ (s : Shared) (H : Hp) (C : Addr) (cl : List (Str × Addr)) (fp : List Addr), PG (X.blk s H scope (compEnvC scope cl C X.env) fp) tg g)
    (ht : ∀ (s : Shared) (H : Hp) (C : Addr) (cl : List (Str × Addr)) (fp : List Addr), DTs (X.blk s H scope (compEnvC scope cl C X.env) fp) ifs tt)
    (he : ∀ (s : Shared) (H : Hp) (C : Addr) (cl : List (Str × Addr)) (fp : List Addr), DE (X.blk s H scope (compEnvC scope cl C X.env) fp) elt te)
    (hv : own.map (·.2) = vs := by rfl) (hs : ∀ (x : Value), foldedSetIterable iter X.env x = pure x := by intro _; rfl) : DS X (.Assign [.Name y py] (.ListComp elt [⟨tg, iter, ifs, 0⟩] scope pos) spos) (sAsg (dLc wi gd tt te vs) (gdName i)) := by
  subst hv
  exact s_setLc hc hN hy hyl hsw hi ok G hg ht he hs
end
section
variable {X : Cx} {pos : Pos} {x : Str} {p : Pos} {k : Nat} {ps : List Str} {sp : DSp} {st : Stmt} {tr : DTA}
theorem d_callCKV {n : Nat} {ks : List Str} {g : {α : Type} → List α → List α} {kws : List Keyword} (C : Cal X.prog X.w X.K X.mg X.base k x st ps sp) (hr : RoomG k X.A) (hg : Gl X x) (hb : ∀ f fd, Fun X.K x x st f fd → KB X.K fd ps ks g) (ha : DKw X kws tr) (hn : ks.length = n := by rfl)
    (hall : (backToKw pos (keywordEach kws X.env)).all (·.1.isSome) = true := by rfl) (hks : (backToKw pos (keywordEach kws X.env)).filterMap (·.1) = ks := by rfl) (hdb : (x == ("__debug__" : Str)) = false := by decide)
    (hpl : ((backTo pos (starEach [] X.env)).any (·.1) || (backToKw pos (keywordEach kws X.env)).any (·.1.isNone)) = false := by rfl) :
    DE X (.Call (.Name x p) [] kws pos) (dCallK sp n g tr) := by
  subst hn
  exact d_callCK C hr hg hb ha hall hks hdb hpl
end
end DL

namespace DL
open PySem PySem.Spec PyProof.Rows L2
section
variable {K : PySem.W.Frag} {h : Heap} {mg : Str → Option Value}
/-! ### the facts of the top -/
theorem def_mk {x : Str} {st : Stmt} {f : Addr} {oc : Value} {od an : Option Addr} {osl : Array (Option Value)} {kV doc pm cdv ct : Value} (X : K.In h) (G : h.Ns mainGlobals mg) (a : PySem.W.nsIn K mainGlobals x = some (some (.ref f)))
    (l : K.lookup f = some ⟨oc, od, .func (PySem.W.fnOf x x (defArgs st) (defBody st) (defScope st) .none kV doc pm an cdv ct), osl⟩) (c : PySem.W.codeIn K cdv x = true) (k : PySem.W.keepIn K (.ref f) = true) : DefM K mg x st :=
  ⟨⟨f, _, PySem.W.mg_of X G a, fun_mk (st := st) l c k⟩⟩
theorem kname_mk {x : Str} {ks : List Int} {ad : Addr} {es : Array DictEntry} {n : Nat} (X : K.In h) (G : h.Ns mainGlobals mg) (a : PySem.W.nsIn K mainGlobals x = some (some (.ref ad))) (l : K.lookup ad = some ⟨.type "dict", none, .dict es n, #[]⟩)
    (e : keysI es.toList ks = true) (nd : ks.Nodup) (o : (ad == sysModules) = false) : KName K mg x ks := ⟨⟨ad, PySem.W.mg_of X G a, ⟨⟨es, n, l, e⟩, nd, o⟩⟩⟩
theorem knum_mk {x : Str} {n : Int} {t : Nat} (X : K.In h) (G : h.Ns mainGlobals mg) (a : PySem.W.nsIn K mainGlobals x = some (some (.int n t))) : KNum mg x n := ⟨⟨t, PySem.W.mg_of X G a⟩⟩
end
theorem Cal.never {P : Program} {w : World} {K : PySem.W.Frag} {mg : Str → Option Value} {base : Heap} {k : Nat} {x : Str} {st : Stmt} {ps : List Str} (D : DefM K mg x st) : Cal P w K mg base k x st ps (fun _ _ _ => False) := by
  obtain ⟨f, fd, m, F⟩ := D.ex
  exact ⟨f, fd, ⟨fun _ _ _ h => h.elim, fun _ _ _ _ _ _ _ _ _ _ _ _ _ _ _ _ _ h _ => h.elim⟩, m, F⟩
theorem bl_mk {K : PySem.W.Frag} {h : Heap} {mg : Str → Option Value} (X : K.In h) (G : h.Ns mainGlobals mg)
    (b_isinstance : PySem.W.nsIn K mainGlobals "isinstance" = some none) (b_int : PySem.W.nsIn K mainGlobals "int" = some none) (b_bool : PySem.W.nsIn K mainGlobals "bool" = some none) (b_str : PySem.W.nsIn K mainGlobals "str" = some none) (b_tuple : PySem.W.nsIn K mainGlobals "tuple" = some none) (b_list : PySem.W.nsIn K mainGlobals "list" = some none) (b_dict : PySem.W.nsIn K mainGlobals "dict" = some none) (b_len : PySem.W.nsIn K mainGlobals "len" = some none) (b_all : PySem.W.nsIn K mainGlobals "all" = some none) (b_any : PySem.W.nsIn K mainGlobals "any" = some none) (b_sum : PySem.W.nsIn K mainGlobals "sum" = some none) (b_abs : PySem.W.nsIn K mainGlobals "abs" = some none) (b_max : PySem.W.nsIn K mainGlobals "max" = some none) (b_min : PySem.W.nsIn K mainGlobals "min" = some none) (b_repr : PySem.W.nsIn K mainGlobals "repr" = some none) (b_range : PySem.W.nsIn K mainGlobals "range" = some none) (b_enumerate : PySem.W.nsIn K mainGlobals "enumerate" = some none) (b_zip : PySem.W.nsIn K mainGlobals "zip" = some none) (b_reversed : PySem.W.nsIn K mainGlobals "reversed" = some none) (b_sorted : PySem.W.nsIn K mainGlobals "sorted" = some none) (b_set : PySem.W.nsIn K mainGlobals "set" = some none) : Bl mg := ⟨PySem.W.mg_none_of X G b_isinstance, PySem.W.mg_none_of X G b_int, PySem.W.mg_none_of X G b_bool, PySem.W.mg_none_of X G b_str, PySem.W.mg_none_of X G b_tuple, PySem.W.mg_none_of X G b_list, PySem.W.mg_none_of X G b_dict, PySem.W.mg_none_of X G b_len, PySem.W.mg_none_of X G b_all, PySem.W.mg_none_of X G b_any, PySem.W.mg_none_of X G b_sum, PySem.W.mg_none_of X G b_abs, PySem.W.mg_none_of X G b_max, PySem.W.mg_none_of X G b_min, PySem.W.mg_none_of X G b_repr, PySem.W.mg_none_of X G b_range, PySem.W.mg_none_of X G b_enumerate, PySem.W.mg_none_of X G b_zip, PySem.W.mg_none_of X G b_reversed, PySem.W.mg_none_of X G b_sorted, PySem.W.mg_none_of X G b_set⟩
end DL

namespace DL
open PySem PySem.Spec PyProof.Rows L2

/-! ### dict cells: ints to ints -/
def tget (t : List (Int × Int)) (k : Int) : Option Int := (t.find? fun p => decide (p.1 = k)).map (·.2)
def tput (t : List (Int × Int)) (k v : Int) : List (Int × Int) := if (t.any fun p => decide (p.1 = k)) = true then t.map (fun p => if p.1 = k then (p.1, v) else p) else t ++ [(k, v)]
def tbl (t : List (Int × Int)) : Cell := .dct (t.map fun p => ((Sum.inl p.1 : Key), PyData.int p.2))
def vt (t : List (Int × Int)) : List (Key × V) := t.map fun p => ((Sum.inl p.1 : Key), V.int p.2)
theorem pairs_eq {α β : Type} : ∀ {xs ys : List (α × β)}, xs.map (·.1) = ys.map (·.1) → xs.map (·.2) = ys.map (·.2) → xs = ys
  | [], [], _, _ => rfl
  | [], _ :: _, h, _ => by simp at h
  | _ :: _, [], h, _ => by simp at h
  | x :: xs, y :: ys, h1, h2 => by
    simp only [List.map_cons, List.cons.injEq] at h1 h2
    rw [pairs_eq h1.2 h2.2, Prod.ext h1.1 h2.1]
theorem tbl_v {K : PySem.W.Frag} {μ : Mu} {H : Hp} {a : Addr} {t : List (Int × Int)} (h : CellOk K μ H a (tbl t)) : H a = some (.dK (vt t)) := by
  obtain ⟨ks, h1, h2, h3⟩ := h
  have e : ((t.map fun p => ((Sum.inl p.1 : Key), PyData.int p.2)).map (·.2)) = (t.map (·.2)).map PyData.int := by simp [Function.comp_def]
  rw [e] at h3
  have e3 := h3.ints_inv
  have : ks = vt t := pairs_eq (by rw [h2]; simp [vt, Function.comp_def]) (by rw [e3]; simp [vt, Function.comp_def])
  rw [h1, this]
theorem v_tbl {K : PySem.W.Frag} {μ : Mu} {H : Hp} {a : Addr} {t : List (Int × Int)} (h : H a = some (.dK (vt t))) : CellOk K μ H a (tbl t) := by
  refine ⟨vt t, h, by simp [vt, Function.comp_def], ?_⟩
  have e : ((t.map fun p => ((Sum.inl p.1 : Key), PyData.int p.2)).map (·.2)) = (t.map (·.2)).map PyData.int := by simp [Function.comp_def]
  have e2 : (vt t).map (·.2) = (t.map (·.2)).map V.int := by simp [vt, Function.comp_def]
  rw [e, e2]
  exact DaAll.ints _
theorem inl_eq {a b : Int} : ((Sum.inl a : Key) = Sum.inl b) ↔ a = b := ⟨fun h => Sum.inl.inj h, fun h => by rw [h]⟩
theorem vt_val {t : List (Int × Int)} {k : Int} : valV (vt t) (Sum.inl k : Key) = (tget t k).map V.int := by
  unfold valV tget vt
  induction t with
  | nil => rfl
  | cons p t ih =>
    simp only [List.map_cons, List.find?_cons, inl_eq]
    by_cases h : p.1 = k
    · simp [h]
    · simp only [h, decide_false]
      exact ih
theorem vt_put {t : List (Int × Int)} {k v : Int} : putK (vt t) (Sum.inl k : Key) (V.int v) = vt (tput t k v) := by
  unfold putK tput vt
  have e : ((t.map fun p => ((Sum.inl p.1 : Key), V.int p.2)).any fun kv => decide (kv.1 = (Sum.inl k : Key))) = t.any fun p => decide (p.1 = k) := by
    rw [List.any_map]
    congr 1
    funext p
    simp [inl_eq]
  rw [e]
  by_cases h : (t.any fun p => decide (p.1 = k)) = true
  · rw [if_pos h, if_pos h, List.map_map, List.map_map]
    congr 1
    funext p
    simp only [Function.comp, inl_eq]
    split <;> rfl
  · rw [if_neg h, if_neg h, List.map_append]; rfl
section
variable {X : Cx} {pos : Pos} {a b c e f o i : Expr} {ta tb tc te tf to ti : DT} {K : PySem.W.Frag}
/-- {} as a cell -/
def dDictC : DT := fun _ μ Q => ∀ p, μ p = none → Q (.cell p) (put μ p (tbl []))
theorem d_dictC : DE X (.Dict [] [] pos) dDictC := pe_imp pe_dnewK fun σ H Q ⟨δ, μ, Qd, rs, rm, q, w⟩ p hp =>
  w (.cell p) _ _ _ (ext_cell hp) (rm.cell hp (v_tbl (t := []) upd_same)) rfl (q p (rm.free hp))
/-- d.get(k, e), d a cell -/
def dGetC (to ti td : DT) : DT := fun δ μ Q => to δ μ fun x μ1 => match x with
  | .cell p => (∃ t, μ1 p = some (tbl t)) ∧ ti δ μ1 fun y μ2 => td δ μ2 fun z μ3 => match y, z with
    | .d (.int k), .d (.int d) => ∃ t, μ3 p = some (tbl t) ∧ Q (.d (.int ((tget t k).getD d))) μ3
    | _, _ => False
  | _ => False
theorem d_getC {apos cpos : Pos} (hu : X.A.units + 64 < cLine) (ho : DE X o to) (he : DE X e te) (hf : DE X f tf) (m : M2 X o "get" apos e f cpos := by exact ⟨rfl, rfl, rfl, rfl⟩) : DE X (.Call (.Attribute o "get" apos) [e, f] [] cpos) (dGetC to te tf) :=
  pe_imp (pe_dget2 (by omega) ho he hf m) fun σ H Q ⟨δ, μ, Qd, rs, rm, q, w⟩ => up_use rs rm q fun x μ1 v H1 e1 m1 r1 q1 => by
    split at q1
    · next p =>
      obtain ⟨⟨t, ht⟩, q1⟩ := q1
      cases (show v = .ref p from r1)
      refine ⟨p, rfl, .inl ⟨_, .inl (tbl_v (m1 p _ ht))⟩, up_use (rs.mono e1) m1 q1 fun y μ2 u H2 e2 m2 r2 q2 => up_use ((rs.mono e1).mono e2) m2 q2 fun z μ3 u3 H3 e3 m3 r3 q3 => ?_⟩
      split at q3
      · next k d =>
        obtain ⟨t3, ht3, q3⟩ := q3
        cases (show Da X.K (hid μ2 H2) u (.int k) from r2)
        cases (show Da X.K (hid μ3 H3) u3 (.int d) from r3)
        refine ⟨_, DGet.k (k := (Sum.inl k : Key)) (tbl_v (m3 p _ ht3)), ?_⟩
        rw [vt_val]
        refine w _ _ _ _ (e1.trans (e2.trans e3)) m3 ?_ q3
        cases tget t3 k with
        | none => exact Da.int _
        | some g => exact Da.int _
      · exact q3.elim
    · exact q1.elim
/-- d[k], d a cell -/
def dIxC (to ti : DT) : DT := fun δ μ Q => to δ μ fun x μ1 => ti δ μ1 fun y μ2 => match x, y with
  | .cell p, .d (.int k) => ∃ t v, μ2 p = some (tbl t) ∧ tget t k = some v ∧ Q (.d (.int v)) μ2
  | _, _ => False
theorem d_ixC (hu : X.A.units + 64 < cLine) (ho : DE X o to) (hi : DE X i ti) (hs : NoSl i := by exact fun _ _ => rfl) : DE X (.Subscript o i pos) (dIxC to ti) :=
  pe_imp (pe_dget (by omega) ho hi hs) fun σ H Q ⟨δ, μ, Qd, rs, rm, q, w⟩ => up_use rs rm q fun x μ1 v H1 e1 m1 r1 q1 => up_use (rs.mono e1) m1 q1 fun y μ2 u H2 e2 m2 r2 q2 => by
    split at q2
    · next p k =>
      obtain ⟨t, z, ht, hz, q2⟩ := q2
      cases (show v = .ref p from r1)
      cases (show Da X.K (hid μ2 H2) u (.int k) from r2)
      have g := DGet.k (k := (Sum.inl k : Key)) (tbl_v (m2 p _ ht))
      rw [vt_val, hz] at g
      exact ⟨p, .int z, rfl, g, w (.d (.int z)) μ2 _ H2 (e1.trans e2) m2 (Da.int _) q2⟩
    · exact q2.elim
/-- d[k] = v, d a cell -/
def rdSetD : DV → DV → DV → Mu → (Mu → Prop) → Prop := fun o i v μ Q => match o, i, v with
  | .cell p, .d (.int k), .d (.int x) => ∃ t, μ p = some (tbl t) ∧ t.length < 900000 ∧ Q (put μ p (tbl (tput t k x)))
  | _, _, _ => False
theorem g_subD (hu : X.A.units + 64 < cLine) (ho : DE X o to) (hi : DE X b ti)
    (ha : ∀ v, assign (.Subscript o b pos) X.env v = (do
      let ov ← holding [v] (eval o X.env)
      let iv ← holding [v, ov] (eval b X.env)
      standAt pos
      holding [v, ov, iv] (setItem ov iv v)
      release [v, ov, iv] []) := by intro _; rfl) : DG true X (.Subscript o b pos) (gdSub to ti rdSetD) :=
  pg_imp (pg_sub ho hi (set_dict (by omega)) ha) fun v σ H Q ⟨δ, μ, d, Qd, rs, rm, r, q, w⟩ =>
    up_use rs rm q fun x μ1 ov H1 e1 m1 r1 q1 => up_use (rs.mono e1) m1 q1 fun y μ2 iv H2 e2 m2 r2 q2 => by
      unfold rdSetD at q2
      split at q2
      · next p k z =>
        obtain ⟨t, ht, hl, q2⟩ := q2
        cases (show ov = .ref p from r1)
        cases (show Da X.K (hid μ2 H2) iv (.int k) from r2)
        cases (show Da X.K (hid μ H) v (.int z) from r)
        have hH := tbl_v (m2 p _ ht)
        refine ⟨p, _, rfl, DPut.k (k := (Sum.inl k : Key)) (v := .int z) hH ?_, ?_⟩
        · simp only [vt, List.length_map]; exact Nat.lt_of_lt_of_le hl (by decide)
        · rw [vt_put]
          have e12 := e1.trans (e2.trans (ext_write (p := p) (o := .dK (vt (tput t k z))) (c := tbl (tput t k z)) ht))
          exact w δ _ σ _ e12 (m2.write ht (v_tbl upd_same)) (rs.mono e12) q2
      · exact q2.elim
end

/-! ### sorted(d) of int keys, any number -/
theorem call_sortedK {X : Cx} (hcalm : X.calm = true) : CallR X (.builtin "sorted") (fun xs H Q => ∃ (a : Addr) (kvs : List (Key × V)) (ks : List Int), xs = [.ref a] ∧ Rd H a (.dK kvs) ∧ kvs.map (·.1) = ks.map Sum.inl ∧ ks.length ≤ sizeLine ∧
    ∀ (ys : List Int) (p : Addr), ys.Perm ks → ys.Pairwise (· ≤ ·) → H p = none → Q (.ref p) (upd H p (.lst (ys.map V.int)))) := by
  intro pins s σ H xs us Q I r q
  obtain ⟨a, kvs, ks, ex, hd, hks, h64, q⟩ := q
  subst ex
  obtain ⟨u, eu, rx⟩ := vals1 r
  subst eu
  cases rx
  obtain ⟨z, lo, vs, rel, dd⟩ := dk_rd I.hok hd
  obtain ⟨ep, hat⟩ := dd.dictAt
  have hkeys : vs.map (·.1) = ks.map Sum.inl := rel.keys.symm.trans hks
  have hl : vs.length = ks.length := by simpa using congrArg List.length hkeys
  refine Calls.call_function_entry kind_sorted plain_sorted entry_sorted (args_sorted1 _) ?_
  unfold Builtin.«sorted»
  refine wpAny_bind (m := checkCount "sorted" 1 1 _) (wpAny_pure ?_)
  refine wpAny_bind (PySem.W.kdu_collect (A := X.A.in1) (PySem.W.kdl_dict (knd := mixKind X.prog X.w) (kvs := vs) (ep := ep) lo) (I.ok.hd hcalm) hat (by rw [hl]; exact h64) fun h' tk acc hk hacc => ?_)
  have hal : acc.toList.length = ks.length := by rw [Array.length_toList, hacc.1, hl]
  have hS : IntsAre acc.toList ks := ints_each hal fun j v e => by
    obtain ⟨k, x, e1, e2⟩ := hacc.2 j v (by rw [← Array.getElem?_toList]; exact e)
    have e3 : (vs.map (·.1))[j]? = some k := by rw [List.getElem?_map, e1]; rfl
    rw [hkeys, List.getElem?_map] at e3
    cases e4 : ks[j]? with
    | none => rw [e4] at e3; cases e3
    | some y =>
      rw [e4] at e3
      cases (Option.some.inj e3 : Sum.inl y = k)
      rcases keyIs_shape (show keyIs (Sum.inl y) v = true from e2) with ⟨i, t, ek, ev⟩ | ⟨z, t, ek, ev⟩
      · cases ek
        exact ⟨y, t, rfl, ev⟩
      · cases ek
  have I1 : Inv X pins σ H { s with heap := h', toks := tk } := I.kept hk
  refine wpAny_bind (wpAny_newList ?_ (by rw [hal]; exact h64))
  have hoL : (h'.push (seqObj "list" acc.toList.toArray 0)).get? h'.objs.size = some (seqObj "list" acc.toList.toArray 0) := Heap.get?_push_size _ rfl
  show wpAny _ _ _ _ _ { s with heap := h'.push (seqObj "list" acc.toList.toArray 0), toks := tk }
  refine wpAny_bind (wpAny_holding (wpAny_call_entry slot_list_sort ⟨_, hoL, rfl⟩ entry_list_sort
    (SrtO.list_sort_ord (s := { s with heap := h'.push (seqObj "list" acc.toList.toArray 0), toks := tk }) SrtO.swo_int hoL (by rw [hal]; exact h64) (fun h2 => SrtO.ints_sortable hS h2) fun out h1 h2 => ⟨.none, rfl, ?_⟩) (args_list_sort _)))
  obtain ⟨k1, k2, k3⟩ := SrtO.ints_out hS h1 h2
  obtain ⟨e', he'⟩ := sortedHeap_at (vs := acc.toList) (out := out.toArray) hoL
  have hlen : ((out.map SrtO.iv).map V.int).length ≤ sizeLine := by
    rw [List.length_map, k2.length_eq]; exact h64
  refine wpAny_pure ⟨_, rfl, .ref h'.objs.size, upd H h'.objs.size (.lst ((out.map SrtO.iv).map V.int)), I1.laid (t' := tk) (fun b u e => ?_) (Nat.le_refl _)
    (show ObjOk X.prog X.w _ _ _ (.lst ((out.map SrtO.iv).map V.int)) from ⟨hlen, out, e', vals_of_ints k1, he'⟩), rfl, q _ _ k2 k3 (I1.hok.fresh (Nat.le_refl _))⟩
  have hb : b < h'.objs.size := Heap.lt_size e
  rw [sortedHeap_old (Nat.ne_of_lt hb) (by rw [size_push']; exact Nat.lt_succ_of_lt hb)]
  exact Heap.get?_push_of_some _ e
def rdSortD : DRA := fun ds μ Q => match ds with
  | [.cell p] => ∃ t, μ p = some (tbl t) ∧ t.length ≤ 900000 ∧ ∀ ys : List Int, ys.Perm (t.map (·.1)) → ys.Pairwise (· ≤ ·) → Q (.d (.list (ys.map .int))) μ
  | _ => False
theorem u_sortD {K : PySem.W.Frag} : UpA K rdSortD (fun xs H Q => ∃ (a : Addr) (kvs : List (Key × V)) (ks : List Int), xs = [.ref a] ∧ Rd H a (.dK kvs) ∧ kvs.map (·.1) = ks.map Sum.inl ∧ ks.length ≤ sizeLine ∧
    ∀ (ys : List Int) (p : Addr), ys.Perm ks → ys.Pairwise (· ≤ ·) → H p = none → Q (.ref p) (upd H p (.lst (ys.map V.int)))) := fun ds μ Qd vs H Q m r q w => by
  unfold rdSortD at q
  split at q
  · next p =>
    obtain ⟨t, ht, hl, q⟩ := q
    cases r with
    | cons r t0 =>
      cases t0
      cases (show _ = V.ref p from r)
      refine ⟨p, vt t, t.map (·.1), rfl, .inl (tbl_v (m p _ ht)), by simp [vt, Function.comp_def], by rw [List.length_map]; exact Nat.le_trans hl (by decide), fun ys a hp hs ha => ?_⟩
      exact w (.d (.list (ys.map .int))) μ _ _ (ext_new ha) (m.new ha) (.lst (.of (by rw [hid_new m ha])) (DaAll.ints ys)) (q ys hp hs)
  · exact q.elim
end DL

namespace DL
open PySem PySem.Spec PyProof.Rows L2
section
variable {X : Cx} {pos : Pos} {a b c e f o i tg : Expr} {ta tb tc te tf to ti : DT} {K : PySem.W.Frag}
/-! ### more of ints -/
def rdShr : DR2 := rdI (fun _ j => 0 ≤ j) fun i j => .int (i / 2 ^ j.toNat)
theorem d_shr (ha : DE X a ta) (hb : DE X b tb) : DE X (.BinOp a .RShift b pos) (dOp rdShr ta tb) := d_op op_shr (up_I fun _ _ _ => .int _) ha hb
def rdBand : DR2 := rdI0 fun i j => .int (Builtin.bitAnd i j)
theorem d_band (ha : DE X a ta) (hb : DE X b tb) : DE X (.BinOp a .BitAnd b pos) (dOp rdBand ta tb) := d_op op_and (up_I0 fun _ _ _ => .int _) ha hb
theorem band1 (n : Nat) : Builtin.bitAnd (n : Int) 1 = ((n % 2 : Nat) : Int) := by
  rw [bitAnd_m1]
  omega
def rdBitl : DR1 := rdU fun i => .int (Builtin.Int.intBits i : Nat)
theorem d_bitl {apos : Pos} (ho : DE X o to) (hbase : attributeBase o "bit_length" X.env (eval o X.env) = eval o X.env := by rfl) (hline : (apos.endLine == pos.line) = true := by rfl) : DE X (.Call (.Attribute o "bit_length" apos) [] [] pos) (dUn rdBitl to) :=
  pe_imp (pe_bits ho hbase hline) fun σ H Q ⟨δ, μ, Qd, rs, rm, q, w⟩ => up_use rs rm q fun x μ1 v H1 e1 m1 r1 q1 => by
    unfold rdBitl rdU at q1
    split at q1
    · next i =>
      cases (show Da X.K (hid μ1 H1) v (.int i) from r1)
      exact ⟨i, rfl, w (.d (.int _)) μ1 _ H1 e1 m1 (Da.int _) q1⟩
    · exact q1.elim
/-! ### reversed(range(n)) -/
def downD (n : Nat) : List PyData := (List.range n).map fun (i : Nat) => .int ((n : Int) - 1 - (i : Int))
theorem downD_get {n i : Nat} : (downD n)[i]? = if i < n then some (.int ((n : Int) - 1 - (i : Int))) else none := by
  unfold downD
  by_cases h : i < n
  · rw [if_pos h]; simp [List.getElem?_map, h]
  · rw [if_neg h]; simp [List.getElem?_map, h]
theorem walk_down {μ : Mu} {H : Hp} {n : Nat} {lo : Int} (hlo : lo = (n : Int) - 1) : Walk true K μ H (Itc lo (-1) n) (downD n) := fun i μ' H' e m => by
  rw [downD_get]
  by_cases h : i < n
  · rw [if_pos h]
    refine ⟨fun d hd => ⟨h, fun x H2 ⟨e1, e2⟩ => ?_⟩, fun z => by cases z⟩
    cases hd
    subst e1; subst e2
    rw [show lo + (i : Nat) * (-1 : Int) = (n : Int) - 1 - (i : Int) by omega]
    exact ⟨.refl _ _, m, .int _⟩
  · rw [if_neg h]
    exact ⟨fun d hd => (by cases hd), fun _ => Nat.le_of_not_lt h⟩
def dwDown (te : DT) : DTI := fun δ μ Q => te δ μ fun x μ1 => match x with
  | .d (.int j) => (-(2 ^ 62) ≤ j ∧ j < 2 ^ 62) ∧ Q (downD j.toNat) μ1
  | _ => False
theorem i_down {p p2 pos2 : Pos} (hg : Gl X "reversed") (hm : X.mg "reversed" = none) (hg2 : Gl X "range") (hm2 : X.mg "range" = none) (ha : DE X a ta) (na : starEach [a] X.env = (false, eval a X.env) :: starEach [] X.env := by rfl)
    (hs : starEach [.Call (.Name "range" p2) [a] [] pos2] X.env = (false, eval (.Call (.Name "range" p2) [a] [] pos2) X.env) :: starEach [] X.env := by rfl) :
    DI true X tg (.Call (.Name "reversed" p) [.Call (.Name "range" p2) [a] [] pos2] [] pos) (dwDown ta) :=
  pi_imp (pi_revR hg hm (prg_1 hg2 hm2 ha na) hs) fun σ H R ⟨δ, μ, Qd, rs, rm, q, w⟩ => up_use rs rm q fun x μ1 v H1 e1 m1 r1 q1 => by
    split at q1
    · next j =>
      cases (show Da X.K (hid μ1 H1) v (.int j) from r1)
      refine ⟨j, rfl, by decide, by decide, q1.1.1, q1.1.2, ?_⟩
      rw [Int.sub_zero]
      exact w _ μ1 H1 _ e1 m1 (walk_down (by omega)) q1.2
    · exact q1.elim
/-! ### list(..) as a cell; repr of a cell -/
def rdListC : DRA := fun ds μ Q => match ds with
  | [.d (.list xs)] => ∀ p, μ p = none → Q (.cell p) (put μ p (.lst xs))
  | [.d (.tuple xs)] => ∀ p, μ p = none → Q (.cell p) (put μ p (.lst xs))
  | _ => False
theorem u_listC : UpA K rdListC (fun xs H Q => ∃ p ys, xs = [.ref p] ∧ (SqL K H p ys ∨ SqT K H p ys) ∧ ∀ l, H l = none → Q (.ref l) (upd H l (.lst ys))) := fun ds μ Qd vs H Q m r q w => by
  unfold rdListC at q
  split at q
  · next xs =>
    cases r with
    | cons r t0 =>
      cases t0
      cases (show Da K (hid μ H) _ (.list xs) from r) with
      | @lst p ys _ s t =>
        refine ⟨p, ys, rfl, .inl (unhid.seq s), fun l hl => w (.cell l) (put μ l (.lst xs)) _ _ (ext_cell hl) (m.cell (c := .lst xs) hl ⟨ys, upd_same, t.mono (ext_cell hl)⟩) rfl (q l (m.free hl))⟩
  · next xs =>
    cases r with
    | cons r t0 =>
      cases t0
      cases (show Da K (hid μ H) _ (.tuple xs) from r) with
      | @tup p ys _ s t =>
        refine ⟨p, ys, rfl, .inr (same_seqT unhid s), fun l hl => w (.cell l) (put μ l (.lst xs)) _ _ (ext_cell hl) (m.cell (c := .lst xs) hl ⟨ys, upd_same, t.mono (ext_cell hl)⟩) rfl (q l (m.free hl))⟩
  · exact q.elim
def rdReprC : DRA := fun ds μ Q => match ds with
  | [.cell p] => ∃ xs, μ p = some (.lst xs) ∧ Show (.list xs) ∧ Q (.d (.str (PyData.list xs).shown)) μ
  | _ => False
theorem u_reprC : UpA K rdReprC (rRepr K) := fun ds μ Qd vs H Q m r q w => by
  unfold rdReprC at q
  split at q
  · next p =>
    obtain ⟨xs, hx, hS, q⟩ := q
    cases r with
    | cons r t0 =>
      cases t0
      cases (show _ = V.ref p from r)
      obtain ⟨ys, h1, h2⟩ := m p _ hx
      exact ⟨.ref p, .list xs, rfl, .lst (.of h1) (h2.mono unhid), hS, w (.d (.str _)) μ _ H (.refl _ _) m (Da.str _) q⟩
  · exact q.elim
end
/-! ### a dict of the module, ints to tuples of ints -/
/-- the tuples that stand at the entries -/
inductive KVals (K : PySem.W.Frag) : List DictEntry → List (Int × List Int) → Prop
  | nil : KVals K [] []
  | cons {h k : Int} {tk : Tok} {es : List DictEntry} {ns : List Int} {t : List (Int × List Int)} {b : Addr} {o : Obj} {its : Array Value} {n : Nat} : h = hashInt k → K.lookup b = some o → TupO o → o.data = .seq its n → its.size ≤ 1000 → IntsAre its.toList ns → KVals K es t → KVals K (⟨h, .int k tk, .ref b⟩ :: es) ((k, ns) :: t)
structure KTup (K : PySem.W.Frag) (mg : Str → Option Value) (x : Str) (t : List (Int × List Int)) : Prop where
  ex : ∃ (ad : Addr) (es : Array DictEntry) (n : Nat), mg x = some (.ref ad) ∧ K.lookup ad = some ⟨.type "dict", none, .dict es n, #[]⟩ ∧ KVals K es.toList t ∧ (t.map (·.1)).Nodup ∧ (ad == sysModules) = false
def lkp (t : List (Int × List Int)) (k : Int) : Option (List Int) := (t.find? fun p => decide (p.1 = k)).map (·.2)
theorem KVals.use {K : PySem.W.Frag} {P : Program} {w : World} {es : List DictEntry} {t : List (Int × List Int)} (h : KVals K es t) : ∃ kvs : List (Key × Value), Pairs (mixKind P w) es kvs ∧ kvs.map (·.1) = (t.map (·.1)).map Sum.inl ∧ (∀ e ∈ es, ∃ k, (mixKind P w).is k e.key = true ∧ e.hash = (mixKind P w).hash k) ∧
    ∀ k ns, lkp t k = some ns → ∃ (b : Addr), valueAt kvs (Sum.inl k : Key) = some (.ref b) ∧ ∀ H : Hp, SqP K H b (ns.map V.int) := by
  induction h with
  | nil => exact ⟨[], .nil, rfl, fun e h => (by cases h), fun k ns e => (by simp [lkp] at e)⟩
  | @cons hh k tk es ns t b o its n h0 h1 h2 h3 h4 h5 _ ih =>
    obtain ⟨kvs, a1, a2, a3, a4⟩ := ih
    subst h0
    refine ⟨(Sum.inl k, .ref b) :: kvs, .cons (keyIs_int k tk) rfl a1, by rw [List.map_cons, List.map_cons, List.map_cons, a2], fun e he => ?_, fun k2 ns2 e => ?_⟩
    · rcases List.mem_cons.mp he with z | z
      · subst z; exact ⟨Sum.inl k, keyIs_int k tk, rfl⟩
      · exact a3 e z
    · unfold lkp at e
      rw [List.find?_cons] at e
      by_cases hk : k = k2
      · subst hk
        simp only [decide_true, Option.map_some, Option.some.injEq] at e
        subst e
        refine ⟨b, by simp [valueAt], fun H => .inr ⟨o, its, n, h1, h2, h3, Nat.le_trans h4 (by decide), vals_of_ints h5⟩⟩
      · simp only [hk, decide_false] at e
        obtain ⟨b2, c1, c2⟩ := a4 k2 ns2 e
        refine ⟨b2, ?_, c2⟩
        rw [← c1]
        unfold valueAt
        rw [List.find?_cons, decide_eq_false (show ¬ (Sum.inl k : Key) = Sum.inl k2 from fun z => hk (Sum.inl.inj z))]
/-- D[k], D such a dict -/
def dIxK (t : List (Int × List Int)) (ti : DT) : DT := fun δ μ Q => ti δ μ fun y μ1 => match y with
  | .d (.int k) => match lkp t k with
    | some ns => Q (.d (.tuple (ns.map .int))) μ1
    | none => False
  | _ => False
theorem d_ixK {X : Cx} {i : Expr} {ti : DT} {x : Str} {p pos : Pos} {t : List (Int × List Int)} (D : KTup X.K X.mg x t) (hg : Gl X x) (hi : DE X i ti) (hs : NoSl i := by exact fun _ _ => rfl) (hdb : (x == ("__debug__" : Str)) = false := by decide) :
    DE X (.Subscript (.Name x p) i pos) (dIxK t ti) := by
  obtain ⟨ad, es, n, m, l, kv, nd, low⟩ := D.ex
  obtain ⟨kvs, a1, a2, a3, a4⟩ := KVals.use (P := X.prog) (w := X.w) kv
  refine ⟨fun pins s σ H Q I ⟨δ, μ, Qd, rs, rm, q, w⟩ => ?_⟩
  refine subD_of PySem.F.slot_dict_getitem.lookup hs (thn ((pe_glob (v := .ref ad) hg m rfl hdb).run pins s σ H (fun v H1 => v = .ref ad ∧ H1 = H) I ⟨rfl, rfl⟩) fun u s1 ⟨x1, H1, I1, rx, q1⟩ => ?_)
  obtain ⟨rfl, rfl⟩ := q1
  obtain rfl : u = Value.ref ad := rx
  refine thn (hi.run pins s1 σ _ (fun y H2 => ∃ k ns μ2, y = .int k ∧ lkp t k = some ns ∧ Ext μ H1 μ2 H2 ∧ RM X.K μ2 H2 ∧ Qd (.d (.tuple (ns.map .int))) μ2) I1 (up_use rs rm q fun y μ1 v H2 e1 m1 r1 q1 => ?_)) fun iv s2 ⟨y, H2, I2, ry, k, ns, μ2, ey, el, e2, m2, q2⟩ => ?_
  · split at q1
    · next k =>
      split at q1
      · next ns e =>
        cases (show Da X.K (hid μ1 H2) v (.int k) from r1)
        exact ⟨k, ns, μ1, rfl, e, e1, m1, q1⟩
      · exact q1.elim
    · exact q1.elim
  · subst ey
    obtain ⟨tk, rfl⟩ := ry
    have dd : s2.heap.DictOf (mixKind X.prog X.w) ad kvs := ⟨_, es, n, I2.kIn _ _ l, ⟨rfl, rfl, rfl⟩, rfl, fun e he => a3 e (by simpa using he), a1, by rw [a2]; exact List.Pairwise.map _ (fun x y hxy z => hxy (Sum.inl.inj z)) nd⟩
    obtain ⟨b, c1, c2⟩ := a4 k ns el
    refine ⟨dd.typeIs, wpAny_getItem_of (mixKind_int X.prog X.w k tk) dd.mapOf c1 ?_⟩
    exact ⟨.ref b, H2, I2.tok _, rfl, w (.d (.tuple (ns.map .int))) μ2 _ H2 e2 m2 (.tup (c2 _) (DaAll.ints ns)) q2⟩
end DL

namespace DL
open PySem PySem.Spec PyProof.Rows L2
section
variable {X : Cx} {pos : Pos} {a b c : Expr} {ta tb tc : DT}
theorem up_chain {rd rd' : DR2} {rv rv' : R2} (h : Up2 X.K rd rv) (h' : Up2 X.K rd' rv') : ∀ σ H Q, up X.K (dChain rd rd' ta tb tc) σ H Q → tChain rv rv' (up X.K ta) (up X.K tb) (up X.K tc) σ H Q := fun σ H Q ⟨δ, μ, Qd, rs, rm, q, w⟩ =>
  up_use rs rm q fun x μ1 v H1 e1 m1 r1 q1 => up_use (rs.mono e1) m1 q1 fun y μ2 u H2 e2 m2 r2 q2 => h x y μ2 _ v u H2 _ m2 (r1.mono e2) r2 q2 fun z μ3 p H3 e3 m3 r3 q3 => by
    split at q3
    · cases r3
      exact ⟨true, rfl, by
        rw [if_pos rfl]
        exact up_use (rs.mono (e1.trans (e2.trans e3))) m3 q3 fun k μ4 w' H4 e4 m4 r4 q4 => h' y k μ4 Qd u w' H4 Q m4 (r2.mono (e3.trans e4)) r4 q4 (w.step (e1.trans (e2.trans (e3.trans e4))))⟩
    · cases r3
      refine ⟨false, rfl, ?_⟩
      rw [if_neg Bool.false_ne_true]
      exact w (.d (.bool false)) μ3 _ H3 (e1.trans (e2.trans e3)) m3 (Da.bl false) q3
    · exact q3.elim
theorem c_chain {op op' : CmpOp} {rd rd' : DR2} {rv rv' : R2} (ho : OpR X (compareOp op) rv) (h : Up2 X.K rd rv) (ho' : OpR X (compareOp op') rv') (h' : Up2 X.K rd' rv') (ha : DE X a ta) (hb : DE X b tb) (hc : DE X c tc) (hm : lastMarks [op, op'] [b, c] = false := by with_unfolding_all rfl) :
    DC X (.Compare a [op, op'] [b, c] pos) (dB (dChain rd rd' ta tb tc)) := pt_imp (pt_chain ho ho' ha hb hc hm) fun σ H Q ⟨δ, μ, Qd, rs, rm, q, w⟩ => up_chain h h' σ H _ ⟨δ, μ, _, rs, rm, q, fun x μ1 v H1 e1 m1 r1 q1 => by
    split at q1
    · cases r1
      exact ⟨_, rfl, w _ μ1 H1 e1 m1 q1⟩
    · exact q1.elim⟩
end
end DL

namespace DL
open PySem PySem.Spec PyProof.Rows L2
/-! ### sorted(set(a list of ints)), any number -/
def freshS (w : World) : Obj := { cls := .type "set", dict := none, data := .set #[] 0 (.fresh 0 0 (!w.params.followText "set-order")) }
section
variable {P : Program} {w : World} {A : Around} {E : Value → Shared → Prop} {s : Shared}
/-- how the new set is filled: from the list's own iterator -/
theorem fill_set {l : Addr} {items : Array Value} {ns : List Int} {A : Around} {s : Shared} {R : Result → Shared → Prop} (hh : A.in1.handled = none) (hl : s.heap.IsList l items) (hit : IntsAre items.toList ns) (hb : ns.length + 1 < scanBound)
    (h : ∀ (h' : Heap) (tk c : Nat), SetR w h' s.heap.objs.size (fun j => decide (j ∈ ns)) c → c ≤ ns.length → (∀ b o, s.heap.get? b = some o → h'.get? b = some o) → R (.ok (.ret .none)) { s with heap := h', toks := tk }) :
    codeAny (model P w) A (.builtin "set.update.loop" ⟨[.ref s.heap.objs.size, .ref (s.heap.objs.size + 1)], []⟩) R { s with heap := (s.heap.push (freshS w)).push { cls := .type "list_iterator", data := .fields #[.ref l, .int 0 0] } } := by
  have hisz : items.size = ns.length := by simpa using hit.length
  obtain ⟨ol, hol, hcl, nl, hdl⟩ := hl
  have hlt : l < s.heap.objs.size := Heap.lt_size hol
  have z1 : (s.heap.push (freshS w)).objs.size = s.heap.objs.size + 1 := Heap.size_push ..
  have old : ∀ b o, s.heap.get? b = some o → ((s.heap.push (freshS w)).push { cls := .type "list_iterator", data := .fields #[.ref l, .int 0 0] }).get? b = some o := fun b o e => Heap.get?_push_of_some _ (Heap.get?_push_of_some _ e)
  have new1 : (s.heap.push (freshS w)).get? s.heap.objs.size = some (freshS w) := Heap.get?_push_size _ rfl
  have it1 : ((s.heap.push (freshS w)).push { cls := .type "list_iterator", data := .fields #[.ref l, .int 0 0] }).get? (s.heap.objs.size + 1) = some { cls := .type "list_iterator", data := .fields #[.ref l, .int 0 0] } := by
    rw [← z1]; exact Heap.get?_push_size _ rfl
  refine set_update_ints ((Walks.list (prog := P) (w := w) (A := A.in1) hh (s.heap.objs.size + 1) l (Nat.ne_of_lt (Nat.lt_succ_of_lt hlt)) items).toS) s.heap.objs.size (by
    simp only [List.mem_cons, List.not_mem_nil, or_false, not_or]
    exact ⟨Nat.ne_of_lt (Nat.lt_succ_self _), Nat.ne_of_gt hlt⟩) ns hisz hb (fun i v hv => ?_) (items.size - 0) 0 _ (by omega) (Nat.zero_le _)
    ⟨⟨_, it1, rfl, rfl⟩, ⟨_, old _ _ hol, hcl, nl, hdl⟩⟩ ⟨0, Nat.le_refl 0, setR_new_at (Heap.get?_push_of_some _ new1)⟩ fun s' c' hm hc' hS' => ?_
  · have hi : i < ns.length := by rw [← hisz]; exact (Array.getElem?_eq_some_iff.mp hv).1
    obtain ⟨t, e⟩ := PyProof.Rows.IntsAre.int_at hit i v (by rw [Array.getElem?_toList]; exact hv)
    exact ⟨ns[i], t, List.getElem?_eq_getElem hi, by rw [e, List.getD_eq_getElem?_getD, List.getElem?_eq_getElem hi]; rfl⟩
  · obtain ⟨h', g2, d', tk', os'⟩ := s'
    have e1 : g2 = s.gens := hm.gens
    have e2 : d' = s.drawn := hm.drawn
    have e3 : os' = s.os := hm.os
    subst e1 e2 e3
    refine h h' tk' c' hS' (by rw [← hisz]; exact hc') fun b o e => ?_
    have hb0 : b < s.heap.objs.size := Heap.lt_size e
    exact hm.heap b o (by
      simp only [List.mem_cons, List.not_mem_nil, or_false, not_or]
      exact ⟨Nat.ne_of_lt hb0, Nat.ne_of_lt (Nat.lt_succ_of_lt hb0)⟩) (old b o e)
set_option maxHeartbeats 8000000 in
theorem set_ofL {l : Addr} {items : Array Value} {ns : List Int} {Q : Value → Shared → Prop} (hh : A.handled = none) (hl : s.heap.IsList l items) (hit : IntsAre items.toList ns) (hb : ns.length + 1 < scanBound)
    (h : ∀ (h' : Heap) (tk c : Nat), SetR w h' s.heap.objs.size (fun j => decide (j ∈ ns)) c → c ≤ ns.length → (∀ b o, s.heap.get? b = some o → h'.get? b = some o) → Q (.ref s.heap.objs.size) { s with heap := h', toks := tk }) : wpAny (model P w) A (call (.type "set") [.ref l]) Q E s := by
  obtain ⟨c, tl, hmro⟩ := PySem.F.called_set.mro; have hmade := PySem.F.called_set.made; have hsub := PySem.F.called_set.sub
  refine wpAny_call (codeAny_of_tree (show wpAny _ _ (callAny (.type "set") _) _ _ _ from wpAny_pure ⟨Code.quiet_builtin _ (by decide +kernel), codeAny_builtin PySem.F.entry_type_call ?_⟩))
  rw [Around.under_plain (weight_type_call_type "set" [.ref l] []) rfl]
  have h1 := PySem.F.called_set.notType; have h2 := PySem.F.called_set.canCreate; have hct := PySem.F.typeCall_set_1 (.ref l)
  repeat (any_goals (first | assumption | wp_step))
  refine codeAny_mono (code_set_led1 (.ref l) (E := E) (Q₁ := fun obj s₁ => obj = .ref s.heap.objs.size ∧ s₁ = { s with heap := s.heap.push (freshS w) }) ⟨rfl, rfl⟩) fun r s₁ hr => ?_
  cases r with
  | error e => exact hr
  | ok fl => cases fl with
    | ret obj =>
      obtain ⟨rfl, rfl⟩ := hr
      have new1 : (s.heap.push (freshS w)).get? s.heap.objs.size = some (freshS w) := Heap.get?_push_size _ rfl
      have hT : Shared.TypeIs { s with heap := s.heap.push (freshS w) } (.ref s.heap.objs.size) "set" := ⟨_, new1, rfl⟩
      have hli := PySem.F.called_set.init.lookup; have hbi := PySem.F.called_set.init.bind (.ref s.heap.objs.size)
      repeat (any_goals (first | assumption | wp_step))
      refine codeAny_mono (codeAny_call_builtin (R := wants (fun r s₂ => r = .none ∧ ∃ h' tk c, s₂ = { s with heap := h', toks := tk } ∧ SetR w h' s.heap.objs.size (fun j => decide (j ∈ ns)) c ∧ c ≤ ns.length ∧ (∀ b o, s.heap.get? b = some o → h'.get? b = some o)) E) PySem.F.called_set.init.plain PySem.F.entry_set_init (check_set_init_1 hT ?_)) fun r₂ s₂ hr₂ => ?_
      · obtain ⟨⟨ocls, odict, odata, oslots⟩, hol, hcl, nl, hdl⟩ := id hl
        simp only at hcl hdl
        subst hcl hdl
        have hol' : (s.heap.push (freshS w)).get? l = some { cls := .type "list", dict := odict, data := .seq items nl, slots := oslots } := Heap.get?_push_of_some _ hol
        have new1' := new1; unfold freshS at new1' hol'
        have hsls := PySem.F.sub_list_set; have hslf := PySem.F.sub_list_frozenset; have hne : (Value.type "list" == Value.type "dict") = false := by decide
        have hl1 : (s.heap.push (freshS w)).IsList l items := ⟨_, Heap.get?_push_of_some _ hol, rfl, nl, rfl⟩
        unfold Builtin.«set.__init__» noKeywords Builtin.Frozenset.updateFrom
        generalize hPI : pyIter = PI
        wp_walk
        subst hPI
        refine wpAny_pyIter_list hl1 (wpAny_bind (wpAny_runValue ?_))
        have z1 : (s.heap.push (freshS w)).objs.size = s.heap.objs.size + 1 := Heap.size_push ..
        have go := fun R h => fill_set (P := P) (w := w) (A := A.in1.in1) (s := s) (R := R) (by simp [hh]) hl hit hb h
        rw [← z1] at go
        refine go _ fun h' tk c hS hc hk => ?_
        show wpAny _ _ _ _ _ _
        exact wpAny_pure (wpAny_pure ⟨rfl, h', tk, c, rfl, hS, hc, hk⟩)
      · cases r₂ with
        | error e => exact hr₂
        | ok fl₂ => cases fl₂ with
          | ret r =>
            obtain ⟨rfl, h', tk, c', rfl, hS, hc, hk⟩ := hr₂
            repeat (any_goals (first | assumption | wp_step))
            exact h h' tk c' hS hc hk
          | _ => exact hr₂.elim
    | _ => exact hr.elim
end
end DL

namespace DL
open PySem PySem.Spec PyProof.Rows L2
section
variable {P : Program} {w : World} {A : Around} {E : Value → Shared → Prop} {s : Shared}
theorem reraw : ∀ (l : List Value), (∀ v ∈ l, ∃ k tk, v = Value.int k tk) → IntsAre l (l.map Builtin.Re.reRawOf) := ints_of
theorem sorted_setK {a : Addr} {S : Int → Bool} {n : Nat} {Q : Value → Shared → Prop} (R : SetR w s.heap a S n) (hh : A.handled = none) (hn2 : n ≤ sizeLine)
    (hQ : ∀ s' p (out : Array Value) (c : Nat) (ns : List Int), (∀ b o, s.heap.get? b = some o → s'.heap.get? b = some o) → s'.gens = s.gens → s'.os = s.os → s.heap.objs.size ≤ p → s'.heap.get? p = some (seqObj "list" out c) → IntsAre out.toList ns → ns.Pairwise (· < ·) → (∀ k, k ∈ ns ↔ S k = true) → ns.length = n → Q (.ref p) s') :
    wpAny (model P w) A (call (.builtin "sorted") [.ref a]) Q E s := by
  obtain ⟨o, es, ep, t, ho, hex, hd, g, nd, hm, hb, hf, hn, hr, hl⟩ := R
  refine Calls.call_function_entry kind_sorted plain_sorted entry_sorted (args_sorted1 _) ?_
  unfold Builtin.«sorted»
  refine wpAny_bind (m := checkCount "sorted" 1 1 _) (wpAny_pure (wpAny_bind (collect_set (A := A.in1) hh ⟨o, ho, hex.1, hd⟩ hf hb hr hl fun s1 vs k1 hz g1 o1 pm => ?_)))
  have hvl : vs.length = n := by rw [pm.length_eq, List.length_map, Array.length_toList]; exact hn
  have hI : IntsAre vs (vs.map Builtin.Re.reRawOf) := reraw vs fun v hv => by
    obtain ⟨e, he, q⟩ := List.mem_map.mp (pm.mem_iff.mp hv)
    obtain ⟨k, tk, h1, _⟩ := g e he
    exact ⟨k, tk, q ▸ h1⟩
  have pk : (vs.map Builtin.Re.reRawOf).Perm (es.toList.map keyOf) := by
    have q := pm.map Builtin.Re.reRawOf
    rw [List.map_map] at q
    exact q
  have hoL : (s1.heap.push (seqObj "list" vs.toArray 0)).get? s1.heap.objs.size = some (seqObj "list" vs.toArray 0) := Heap.get?_push_size _ rfl
  refine wpAny_bind (wpAny_newList (wpAny_bind (wpAny_holding (wpAny_call_entry slot_list_sort ⟨_, hoL, rfl⟩ entry_list_sort
    (SrtO.list_sort_ord (s := { s1 with heap := s1.heap.push (seqObj "list" vs.toArray 0) }) SrtO.swo_int hoL (by rw [hvl]; exact hn2) (fun h2 => SrtO.ints_sortable hI h2) fun out b1 b2 => ⟨.none, rfl, ?_⟩) (args_list_sort _)))) (by rw [hvl]; exact hn2))
  obtain ⟨a1, a2, a3⟩ := SrtO.ints_out hI b1 b2
  obtain ⟨c, hc⟩ := sortedHeap_at (vs := vs) (out := out.toArray) hoL
  have pn : (out.map SrtO.iv).Perm (es.toList.map keyOf) := a2.trans pk
  refine wpAny_pure ⟨_, rfl, hQ _ s1.heap.objs.size out.toArray c _ (fun b u e => ?_) g1 o1 hz hc (by simpa using a1) (lt_of_le_nodup _ a3 (pn.nodup_iff.mpr nd)) (fun k => by rw [pn.mem_iff, ← hm k]) (by rw [pn.length_eq, List.length_map, Array.length_toList]; exact hn)⟩
  have hlt := Heap.lt_size (k1 b u e)
  show (sortedHeap (s1.heap.push (seqObj "list" vs.toArray 0)) s1.heap.objs.size vs out.toArray).get? b = some u
  rw [sortedHeap_old (Nat.ne_of_lt hlt) (by rw [size_push']; exact Nat.lt_succ_of_lt hlt)]
  exact Heap.get?_push_of_some _ (k1 b u e)
end
end DL

namespace DL
open PySem PySem.Spec PyProof.Rows L2
section
variable {X : Cx}
def rSetL (K : PySem.W.Frag) (w : World) : List V → Hp → VK → Prop := fun xs H Q => ∃ (a : Addr) (ns : List Int), xs = [.ref a] ∧ SqL K H a (ns.map V.int) ∧ ns.length + 1 < scanBound ∧ ∀ p c, c ≤ ns.length → H p = none → Q (.ref p) (upd H p (SetO w p (fun j => decide (j ∈ ns)) c))
theorem call_setL (hc : X.calm = true) : CallR X (.type "set") (rSetL X.K X.w) := by
  intro pins s σ H xs us Q I r h
  obtain ⟨a, ns, rfl, hs, hb, q⟩ := h
  obtain ⟨its, rv, hl, hz⟩ := I.list hs
  rw [Vals.ref1 r]
  refine set_ofL (I.ok.hd hc) hl.isList rv.ints hb fun h' tk c R hcn k => ?_
  exact ⟨.ref _, upd H s.heap.objs.size (SetO X.w s.heap.objs.size (fun j => decide (j ∈ ns)) c), I.laid (t' := tk) (fun b u e => k b u e) (Nat.le_refl _) (setO_new R), rfl, q _ c hcn (I.hok.fresh (Nat.le_refl _))⟩
def rSortK (w : World) : List V → Hp → VK → Prop := fun vs H Q => ∃ (a : Addr) (S : Int → Bool) (n : Nat), vs = [V.ref a] ∧ H a = some (SetO w a S n) ∧ n ≤ sizeLine ∧
  ∀ (ns : List Int) (p : Addr), ns.Pairwise (· < ·) → (∀ k : Int, k ∈ ns ↔ S k = true) → H p = none → Q (.ref p) (upd H p (.lst (ns.map V.int)))
theorem call_sortK (hc : X.calm = true) : CallR X (.builtin "sorted") (rSortK X.w) := by
  intro pins s σ H vs us Q I r h
  obtain ⟨a, S, n, rfl, ha, hn, q⟩ := h
  have R := setO_get I ha
  rw [Vals.ref1 r]
  refine sorted_setK R (I.ok.hd hc) hn fun s' p out c ns k g o hp hg hi hs hm hl => ?_
  have hlen : (ns.map V.int).length ≤ sizeLine := by rw [List.length_map, hl]; exact hn
  have hN : H p = none := I.hok.fresh hp
  obtain ⟨hh, gg, dd, tt, oo⟩ := s'
  dsimp only at k g o hg
  subst o
  refine ⟨.ref p, upd H p (.lst (ns.map V.int)), I.call (h' := hh) (g' := gg) (d' := dd) (t' := tt) (ch := []) (Un.laid k hp hN) (I.hok.laid k hp ⟨hlen, out.toList, c, vals_of_ints hi, hg⟩) (by rw [g]; exact I.bare) (fun _ z => nomatch z), rfl, q ns p hs hm hN⟩
variable {pos p p2 pos2 : Pos} {e : Expr} {te : DT}
/-- sorted(set(xs)), a list of ints -/
def dSortSet (te : DT) : DT := fun δ μ Q => te δ μ fun x μ1 => match x with
  | .d (.list xs) => ∃ ns : List Int, xs = ns.map .int ∧ ns.length ≤ 4000 ∧ ∀ ys : List Int, ys.Pairwise (· < ·) → (∀ k, k ∈ ys ↔ k ∈ ns) → Q (.d (.list (ys.map .int))) μ1
  | _ => False
theorem d_sortSet (hc : X.calm = true) (hg : Gl X "sorted") (hm : X.mg "sorted" = none) (hg2 : Gl X "set") (hm2 : X.mg "set" = none) (he : DE X e te)
    (h1 : starEach [e] X.env = (false, eval e X.env) :: starEach [] X.env := by rfl) (h2 : (backTo pos2 (starEach [] X.env)).any (·.1) = false := by rfl)
    (h3 : starEach [.Call (.Name "set" p2) [e] [] pos2] X.env = (false, eval (.Call (.Name "set" p2) [e] [] pos2) X.env) :: starEach [] X.env := by rfl) (h4 : (backTo pos (starEach [] X.env)).any (·.1) = false := by rfl) :
    DE X (.Call (.Name "sorted" p) [.Call (.Name "set" p2) [e] [] pos2] [] pos) (dSortSet te) :=
  pe_imp (pe_callB (call_sortK hc) hg hm (by decide +kernel) (pa_cons (pe_callTy (call_setL hc) hg2 hm2 (by decide +kernel) (pa_cons he pa_nil h1) (by decide) (by decide) h1 h2) pa_nil h3) (by decide) (by decide) h3 h4) fun σ H Q ⟨δ, μ, Qd, rs, rm, q, w⟩ => up_use rs rm q fun x μ1 v H1 e1 m1 r1 q1 => by
    split at q1
    · next xs =>
      obtain ⟨ns, rfl, hl, q1⟩ := q1
      cases (show Da X.K (hid μ1 H1) v (.list (ns.map .int)) from r1) with
      | @lst a ys _ s t =>
        have := t.ints_inv
        subst this
        refine ⟨a, ns, rfl, unhid.seq s, by unfold scanBound; omega, fun p c hc hp => ⟨p, _, c, rfl, upd_same, Nat.le_trans (Nat.le_trans hc hl) (by decide), fun zs b h1 h2 hb => ?_⟩⟩
        have hb1 := hb
        exact w (.d (.list (zs.map .int))) μ1 _ _ ((e1.trans (ext_new hp)).trans (ext_new hb)) ((m1.new hp).new hb) (.lst (.of (by rw [hid_new (m1.new hp) hb])) (DaAll.ints zs)) (q1 zs h1 fun k => by rw [h2 k, decide_eq_true_eq])
    · exact q1.elim
end
end DL

namespace DL
open PySem PySem.Spec PyProof.Rows L2
section
variable {X : Cx} {pos : Pos} {a b c e tg : Expr} {ta tb tc te : DT} {K : PySem.W.Frag}
/-! ### not in -/
def rdNin : DR2 := fun x y μ Q => match x, (seqOf μ y).bind intsOf with
  | .d (.int i), some ns => Q (.d (.bool (!decide (i ∈ ns)))) μ
  | _, _ => False
theorem u_nin : Up2 K rdNin (rIn K true) := fun x y μ Qd v u H Q m rx ry q w => by
  unfold rdNin at q
  split at q
  · next i ns h =>
    cases rx
    rw [Option.bind_eq_some_iff] at h
    obtain ⟨ds, h1, h2⟩ := h
    obtain ⟨p, vs, rfl, hs, hd⟩ := seq_v m ry h1
    have e := intsOf_some h2
    subst e
    have e2 := hd.ints_inv
    subst e2
    refine ⟨p, _, rfl, hs, rfl, flat_ints ns, w (.d (.bool _)) μ _ H (.refl _ _) m ?_ q⟩
    rw [if_pos rfl, inV_ints]
    exact Da.bl _
  · exact q.elim
theorem d_nin (ha : DE X a ta) (hb : DE X b tb) (hm : behindInMarks .NotIn b = false := by rfl) : DE X (.Compare a [.NotIn] [b] pos) (dOp rdNin ta tb) := d_cmp op_notIn_seq u_nin ha hb hm
theorem c_nin (ha : DE X a ta) (hb : DE X b tb) (hm : behindInMarks .NotIn b = false := by rfl) : DC X (.Compare a [.NotIn] [b] pos) (dB (dOp rdNin ta tb)) := c_cmp op_notIn_seq u_nin ha hb hm
/-! ### range(i, j, c) -/
def stepD (lo c : Int) (n : Nat) : List PyData := (List.range n).map fun (i : Nat) => .int (lo + (i : Int) * c)
theorem stepD_get {lo c : Int} {n i : Nat} : (stepD lo c n)[i]? = if i < n then some (.int (lo + (i : Int) * c)) else none := by
  unfold stepD
  by_cases h : i < n
  · rw [if_pos h]; simp [List.getElem?_map, h]
  · rw [if_neg h]; simp [List.getElem?_map, h]
theorem walk_step {μ : Mu} {H : Hp} {lo c : Int} {n : Nat} : Walk true K μ H (Itc lo c n) (stepD lo c n) := fun i μ' H' e m => by
  rw [stepD_get]
  by_cases h : i < n
  · rw [if_pos h]
    refine ⟨fun d hd => ⟨h, fun x H2 ⟨e1, e2⟩ => ?_⟩, fun z => by cases z⟩
    cases hd
    subst e1; subst e2
    exact ⟨.refl _ _, m, .int _⟩
  · rw [if_neg h]
    exact ⟨fun d hd => (by cases hd), fun _ => Nat.le_of_not_lt h⟩
def dwRange3 (ta : DTA) : DTI := fun δ μ Q => ta δ μ fun ds μ1 => match ds with
  | [.d (.int i), .d (.int j), .d (.int c)] => ∃ n, RgC i j c n ∧ Q (stepD i c n) μ1
  | _ => False
theorem i_range3 {tA : DTA} {p : Pos} (hg : Gl X "range") (hm : X.mg "range" = none) (ha : DA X [a, b, c] tA) (hs : starEach [a, b, c] X.env = (false, eval a X.env) :: starEach [b, c] X.env := by rfl) (hs2 : (backTo pos (starEach [b, c] X.env)).any (·.1) = false := by rfl) :
    DI true X tg (.Call (.Name "range" p) [a, b, c] [] pos) (dwRange3 tA) :=
  pi_imp (pi_range3 hg hm ha hs hs2) fun σ H R ⟨δ, μ, Qd, rs, rm, q, w⟩ => upA_use rs rm q fun ds μ1 vs H1 e1 m1 r1 q1 => by
    split at q1
    · next i j c =>
      obtain ⟨n, hn, q1⟩ := q1
      cases r1 with
      | cons r t =>
        cases t with
        | cons r' t =>
          cases t with
          | cons r'' t =>
            cases t
            cases (show Da X.K (hid μ1 H1) _ (.int i) from r)
            cases (show Da X.K (hid μ1 H1) _ (.int j) from r')
            cases (show Da X.K (hid μ1 H1) _ (.int c) from r'')
            exact ⟨i, j, c, n, rfl, hn, w _ μ1 H1 _ e1 m1 walk_step q1⟩
    · exact q1.elim
/-! ### a name that holds a tuple or a list -/
def dwVar (i : Nat) : DTI := fun δ μ Q => match δ[i]? with
  | some (some (.d (.list xs))) => Q xs μ
  | some (some (.d (.tuple xs))) => Q xs μ
  | _ => False
theorem i_var {i : Nat} (hd : DE X e (dVar i)) : DI true X tg e (dwVar i) := by
  refine ⟨fun pins s σ H R I ⟨δ, μ, Qd, rs, rm, q, w⟩ => ?_⟩
  unfold dwVar at q
  split at q
  · next xs e1 => exact (i_list hd).run pins s σ H R I ⟨δ, μ, Qd, rs, rm, by unfold dwList dVar; simp only [e1]; exact q, w⟩
  · next xs e1 => exact (i_tup hd).run pins s σ H R I ⟨δ, μ, Qd, rs, rm, by unfold dwTup dVar; simp only [e1]; exact q, w⟩
  · exact q.elim
end
end DL

namespace DL
open PySem PySem.Spec PyProof.Rows L2
section
variable {X : Cx} {pos p p2 pos2 : Pos} {a b e : Expr} {ta tb te : DT} {K : PySem.W.Frag}
/-! ### list + list, both cells; list * int; len of a cell and of a dict cell -/
def rdPlusC : DR2 := fun x y μ Q => match x, y with
  | .cell l, .cell k => ∃ xs ys, μ l = some (.lst xs) ∧ μ k = some (.lst ys) ∧ xs.length + ys.length ≤ 900000 ∧ ∀ r, μ r = none → Q (.cell r) (put μ r (.lst (xs ++ ys)))
  | _, _ => False
theorem u_plusC : Up2 K rdPlusC rCat := fun x y μ Qd v u H Q m rx ry q w => by
  unfold rdPlusC at q
  split at q
  · next l k =>
    obtain ⟨xs, ys, hx, hy, hl, q⟩ := q
    cases (show v = .ref l from rx)
    cases (show u = .ref k from ry)
    obtain ⟨vs, h1, h2⟩ := m l _ hx
    obtain ⟨us, g1, g2⟩ := m k _ hy
    refine ⟨l, k, vs, us, rfl, rfl, h1, g1, by rw [h2.length, g2.length]; exact Nat.le_trans hl (by decide), fun r hr => ?_⟩
    exact w (.cell r) (put μ r (.lst (xs ++ ys))) _ _ (ext_cell hr) (m.cell (c := .lst (xs ++ ys)) hr ⟨_, upd_same, (h2.append g2).mono (ext_cell hr)⟩) rfl (q r (m.free hr))
  · exact q.elim
theorem d_plusC (ha : DE X a ta) (hb : DE X b tb) : DE X (.BinOp a .Add b pos) (dOp rdPlusC ta tb) := d_op op_cat u_plusC ha hb
def rdRepC : DR2 := fun x y μ Q => match x, y with
  | .cell l, .d (.int k) => ∃ xs, μ l = some (.lst xs) ∧ -(2 ^ 63) ≤ k ∧ k < 2 ^ 63 ∧ xs.length * k.toNat ≤ 900000 ∧ ∀ r, μ r = none → Q (.cell r) (put μ r (.lst (List.replicate k.toNat xs).flatten))
  | _, _ => False
theorem da_rep {H : Hp} {vs : List V} {xs : List PyData} (h : DaAll K H vs xs) : ∀ n : Nat, DaAll K H (List.replicate n vs).flatten (List.replicate n xs).flatten
  | 0 => .nil
  | n + 1 => by rw [List.replicate_succ, List.replicate_succ, List.flatten_cons, List.flatten_cons]; exact h.append (da_rep h n)
theorem u_repC : Up2 K rdRepC rRep := fun x y μ Qd v u H Q m rx ry q w => by
  unfold rdRepC at q
  split at q
  · next l k =>
    obtain ⟨xs, hx, h1, h2, hl, q⟩ := q
    cases (show v = .ref l from rx)
    cases (show Da K (hid μ H) u (.int k) from ry)
    obtain ⟨vs, g1, g2⟩ := m l _ hx
    refine ⟨l, k, vs, rfl, rfl, g1, h1, h2, by rw [g2.length]; exact Nat.le_trans hl (by decide), fun r hr => ?_⟩
    exact w (.cell r) (put μ r (.lst (List.replicate k.toNat xs).flatten)) _ _ (ext_cell hr) (m.cell (c := .lst (List.replicate k.toNat xs).flatten) hr ⟨_, upd_same, (da_rep g2 _).mono (ext_cell hr)⟩) rfl (q r (m.free hr))
  · exact q.elim
theorem d_repC (ha : DE X a ta) (hb : DE X b tb) : DE X (.BinOp a .Mult b pos) (dOp rdRepC ta tb) := d_op op_rep u_repC ha hb
/-- sorted(set(xs)), xs a cell -/
def dSortSetC (te : DT) : DT := fun δ μ Q => te δ μ fun x μ1 => match x with
  | .cell l => ∃ ns : List Int, μ1 l = some (.lst (ns.map .int)) ∧ ns.length ≤ 4000 ∧ ∀ ys : List Int, ys.Pairwise (· < ·) → (∀ k, k ∈ ys ↔ k ∈ ns) → Q (.d (.list (ys.map .int))) μ1
  | _ => False
theorem d_sortSetC (hc : X.calm = true) (hg : Gl X "sorted") (hm : X.mg "sorted" = none) (hg2 : Gl X "set") (hm2 : X.mg "set" = none) (he : DE X e te)
    (h1 : starEach [e] X.env = (false, eval e X.env) :: starEach [] X.env := by rfl) (h2 : (backTo pos2 (starEach [] X.env)).any (·.1) = false := by rfl)
    (h3 : starEach [.Call (.Name "set" p2) [e] [] pos2] X.env = (false, eval (.Call (.Name "set" p2) [e] [] pos2) X.env) :: starEach [] X.env := by rfl) (h4 : (backTo pos (starEach [] X.env)).any (·.1) = false := by rfl) :
    DE X (.Call (.Name "sorted" p) [.Call (.Name "set" p2) [e] [] pos2] [] pos) (dSortSetC te) :=
  pe_imp (pe_callB (call_sortK hc) hg hm (by decide +kernel) (pa_cons (pe_callTy (call_setL hc) hg2 hm2 (by decide +kernel) (pa_cons he pa_nil h1) (by decide) (by decide) h1 h2) pa_nil h3) (by decide) (by decide) h3 h4) fun σ H Q ⟨δ, μ, Qd, rs, rm, q, w⟩ => up_use rs rm q fun x μ1 v H1 e1 m1 r1 q1 => by
    split at q1
    · next l =>
      obtain ⟨ns, hx, hl, q1⟩ := q1
      cases (show v = .ref l from r1)
      obtain ⟨ys, g1, g2⟩ := m1 l _ hx
      have := g2.ints_inv
      subst this
      refine ⟨l, ns, rfl, .of g1, by unfold scanBound; omega, fun p c hc hp => ⟨p, _, c, rfl, upd_same, Nat.le_trans (Nat.le_trans hc hl) (by decide), fun zs b h1 h2 hb => ?_⟩⟩
      exact w (.d (.list (zs.map .int))) μ1 _ _ ((e1.trans (ext_new hp)).trans (ext_new hb)) ((m1.new hp).new hb) (.lst (.of (by rw [hid_new (m1.new hp) hb])) (DaAll.ints zs)) (q1 zs h1 fun k => by rw [h2 k, decide_eq_true_eq])
    · exact q1.elim
end
end DL

namespace RF
open DL
/-! ### terms as functions: what a rule's terms make of f -/
abbrev Tm := List (Int × Int)
def ev (l : Tm) (f : Int → Int) : Int := (l.map fun p => p.2 * f p.1).sum
theorem ev_nil {f : Int → Int} : ev [] f = 0 := rfl
theorem ev_cons {p : Int × Int} {l : Tm} {f : Int → Int} : ev (p :: l) f = p.2 * f p.1 + ev l f := by simp [ev]
theorem ev_app : ∀ {l k : Tm} {f : Int → Int}, ev (l ++ k) f = ev l f + ev k f
  | [], k, f => by simp [ev_nil]
  | p :: l, k, f => by rw [List.cons_append, ev_cons, ev_cons, ev_app, Int.add_assoc]
theorem ev_congr : ∀ {l : Tm} {f g : Int → Int}, (∀ p ∈ l, f p.1 = g p.1) → ev l f = ev l g
  | [], f, g, _ => rfl
  | p :: l, f, g, h => by rw [ev_cons, ev_cons, h p List.mem_cons_self, ev_congr fun q hq => h q (List.mem_cons_of_mem _ hq)]
theorem ev_add : ∀ {l : Tm} {f g : Int → Int}, ev l (fun x => f x + g x) = ev l f + ev l g
  | [], f, g => rfl
  | p :: l, f, g => by
    have ih := ev_add (l := l) (f := f) (g := g)
    rw [ev_cons, ev_cons, ev_cons, ih, Int.mul_add]; omega
theorem ev_mul : ∀ {l : Tm} {c : Int} {f : Int → Int}, ev l (fun x => c * f x) = c * ev l f
  | [], c, f => by simp [ev_nil]
  | p :: l, c, f => by
    have ih := ev_mul (l := l) (c := c) (f := f)
    rw [ev_cons, ev_cons, ih, Int.mul_add, Int.mul_left_comm]
theorem ev_zero : ∀ {l : Tm}, ev l (fun _ => 0) = 0
  | [] => rfl
  | p :: l => by rw [ev_cons, ev_zero]; simp
theorem ev_swap : ∀ {a b : Tm} {f : Int → Int → Int}, ev a (fun p => ev b (fun q => f p q)) = ev b (fun q => ev a (fun p => f p q))
  | [], b, f => by simp only [ev_nil]; exact ev_zero.symm
  | p :: a, b, f => by
    simp only [ev_cons]
    rw [ev_swap (a := a), ev_add, ev_mul]
/-! ### alike modulo m -/
def Md (m a b : Int) : Prop := m ∣ a - b
theorem Md.refl {m a : Int} : Md m a a := ⟨0, by simp⟩
theorem Md.of {m a b : Int} (h : a = b) : Md m a b := h ▸ Md.refl
theorem Md.symm {m a b : Int} : Md m a b → Md m b a := fun ⟨k, h⟩ => ⟨-k, by rw [Int.mul_neg]; omega⟩
theorem Md.trans {m a b c : Int} : Md m a b → Md m b c → Md m a c := fun ⟨k, h⟩ ⟨l, g⟩ => ⟨k + l, by rw [Int.mul_add]; omega⟩
theorem Md.add {m a b c d : Int} : Md m a b → Md m c d → Md m (a + c) (b + d) := fun ⟨k, h⟩ ⟨l, g⟩ => ⟨k + l, by rw [Int.mul_add]; omega⟩
theorem Md.mul {m a b c : Int} : Md m a b → Md m (c * a) (c * b) := fun ⟨k, h⟩ => ⟨c * k, by rw [← Int.mul_sub, h, Int.mul_left_comm]⟩
theorem Md.mulr {m a b c : Int} : Md m a b → Md m (a * c) (b * c) := fun h => by rw [Int.mul_comm a, Int.mul_comm b]; exact h.mul
theorem Md.rest {m a : Int} : Md m (a % m) a := ⟨-(a / m), by have := Int.mul_ediv_add_emod a m; rw [Int.mul_neg]; omega⟩
theorem Md.eq {m a b : Int} (h : Md m a b) (ha : 0 ≤ a) (ha2 : a < m) (hb : 0 ≤ b) (hb2 : b < m) : a = b := by
  have e := Int.emod_emod_of_dvd a (Int.dvd_refl m)
  have h2 := Int.emod_eq_emod_iff_emod_sub_eq_zero.mpr (Int.emod_eq_zero_of_dvd h)
  rw [Int.emod_eq_of_lt ha ha2, Int.emod_eq_of_lt hb hb2] at h2
  exact h2
theorem ev_md {m : Int} : ∀ {l : Tm} {f g : Int → Int}, (∀ x, Md m (f x) (g x)) → Md m (ev l f) (ev l g)
  | [], f, g, _ => .refl
  | p :: l, f, g, h => by rw [ev_cons, ev_cons]; exact (h _).mul.add (ev_md h)
/-! ### canonical terms -/
structure Cn (m : Int) (r : Tm) : Prop where
  so : r.Pairwise fun a b => a.1 < b.1
  vl : ∀ p ∈ r, 0 < p.2 ∧ p.2 < m
def ind (x : Int) : Int → Int := fun y => if y = x then 1 else 0
theorem co_not : ∀ {r : Tm} {x : Int}, (∀ p ∈ r, p.1 ≠ x) → ev r (ind x) = 0
  | [], x, _ => rfl
  | p :: r, x, h => by
    rw [ev_cons, co_not fun q hq => h q (List.mem_cons_of_mem _ hq)]
    simp [ind, h p List.mem_cons_self]
theorem co_mem : ∀ {r : Tm} {x v : Int}, r.Pairwise (fun a b => a.1 < b.1) → (x, v) ∈ r → ev r (ind x) = v
  | p :: r, x, v, h, hm => by
    rw [List.pairwise_cons] at h
    rw [ev_cons]
    rcases List.mem_cons.mp hm with e | hm
    · subst e
      rw [co_not fun q hq => by have := h.1 q hq; dsimp only at this; omega]
      simp [ind]
    · have := h.1 _ hm
      rw [co_mem h.2 hm]
      have : p.1 ≠ x := by dsimp only at this; omega
      simp [ind, this]
theorem sorted_ext : ∀ {r s : Tm}, r.Pairwise (fun a b => a.1 < b.1) → s.Pairwise (fun a b => a.1 < b.1) → (∀ p, p ∈ r ↔ p ∈ s) → r = s
  | [], [], _, _, _ => rfl
  | [], b :: s, _, _, h => absurd ((h b).mpr List.mem_cons_self) (by simp)
  | a :: r, [], _, _, h => absurd ((h a).mp List.mem_cons_self) (by simp)
  | a :: r, b :: s, h1, h2, h => by
    rw [List.pairwise_cons] at h1 h2
    have e : a = b := by
      rcases List.mem_cons.mp ((h a).mp List.mem_cons_self) with e | m1
      · exact e
      · rcases List.mem_cons.mp ((h b).mpr List.mem_cons_self) with e | m2
        · exact e.symm
        · have := h2.1 _ m1
          have := h1.1 _ m2
          omega
    subst e
    refine congrArg (a :: ·) (sorted_ext h1.2 h2.2 fun p => ⟨fun hp => ?_, fun hp => ?_⟩)
    · rcases List.mem_cons.mp ((h p).mp (List.mem_cons_of_mem _ hp)) with e | m1
      · subst e; have := h1.1 _ hp; omega
      · exact m1
    · rcases List.mem_cons.mp ((h p).mpr (List.mem_cons_of_mem _ hp)) with e | m1
      · subst e; have := h2.1 _ hp; omega
      · exact m1
theorem co_cases {m : Int} {r : Tm} (c : Cn m r) (hm : 0 < m) (x : Int) : 0 ≤ ev r (ind x) ∧ ev r (ind x) < m ∧ (ev r (ind x) ≠ 0 → (x, ev r (ind x)) ∈ r) := by
  by_cases h : ∃ p ∈ r, p.1 = x
  · obtain ⟨p, hp, rfl⟩ := h
    have e := co_mem c.so (x := p.1) (v := p.2) hp
    have v := c.vl p hp
    rw [e]
    exact ⟨by omega, v.2, fun _ => hp⟩
  · have e := co_not (r := r) (x := x) fun p hp z => h ⟨p, hp, z⟩
    rw [e]
    exact ⟨by omega, hm, fun z => absurd rfl z⟩
theorem Cn.sub {m : Int} {r s : Tm} (c : Cn m r) (d : Cn m s) (hm : 0 < m) (h : ∀ f, Md m (ev r f) (ev s f)) : ∀ p, p ∈ r → p ∈ s := fun ⟨x, v⟩ hp => by
  have e := co_mem c.so hp
  have v1 := c.vl _ hp
  dsimp only at v1
  obtain ⟨s1, s2, s3⟩ := co_cases d hm x
  have e2 := (h (ind x)).eq (by omega) (by omega) s1 s2
  have := s3 (by omega)
  rw [← e2, e] at this
  exact this
theorem Cn.uniq {m : Int} {r s : Tm} (c : Cn m r) (d : Cn m s) (hm : 0 < m) (h : ∀ f, Md m (ev r f) (ev s f)) : r = s :=
  sorted_ext c.so d.so fun p => ⟨c.sub d hm h p, d.sub c hm (fun f => (h f).symm) p⟩
/-! ### sums, products, powers -/
def IsS (m : Int) (a b r : Tm) : Prop := Cn m r ∧ ∀ f, Md m (ev r f) (ev a f + ev b f)
def IsP (m : Int) (a b r : Tm) : Prop := Cn m r ∧ ∀ f, Md m (ev r f) (ev a fun p => ev b fun q => f (p + q))
def pev (a : Tm) : Nat → (Int → Int) → Int
  | 0, f => f 0
  | n + 1, f => pev a n fun p => ev a fun q => f (p + q)
def IsW (m : Int) (a : Tm) (n : Nat) (r : Tm) : Prop := Cn m r ∧ ∀ f, Md m (ev r f) (pev a n f)
theorem IsS.uniq {m : Int} {a b r s : Tm} (hm : 0 < m) (h : IsS m a b r) (g : IsS m a b s) : r = s := h.1.uniq g.1 hm fun f => (h.2 f).trans (g.2 f).symm
theorem IsS.comm {m : Int} {a b r : Tm} (h : IsS m a b r) : IsS m b a r := ⟨h.1, fun f => by rw [Int.add_comm]; exact h.2 f⟩
theorem IsP.uniq {m : Int} {a b r s : Tm} (hm : 0 < m) (h : IsP m a b r) (g : IsP m a b s) : r = s := h.1.uniq g.1 hm fun f => (h.2 f).trans (g.2 f).symm
theorem IsP.comm {m : Int} {a b r : Tm} (h : IsP m a b r) : IsP m b a r := ⟨h.1, fun f => by
  refine (h.2 f).trans (.of ?_)
  rw [ev_swap]
  exact ev_congr fun p _ => ev_congr fun q _ => by rw [Int.add_comm]⟩
theorem IsW.uniq {m : Int} {a r s : Tm} {n : Nat} (hm : 0 < m) (h : IsW m a n r) (g : IsW m a n s) : r = s := h.1.uniq g.1 hm fun f => (h.2 f).trans (g.2 f).symm
theorem pev_congr {a : Tm} : ∀ {n : Nat} {f g : Int → Int}, (∀ x, f x = g x) → pev a n f = pev a n g := fun {n f g} h => by rw [show f = g from funext h]
theorem pev_md {m : Int} {a : Tm} : ∀ {n : Nat} {f g : Int → Int}, (∀ x, Md m (f x) (g x)) → Md m (pev a n f) (pev a n g)
  | 0, f, g, h => h 0
  | n + 1, f, g, h => pev_md (n := n) fun p => ev_md fun q => h (p + q)
theorem pev_add {a : Tm} {i : Nat} : ∀ {j : Nat} {f : Int → Int}, pev a (i + j) f = pev a i fun p => pev a j fun q => f (p + q)
  | 0, f => pev_congr fun x => by simp [pev]
  | j + 1, f => by
    show pev a (i + j) (fun p => ev a fun q => f (p + q)) = _
    rw [pev_add]
    refine pev_congr fun p => ?_
    show _ = pev a j fun s => ev a fun q => f (p + (s + q))
    exact pev_congr fun s => ev_congr fun q _ => by rw [Int.add_assoc]
theorem IsW.zero {m : Int} {a : Tm} (hm : 1 < m) : IsW m a 0 [(0, 1)] := ⟨⟨by simp, by simpa using hm⟩, fun f => .of (by simp [ev_cons, ev_nil, pev])⟩
theorem IsW.one {m : Int} {a : Tm} (c : Cn m a) : IsW m a 1 a := ⟨c, fun f => .of (by
  show _ = ev a fun q => f (0 + q)
  exact ev_congr fun q _ => by rw [Int.zero_add])⟩
theorem IsW.mul {m : Int} {a r s u : Tm} {i j : Nat} (h : IsW m a i r) (g : IsW m a j s) (k : IsP m r s u) : IsW m a (i + j) u := ⟨k.1, fun f => by
  refine (k.2 f).trans ?_
  rw [pev_add]
  exact (ev_md fun p => g.2 _).trans (h.2 _)⟩
theorem pev_pow {m : Int} {a r : Tm} {i : Nat} (h : IsW m a i r) : ∀ {j : Nat} {f : Int → Int}, Md m (pev r j f) (pev a (i * j) f)
  | 0, f => .refl
  | j + 1, f => by
    show Md m (pev r j fun p => ev r fun q => f (p + q)) _
    refine (pev_pow h).trans ?_
    rw [Nat.mul_succ, pev_add]
    exact pev_md fun p => h.2 _
theorem IsW.pow {m : Int} {a r s : Tm} {i j : Nat} (h : IsW m a i r) (g : IsW m r j s) : IsW m a (i * j) s := ⟨g.1, fun f => (g.2 f).trans (pev_pow h)⟩
/-! ### how wide -/
def Wd (A : Nat) (r : Tm) : Prop := ∀ p ∈ r, p.1.natAbs ≤ A
theorem Wd.mono {A B : Nat} {r : Tm} (h : Wd A r) (hl : A ≤ B) : Wd B r := fun p hp => Nat.le_trans (h p hp) hl
theorem wd_of {m : Int} {r : Tm} {A : Nat} (c : Cn m r) (h : ∀ x : Int, A < x.natAbs → Md m (ev r (ind x)) 0) : Wd A r := fun p hp => by
  rcases Nat.lt_or_ge A p.1.natAbs with hlt | hle
  · have e := co_mem c.so (x := p.1) (v := p.2) hp
    have v := c.vl p hp
    have := (h p.1 hlt).eq (by omega) (by omega) (by omega) (by omega)
    omega
  · exact hle
theorem ev_off {a : Tm} {A : Nat} {f : Int → Int} (w : Wd A a) (h : ∀ y : Int, y.natAbs ≤ A → f y = 0) : ev a f = 0 := by
  rw [ev_congr (g := fun _ => 0) fun p hp => h _ (w p hp)]; exact ev_zero
theorem ind_ne {x y : Int} (h : y ≠ x) : ind x y = 0 := by simp [ind, h]
theorem IsS.wd {m : Int} {a b r : Tm} {A : Nat} (h : IsS m a b r) (wa : Wd A a) (wb : Wd A b) : Wd A r := wd_of h.1 fun x hx => by
  refine (h.2 _).trans (.of ?_)
  rw [ev_off wa fun y hy => ind_ne (by omega), ev_off wb fun y hy => ind_ne (by omega)]; rfl
theorem IsP.wd {m : Int} {a b r : Tm} {A B : Nat} (h : IsP m a b r) (wa : Wd A a) (wb : Wd B b) : Wd (A + B) r := wd_of h.1 fun x hx =>
  (h.2 _).trans (.of (ev_off wa fun y hy => ev_off wb fun z hz => ind_ne (by omega)))
theorem pev_off {a : Tm} {A : Nat} (w : Wd A a) : ∀ {n : Nat} {f : Int → Int}, (∀ y : Int, y.natAbs ≤ n * A → f y = 0) → pev a n f = 0
  | 0, f, h => h 0 (by simp)
  | n + 1, f, h => pev_off w (n := n) fun y hy => ev_off w fun z hz => h _ (by rw [Nat.succ_mul]; omega)
theorem IsW.wd {m : Int} {a r : Tm} {A n : Nat} (h : IsW m a n r) (wa : Wd A a) : Wd (n * A) r := wd_of h.1 fun x hx =>
  (h.2 _).trans (.of (pev_off wa fun y hy => ind_ne (by omega)))
theorem len_of : ∀ {r : Tm} {lo hi : Int}, r.Pairwise (fun a b => a.1 < b.1) → (∀ p ∈ r, lo ≤ p.1 ∧ p.1 ≤ hi) → (r.length : Int) ≤ max 0 (hi - lo + 1)
  | [], lo, hi, _, _ => by simp only [List.length_nil]; omega
  | p :: r, lo, hi, h, w => by
    rw [List.pairwise_cons] at h
    have hp := w p List.mem_cons_self
    have := len_of (lo := p.1 + 1) (hi := hi) h.2 fun q hq => ⟨by have := h.1 q hq; omega, (w q (List.mem_cons_of_mem _ hq)).2⟩
    simp only [List.length_cons]
    omega
theorem Cn.len {m : Int} {r : Tm} {A : Nat} (c : Cn m r) (w : Wd A r) : r.length ≤ 2 * A + 1 := by
  have := len_of (lo := -(A : Int)) (hi := A) c.so fun p hp => by have := w p hp; omega
  omega
/-! ### tables -/
def ins : Tm → Int → Int → Tm
  | [], k, v => [(k, v)]
  | p :: t, k, v => if p.1 = k then (p.1, p.2 + v) :: t else p :: ins t k v
theorem tput_no {t : Tm} {k v : Int} (h : ∀ p ∈ t, p.1 ≠ k) : t.map (fun p => if p.1 = k then (p.1, v) else p) = t := by
  induction t with
  | nil => rfl
  | cons p t ih =>
    rw [List.map_cons, ih fun q hq => h q (List.mem_cons_of_mem _ hq), if_neg (h p List.mem_cons_self)]
theorem put_ins : ∀ {t : Tm} {k v : Int}, (t.map (·.1)).Nodup → tput t k ((tget t k).getD 0 + v) = ins t k v
  | [], k, v, _ => by simp [tput, tget, ins]
  | p :: t, k, v, h => by
    rw [List.map_cons, List.nodup_cons] at h
    by_cases hk : p.1 = k
    · have e1 : tget (p :: t) k = some p.2 := by simp [tget, hk]
      have e2 : ((p :: t).any fun p => decide (p.1 = k)) = true := by simp [hk]
      rw [e1]
      unfold tput ins
      rw [if_pos e2, if_pos hk, List.map_cons, if_pos hk, tput_no fun q hq z => h.1 (by rw [hk, ← z]; exact List.mem_map_of_mem hq)]
      rfl
    · have e1 : tget (p :: t) k = tget t k := by simp [tget, hk]
      have e2 : ((p :: t).any fun p => decide (p.1 = k)) = (t.any fun p => decide (p.1 = k)) := by simp [hk]
      have ih := put_ins (k := k) (v := v) h.2
      rw [e1]
      unfold ins
      rw [if_neg hk, ← ih]
      unfold tput
      rw [e2]
      split
      · rw [List.map_cons, if_neg hk]
      · rfl
theorem ins_ev : ∀ {t : Tm} {k v : Int} {f : Int → Int}, ev (ins t k v) f = ev t f + v * f k
  | [], k, v, f => by simp [ins, ev_cons, ev_nil]
  | p :: t, k, v, f => by
    unfold ins
    split
    · next h => subst h; simp only [ev_cons, Int.add_mul]; omega
    · simp only [ev_cons, ins_ev]; omega
theorem ins_len : ∀ {t : Tm} {k v : Int}, (ins t k v).length ≤ t.length + 1
  | [], k, v => by simp [ins]
  | p :: t, k, v => by
    unfold ins
    split
    · simp
    · have := ins_len (t := t) (k := k) (v := v); simp only [List.length_cons]; omega
theorem ins_key : ∀ {t : Tm} {k v x : Int}, x ∈ (ins t k v).map (·.1) → x = k ∨ x ∈ t.map (·.1)
  | [], k, v, x, h => by simpa [ins] using h
  | p :: t, k, v, x, h => by
    unfold ins at h
    split at h
    · exact .inr (by simpa using h)
    · rw [List.map_cons] at h ⊢
      rcases List.mem_cons.mp h with e | h
      · exact .inr (by rw [e]; exact List.mem_cons_self)
      · exact (ins_key h).imp id fun z => List.mem_cons_of_mem _ z
theorem ins_nd : ∀ {t : Tm} {k v : Int}, (t.map (·.1)).Nodup → ((ins t k v).map (·.1)).Nodup
  | [], k, v, _ => by simp [ins]
  | p :: t, k, v, h => by
    unfold ins
    split
    · simpa using h
    · next hk =>
      rw [List.map_cons, List.nodup_cons] at h ⊢
      exact ⟨fun z => (ins_key z).elim hk h.1, ins_nd h.2⟩
def insB (t : Tm) (p : Int × Int) (b : Tm) : Tm := b.foldl (fun t q => ins t (p.1 + q.1) (p.2 * q.2)) t
def prodT (t a b : Tm) : Tm := a.foldl (fun t p => insB t p b) t
def sumT (t l : Tm) : Tm := l.foldl (fun t p => ins t p.1 p.2) t
structure Tb (t : Tm) (n : Nat) (F : (Int → Int) → Int) : Prop where
  nd : (t.map (·.1)).Nodup
  ln : t.length ≤ n
  ev : ∀ f, ev t f = F f
theorem Tb.nil : Tb [] 0 (fun _ => 0) := ⟨by simp, by simp, fun f => rfl⟩
theorem Tb.ins {t : Tm} {n : Nat} {F : (Int → Int) → Int} (h : Tb t n F) {k v : Int} : Tb (ins t k v) (n + 1) (fun f => F f + v * f k) := ⟨ins_nd h.nd, Nat.le_trans ins_len (by have := h.ln; omega), fun f => by rw [ins_ev, h.ev]⟩
/-! ### tidy -/
def gt (t : Tm) (k : Int) : Int := (tget t k).getD 0
def tidyL (t : Tm) (m : Int) (ys : List Int) : Tm := (ys.filter fun k => decide (gt t k % m ≠ 0)).map fun k => (k, gt t k % m)
theorem perm_sum {xs ys : List Int} (h : xs.Perm ys) : xs.sum = ys.sum := by
  induction h with
  | nil => rfl
  | cons x _ ih => rw [List.sum_cons, List.sum_cons, ih]
  | swap x y l => simp only [List.sum_cons]; omega
  | trans _ _ a b => exact a.trans b
theorem gt_mem {t : Tm} (h : (t.map (·.1)).Nodup) {p : Int × Int} (hp : p ∈ t) : tget t p.1 = some p.2 := by
  induction t with
  | nil => cases hp
  | cons q t ih =>
    rw [List.map_cons, List.nodup_cons] at h
    unfold tget
    rw [List.find?_cons]
    rcases List.mem_cons.mp hp with e | hp
    · subst e; simp
    · have hne : q.1 ≠ p.1 := fun z => h.1 (by rw [z]; exact List.mem_map_of_mem hp)
      simp only [hne, decide_false]
      exact ih h.2 hp
theorem tidy_ev {t : Tm} {m : Int} {f : Int → Int} : ∀ {ys : List Int}, Md m (ev (tidyL t m ys) f) ((ys.map fun k => gt t k * f k).sum)
  | [] => .refl
  | y :: ys => by
    have ih := tidy_ev (t := t) (m := m) (f := f) (ys := ys)
    unfold tidyL at ih ⊢
    rw [List.map_cons, List.sum_cons, List.filter_cons]
    split
    · rw [List.map_cons, ev_cons]
      exact Md.rest.mulr.add ih
    · next h =>
      have h0 : gt t y % m = 0 := by simpa using h
      have : Md m 0 (gt t y * f y) := by
        have := (Md.rest (m := m) (a := gt t y)).mulr (c := f y)
        rw [h0, Int.zero_mul] at this
        exact this
      have := this.add ih
      rw [Int.zero_add] at this
      exact this
theorem tidy_ok {t : Tm} {n : Nat} {F : (Int → Int) → Int} {m : Int} {ys : List Int} (h : Tb t n F) (hm : 0 < m) (hp : ys.Perm (t.map (·.1))) (hs : ys.Pairwise (· ≤ ·)) : Cn m (tidyL t m ys) ∧ ∀ f, Md m (ev (tidyL t m ys) f) (F f) := by
  have nd : ys.Nodup := hp.nodup_iff.mpr h.nd
  have st : ys.Pairwise (· < ·) := by
    have := List.Pairwise.and hs nd
    exact this.imp fun {a b} hab => by have := hab.1; have := hab.2; omega
  refine ⟨⟨?_, fun p hq => ?_⟩, fun f => ?_⟩
  · unfold tidyL
    rw [List.pairwise_map]
    exact st.filter _
  · unfold tidyL at hq
    obtain ⟨k, hk, rfl⟩ := List.mem_map.mp hq
    have hk := (List.mem_filter.mp hk).2
    have h1 := Int.emod_nonneg (gt t k) (b := m) (by omega)
    have h2 := Int.emod_lt_of_pos (gt t k) hm
    have h3 : gt t k % m ≠ 0 := by simpa using hk
    exact ⟨by dsimp only; omega, h2⟩
  · refine tidy_ev.trans (.of ?_)
    rw [perm_sum (hp.map fun k => gt t k * f k), ← h.ev f, List.map_map]
    unfold ev
    congr 1
    refine List.map_congr_left fun p hp => ?_
    show gt t p.1 * f p.1 = p.2 * f p.1
    unfold gt
    rw [gt_mem h.nd hp]; rfl
end RF

/-! FL: bodies as functions. A slot holds data, an own container or a borrowed one; addresses are hidden. -/
namespace FL
open PySem PySem.Spec PyProof.Rows L2 DL

inductive FV where
  | d (x : PyData)
  | c (x : Cell)
  | b (x : Cell)
abbrev FSt := List (Option FV)
/-- what an expression tells: data, the container in a slot, a new container -/
inductive FR where
  | val (x : PyData)
  | ref (i : Nat)
  | own (c : Cell)
structure Exc where
  cls : Str
  val : PyData
inductive R (α : Type) where
  | no
  | ok (a : α) (ε : FSt)
  | ex (e : Exc) (ε : FSt)
def R.bind {α β : Type} (r : R α) (f : α → FSt → R β) : R β := match r with
  | .no => .no
  | .ok a ε => f a ε
  | .ex e ε => .ex e ε
theorem R.bind_ok {α β : Type} {a : α} {ε : FSt} {f : α → FSt → R β} : (R.ok a ε).bind f = f a ε := rfl
theorem R.bind_no {α β : Type} {f : α → FSt → R β} : (R.no : R α).bind f = .no := rfl
theorem R.bind_ex {α β : Type} {e : Exc} {ε : FSt} {f : α → FSt → R β} : (R.ex e ε : R α).bind f = .ex e ε := rfl
open Classical in
noncomputable def asr {α : Type} (p : Prop) (x : R α) : R α := if p then x else .no
theorem asr_pos {α : Type} {p : Prop} {x : R α} (h : p) : asr p x = x := if_pos h
theorem asr_true {α : Type} {x : R α} : asr True x = x := if_pos trivial

def getC (ε : FSt) (i : Nat) : Option Cell := match ε[i]? with
  | some (some (.c c)) => some c
  | some (some (.b c)) => some c
  | _ => none
def setC (ε : FSt) (i : Nat) (c : Cell) : FSt := match ε[i]? with
  | some (some (.c _)) => ε.set i (some (.c c))
  | some (some (.b _)) => ε.set i (some (.b c))
  | _ => ε
def isC (ε : FSt) (i : Nat) : Prop := (getC ε i).isSome = true
def isB (ε : FSt) (i : Nat) : Prop := ∃ c, ε[i]? = some (some (.b c))

structure Mt (δ : DSt) (μ : Mu) (ε : FSt) : Prop where
  len : δ.length = ε.length
  dat : ∀ (i : Nat) (x : PyData), ε[i]? = some (some (.d x)) → δ[i]? = some (some (.d x))
  cel : ∀ (i : Nat) (c : Cell), getC ε i = some c → ∃ p, δ[i]? = some (some (.cell p)) ∧ μ p = some c
  apart : ∀ (i j : Nat) (p : Addr), isC ε i → isC ε j → δ[i]? = some (some (.cell p)) → δ[j]? = some (some (.cell p)) → i = j
def Adr (δ : DSt) (ε : FSt) (p : Addr) : Prop := ∃ i, isC ε i ∧ δ[i]? = some (some (.cell p))
/-- the same kinds of slots -/
def same1 : Option FV → Option FV → Prop
  | some (.d x), v => v = some (.d x)
  | some (.c _), v => ∃ y, v = some (.c y)
  | some (.b _), v => ∃ y, v = some (.b y)
  | none, v => v = none
structure Kd (ε ε' : FSt) : Prop where
  len : ε'.length = ε.length
  at' : ∀ (i : Nat) (v : Option FV), ε[i]? = some v → ∃ v', ε'[i]? = some v' ∧ same1 v v'
theorem same1_refl : ∀ v, same1 v v
  | some (.d _) => rfl
  | some (.c x) => ⟨x, rfl⟩
  | some (.b x) => ⟨x, rfl⟩
  | none => rfl
theorem same1_trans : ∀ {u v w}, same1 u v → same1 v w → same1 u w
  | some (.d _), _, _, h, g => by cases (show _ = _ from h); exact g
  | some (.c _), _, _, ⟨y, h⟩, g => by subst h; exact g
  | some (.b _), _, _, ⟨y, h⟩, g => by subst h; exact g
  | none, _, _, h, g => by cases (show _ = _ from h); exact g
theorem Kd.refl (ε : FSt) : Kd ε ε := ⟨rfl, fun i v h => ⟨v, h, same1_refl v⟩⟩
theorem Kd.trans {a b c : FSt} (h : Kd a b) (g : Kd b c) : Kd a c := ⟨g.len.trans h.len, fun i v e => by
  obtain ⟨v1, e1, s1⟩ := h.at' i v e
  obtain ⟨v2, e2, s2⟩ := g.at' i v1 e1
  exact ⟨v2, e2, same1_trans s1 s2⟩⟩
theorem getC_some {ε : FSt} {i : Nat} {c : Cell} (h : getC ε i = some c) : ε[i]? = some (some (.c c)) ∨ ε[i]? = some (some (.b c)) := by
  unfold getC at h
  split at h
  · next x e => cases h; exact .inl e
  · next x e => cases h; exact .inr e
  · cases h
theorem getC_c {ε : FSt} {i : Nat} {c : Cell} (h : ε[i]? = some (some (.c c))) : getC ε i = some c := by unfold getC; rw [h]
theorem getC_b {ε : FSt} {i : Nat} {c : Cell} (h : ε[i]? = some (some (.b c))) : getC ε i = some c := by unfold getC; rw [h]
theorem Kd.isC {ε ε' : FSt} (k : Kd ε ε') {i : Nat} : FL.isC ε i ↔ FL.isC ε' i := by
  have hl : ε.length = ε'.length := k.len.symm
  unfold FL.isC
  cases e : ε[i]? with
  | none =>
    have e' : ε'[i]? = none := List.getElem?_eq_none (by rw [← hl]; exact List.getElem?_eq_none_iff.mp e)
    simp [getC, e, e']
  | some v =>
    obtain ⟨v', e', s⟩ := k.at' i v e
    cases v with
    | none => cases (show _ = _ from s); simp [getC, e, e']
    | some f => cases f with
      | d x => cases (show _ = _ from s); simp [getC, e, e']
      | c x => obtain ⟨y, s⟩ := s; subst s; simp [getC, e, e']
      | b x => obtain ⟨y, s⟩ := s; subst s; simp [getC, e, e']
theorem Kd.adr {ε ε' : FSt} (k : Kd ε ε') {δ : DSt} {p : Addr} : Adr δ ε p ↔ Adr δ ε' p := by
  unfold Adr
  exact ⟨fun ⟨i, a, b⟩ => ⟨i, k.isC.mp a, b⟩, fun ⟨i, a, b⟩ => ⟨i, k.isC.mpr a, b⟩⟩
theorem isC_some {ε : FSt} {i : Nat} (h : isC ε i) : ∃ c, getC ε i = some c := Option.isSome_iff_exists.mp h
theorem isC_of {ε : FSt} {i : Nat} {c : Cell} (h : getC ε i = some c) : isC ε i := by unfold isC; rw [h]; rfl
theorem Mt.adr {δ : DSt} {μ : Mu} {ε : FSt} (m : Mt δ μ ε) {p : Addr} (h : Adr δ ε p) : ∃ c, μ p = some c := by
  obtain ⟨i, hi, hp⟩ := h
  obtain ⟨c, hc⟩ := isC_some hi
  obtain ⟨q, h1, h2⟩ := m.cel i c hc
  rw [hp] at h1
  cases h1
  exact ⟨c, h2⟩
/-- what an expression may do -/
structure TrE (δ : DSt) (μ : Mu) (ε : FSt) (μ' : Mu) (ε' : FSt) : Prop where
  mt : Mt δ μ' ε'
  fr : ∀ b c, μ b = some c → ¬ Adr δ ε b → μ' b = some c
  kd : Kd ε ε'
theorem TrE.refl {δ : DSt} {μ : Mu} {ε : FSt} (m : Mt δ μ ε) : TrE δ μ ε μ ε := ⟨m, fun _ _ h _ => h, .refl _⟩
theorem TrE.trans {δ : DSt} {μ μ1 μ2 : Mu} {ε ε1 ε2 : FSt} (a : TrE δ μ ε μ1 ε1) (b : TrE δ μ1 ε1 μ2 ε2) : TrE δ μ ε μ2 ε2 :=
  ⟨b.mt, fun p c h n => b.fr p c (a.fr p c h n) (fun z => n (a.kd.adr.mpr z)), a.kd.trans b.kd⟩
/-- a result -/
def RF (δ : DSt) (μ : Mu) (ε' : FSt) (μ' : Mu) : FR → DV → Prop
  | .val x, v => v = .d x
  | .ref i, v => isC ε' i ∧ ∃ p, v = .cell p ∧ δ[i]? = some (some (.cell p))
  | .own c, v => ∃ p, v = .cell p ∧ μ' p = some c ∧ μ p = none
theorem RF.keep {δ : DSt} {μ μ1 μ2 : Mu} {ε ε1 ε2 : FSt} (t0 : TrE δ μ ε μ1 ε1) (m : Mt δ μ ε) (t : TrE δ μ1 ε1 μ2 ε2) : ∀ {r : FR} {v : DV}, RF δ μ ε1 μ1 r v → RF δ μ ε2 μ2 r v
  | .val _, _, h => h
  | .ref i, _, ⟨a, p, b, c⟩ => ⟨t.kd.isC.mp a, p, b, c⟩
  | .own c, _, ⟨p, a, b, e⟩ => ⟨p, a, t.fr p c b (fun z => by
      obtain ⟨d, hd⟩ := m.adr (t0.kd.adr.mpr z)
      rw [e] at hd; cases hd), e⟩
/-- what is seen of a result: containers as data -/
def cellD : Cell → PyData
  | .lst xs => .list xs
  | .dct kvs => .dict (kvs.map fun p => (kD p.1, p.2))
def see (ε : FSt) : FR → Option PyData
  | .val x => some x
  | .ref i => (getC ε i).map cellD
  | .own c => some (cellD c)
abbrev FT := FSt → R FR
abbrev FTT := FSt → R Bool
abbrev FTA := FSt → R (List FR)
def fit {α β : Type} (P : α → β → Mu → FSt → Prop) (δ : DSt) (μ : Mu) (ε : FSt) (Q : β → Mu → Prop) : R α → Prop
  | .ok a ε' => ∀ v μ', TrE δ μ ε μ' ε' → P a v μ' ε' → Q v μ'
  | _ => False
def upF (f : FT) : DT := fun δ μ Q => ∃ ε, Mt δ μ ε ∧ fit (fun r v μ' ε' => RF δ μ ε' μ' r v) δ μ ε Q (f ε)
def upFT (f : FTT) : DTT := fun δ μ Q => ∃ ε, Mt δ μ ε ∧ fit (fun r v _ _ => v = r) δ μ ε Q (f ε)
def upFA (f : FTA) : DTA := fun δ μ Q => ∃ ε, Mt δ μ ε ∧ fit (fun rs vs μ' ε' => PySem.Paired (fun r v => RF δ μ ε' μ' r v) rs vs) δ μ ε Q (f ε)
abbrev FE (X : Cx) (e : Expr) (f : FT) : Prop := DE X e (upF f)
abbrev FC (X : Cx) (e : Expr) (f : FTT) : Prop := DC X e (upFT f)
abbrev FCW (X : Cx) (e : Expr) (f : FTT) : Prop := DCW X e (upFT f)
abbrev FA (X : Cx) (es : List Expr) (f : FTA) : Prop := DA X es (upFA f)
theorem d_imp {X : Cx} {e : Expr} {t t' : DT} (h : DE X e t) (w : ∀ δ μ Q, t' δ μ Q → t δ μ Q) : DE X e t' := pe_imp h fun σ H Q ⟨δ, μ, Qd, rs, rm, q, z⟩ => ⟨δ, μ, Qd, rs, rm, w _ _ _ q, z⟩
theorem c_imp {X : Cx} {e : Expr} {t t' : DTT} (h : DC X e t) (w : ∀ δ μ Q, t' δ μ Q → t δ μ Q) : DC X e t' := pt_imp h fun σ H Q ⟨δ, μ, Qd, rs, rm, q, z⟩ => ⟨δ, μ, Qd, rs, rm, w _ _ _ q, z⟩
theorem cw_imp {X : Cx} {e : Expr} {t t' : DTT} (h : DCW X e t) (w : ∀ δ μ Q, t' δ μ Q → t δ μ Q) : DCW X e t' := pw_imp h fun σ H Q ⟨δ, μ, Qd, rs, rm, q, z⟩ => ⟨δ, μ, Qd, rs, rm, w _ _ _ q, z⟩
theorem a_imp {X : Cx} {e : List Expr} {t t' : DTA} (h : DA X e t) (w : ∀ δ μ Q, t' δ μ Q → t δ μ Q) : DA X e t' := pa_imp h fun σ H Q ⟨δ, μ, Qd, rs, rm, q, z⟩ => ⟨δ, μ, Qd, rs, rm, w _ _ _ q, z⟩
theorem s_imp {X : Cx} {e : Stmt} {t t' : DTS} (h : DS X e t) (w : ∀ D δ μ, t' D δ μ → t D δ μ) : DS X e t' := ps_imp h fun D σ H ⟨δ, μ, Dd, rs, rm, q, z⟩ => ⟨δ, μ, Dd, rs, rm, w _ _ _ q, z⟩
theorem ss_imp {X : Cx} {e : List Stmt} {t t' : DTS} (h : DSs X e t) (w : ∀ D δ μ, t' D δ μ → t D δ μ) : DSs X e t' := pss_imp h fun D σ H ⟨δ, μ, Dd, rs, rm, q, z⟩ => ⟨δ, μ, Dd, rs, rm, w _ _ _ q, z⟩

/-! ### use of a part -/
section
variable {δ : DSt} {μ : Mu} {ε : FSt}
theorem fit_ok {α β : Type} {P : α → β → Mu → FSt → Prop} {Q : β → Mu → Prop} {r : R α} (h : fit P δ μ ε Q r) : ∃ a ε', r = .ok a ε' ∧ ∀ v μ', TrE δ μ ε μ' ε' → P a v μ' ε' → Q v μ' := by
  cases r with
  | no => exact h.elim
  | ex _ _ => exact h.elim
  | ok a ε' => exact ⟨a, ε', rfl, h⟩
/-- part f, then what g makes of it -/
theorem use1 {f : FT} {α β : Type} {g : FR → FSt → R α} {P : α → β → Mu → FSt → Prop} {Q : β → Mu → Prop} {Q' : DV → Mu → Prop} (m : Mt δ μ ε) (h : fit P δ μ ε Q ((f ε).bind g))
    (k : ∀ r ε1 v μ1, f ε = .ok r ε1 → TrE δ μ ε μ1 ε1 → RF δ μ ε1 μ1 r v → fit P δ μ ε Q (g r ε1) → Q' v μ1) : upF f δ μ Q' := by
  refine ⟨ε, m, ?_⟩
  cases e : f ε with
  | no => rw [e] at h; exact h.elim
  | ex _ _ => rw [e] at h; exact h.elim
  | ok r ε1 =>
    rw [e] at h
    exact fun v μ1 t p => k r ε1 v μ1 e t p h
theorem useT {f : FTT} {α β : Type} {g : Bool → FSt → R α} {P : α → β → Mu → FSt → Prop} {Q : β → Mu → Prop} {Q' : Bool → Mu → Prop} (m : Mt δ μ ε) (h : fit P δ μ ε Q ((f ε).bind g))
    (k : ∀ r ε1 μ1, f ε = .ok r ε1 → TrE δ μ ε μ1 ε1 → fit P δ μ ε Q (g r ε1) → Q' r μ1) : upFT f δ μ Q' := by
  refine ⟨ε, m, ?_⟩
  cases e : f ε with
  | no => rw [e] at h; exact h.elim
  | ex _ _ => rw [e] at h; exact h.elim
  | ok r ε1 =>
    rw [e] at h
    exact fun v μ1 t p => by subst p; exact k v ε1 μ1 e t h
theorem useA {f : FTA} {α β : Type} {g : List FR → FSt → R α} {P : α → β → Mu → FSt → Prop} {Q : β → Mu → Prop} {Q' : List DV → Mu → Prop} (m : Mt δ μ ε) (h : fit P δ μ ε Q ((f ε).bind g))
    (k : ∀ rs ε1 vs μ1, f ε = .ok rs ε1 → TrE δ μ ε μ1 ε1 → PySem.Paired (fun r v => RF δ μ ε1 μ1 r v) rs vs → fit P δ μ ε Q (g rs ε1) → Q' vs μ1) : upFA f δ μ Q' := by
  refine ⟨ε, m, ?_⟩
  cases e : f ε with
  | no => rw [e] at h; exact h.elim
  | ex _ _ => rw [e] at h; exact h.elim
  | ok r ε1 =>
    rw [e] at h
    exact fun v μ1 t p => k r ε1 v μ1 e t p h
/-- behind a first part: the wish seen from there -/
theorem fit_step {α β : Type} {P : α → β → Mu → FSt → Prop} {Q : β → Mu → Prop} {μ1 : Mu} {ε1 : FSt} (t : TrE δ μ ε μ1 ε1) {r : R α} {P' : α → β → Mu → FSt → Prop} (h : fit P δ μ ε Q r) (w : ∀ a v μ' ε', TrE δ μ1 ε1 μ' ε' → P' a v μ' ε' → P a v μ' ε') : fit P' δ μ1 ε1 Q r := by
  cases r with
  | no => exact h
  | ex _ _ => exact h
  | ok a ε' => exact fun v μ' t' p => h v μ' (t.trans t') (w _ _ _ _ t' p)
theorem RF.back {μ μ1 μ' : Mu} {ε ε1 ε' : FSt} (m : Mt δ μ ε) (t : TrE δ μ ε μ1 ε1) (t' : TrE δ μ1 ε1 μ' ε') : ∀ {r : FR} {v : DV}, RF δ μ1 ε' μ' r v → RF δ μ ε' μ' r v
  | .val _, _, h => h
  | .ref _, _, h => h
  | .own c, _, ⟨p, a, b, e⟩ => ⟨p, a, b, by
      cases h : μ p with
      | none => rfl
      | some c0 =>
        by_cases z : Adr δ ε p
        · obtain ⟨c2, h2⟩ := t.mt.adr (t.kd.adr.mp z)
          rw [e] at h2; cases h2
        · have := t.fr p c0 h z
          rw [e] at this; cases this⟩
end
end FL

namespace FL
open PySem PySem.Spec PyProof.Rows L2 DL
open Classical in
noncomputable def req {α : Type} (p : Prop) (x : Option α) : Option α := if p then x else none
theorem req_pos {α : Type} {p : Prop} {x : Option α} (h : p) : req p x = x := if_pos h
theorem req_true {α : Type} {x : Option α} : req True x = x := if_pos trivial
theorem req_some {α : Type} {p : Prop} {x : Option α} {a : α} (h : req p x = some a) : p ∧ x = some a := by
  unfold req at h
  split at h
  · next hp => exact ⟨hp, h⟩
  · cases h
/-- what a value over data is seen as -/
def look (μ : Mu) : DV → Option PyData
  | .d x => some x
  | .cell p => (μ p).map cellD
/-- read-only operations -/
def rdP1 (g : PyData → Option PyData) : DR1 := fun x μ Q => ∃ a z, look μ x = some a ∧ g a = some z ∧ Q (.d z) μ
def rdP2 (g : PyData → PyData → Option PyData) : DR2 := fun x y μ Q => ∃ a b z, look μ x = some a ∧ look μ y = some b ∧ g a b = some z ∧ Q (.d z) μ
def looks (μ : Mu) : List DV → Option (List PyData)
  | [] => some []
  | x :: r => (look μ x).bind fun a => (looks μ r).map (a :: ·)
def rdPA (g : List PyData → Option PyData) : DRA := fun ds μ Q => ∃ as z, looks μ ds = some as ∧ g as = some z ∧ Q (.d z) μ

def ofO (ε : FSt) : Option PyData → R FR
  | some z => .ok (.val z) ε
  | none => .no
theorem ofO_some {ε : FSt} {z : PyData} : ofO ε (some z) = .ok (.val z) ε := rfl
def sees (ε : FSt) : List FR → Option (List PyData)
  | [] => some []
  | x :: r => (see ε x).bind fun a => (sees ε r).map (a :: ·)
def fVar (i : Nat) : FT := fun ε => match ε[i]? with
  | some (some (.d x)) => .ok (.val x) ε
  | some (some (.c _)) => .ok (.ref i) ε
  | some (some (.b _)) => .ok (.ref i) ε
  | _ => .no
def fC (x : PyData) : FT := fun ε => .ok (.val x) ε
def fUn (g : PyData → Option PyData) (fa : FT) : FT := fun ε => (fa ε).bind fun x ε1 => ofO ε1 ((see ε1 x).bind g)
def fOp (g : PyData → PyData → Option PyData) (fa fb : FT) : FT := fun ε => (fa ε).bind fun x ε1 => (fb ε1).bind fun y ε2 => ofO ε2 ((see ε2 x).bind fun a => (see ε2 y).bind fun b => g a b)
def faNil : FTA := fun ε => .ok [] ε
def faCons (fa : FT) (fr : FTA) : FTA := fun ε => (fa ε).bind fun x ε1 => (fr ε1).bind fun xs ε2 => .ok (x :: xs) ε2
def fFn (g : List PyData → Option PyData) (fa : FTA) : FT := fun ε => (fa ε).bind fun xs ε1 => ofO ε1 ((sees ε1 xs).bind g)

section
variable {δ : DSt} {μ : Mu} {ε : FSt}
theorem see_look {μ0 : Mu} {r : FR} {v : DV} {a : PyData} (m : Mt δ μ ε) (h : RF δ μ0 ε μ r v) (e : see ε r = some a) : look μ v = some a := by
  cases r with
  | val x => cases (show v = .d x from h); exact e
  | ref i =>
    obtain ⟨hc, p, rfl, hp⟩ := h
    obtain ⟨c, hg⟩ := isC_some hc
    obtain ⟨q, h1, h2⟩ := m.cel i c hg
    rw [hp] at h1
    cases h1
    simp only [see, hg] at e
    simpa [look, h2] using e
  | own c =>
    obtain ⟨p, rfl, h2, _⟩ := h
    simpa [look, h2, see] using e
theorem sees_looks {μ0 : Mu} : ∀ {rs : List FR} {vs : List DV} {as : List PyData}, Mt δ μ ε → PySem.Paired (fun r v => RF δ μ0 ε μ r v) rs vs → sees ε rs = some as → looks μ vs = some as
  | _, _, _, m, .nil, e => e
  | _, _, _, m, .cons h t, e => by
    simp only [sees, Option.bind_eq_some_iff, Option.map_eq_some_iff] at e
    obtain ⟨a, e1, xs, e2, rfl⟩ := e
    simp [looks, see_look m h e1, sees_looks m t e2]
/-- the end of a part: its result is data -/
theorem fit_val {Q : DV → Mu → Prop} {μ1 : Mu} {ε1 : FSt} {z : PyData} (t : TrE δ μ ε μ1 ε1) (h : fit (fun r v μ' ε' => RF δ μ ε' μ' r v) δ μ ε Q (.ok (.val z) ε1)) : Q (.d z) μ1 := h _ _ t rfl
theorem fit_ofO {Q : DV → Mu → Prop} {μ1 : Mu} {ε1 : FSt} {o : Option PyData} (t : TrE δ μ ε μ1 ε1) (h : fit (fun r v μ' ε' => RF δ μ ε' μ' r v) δ μ ε Q (ofO ε1 o)) : ∃ z, o = some z ∧ Q (.d z) μ1 := by
  cases o with
  | none => exact h.elim
  | some z => exact ⟨z, rfl, fit_val t h⟩
theorem upF_use {f : FT} {Q Q' : DV → Mu → Prop} {P} (m : Mt δ μ ε) (h : fit P δ μ ε Q (f ε)) (hp : ∀ a v μ' ε', RF δ μ ε' μ' a v → P a v μ' ε') (w : ∀ v μ', Q v μ' → Q' v μ') : upF f δ μ Q' := by
  refine ⟨ε, m, ?_⟩
  cases e : f ε with
  | no => rw [e] at h; exact h
  | ex _ _ => rw [e] at h; exact h
  | ok a ε' => rw [e] at h; exact fun v μ' t p => w _ _ (h v μ' t (hp _ _ _ _ p))
end
section
variable {X : Cx} {pos : Pos} {a b c e : Expr} {fa fb fc fe : FT} {es : List Expr} {fr : FTA}
theorem f_var (i : Nat) {x : Str} (hN : X.N[i]? = some x := by rfl) (hv : Vis X.env.scope x := by first | exact Or.inl rfl | exact Or.inr (Or.inl rfl) | exact Or.inr (Or.inr rfl)) (hd : (x == ("__debug__" : Str)) = false := by decide)
    (hcd : (x == ("__classdict__" : Str)) = false := by decide) : FE X (.Name x pos) (fVar i) := d_imp (d_var i hN hv hd hcd) fun δ μ Q ⟨ε, m, h⟩ => by
  unfold fVar at h
  unfold dVar
  split at h
  · next x e => rw [m.dat i x e]; exact h _ _ (.refl m) rfl
  · next x e =>
    obtain ⟨p, h1, h2⟩ := m.cel i _ (getC_c e)
    rw [h1]; exact h _ _ (.refl m) ⟨isC_of (getC_c e), p, rfl, h1⟩
  · next x e =>
    obtain ⟨p, h1, h2⟩ := m.cel i _ (getC_b e)
    rw [h1]; exact h _ _ (.refl m) ⟨isC_of (getC_b e), p, rfl, h1⟩
  · exact h.elim
theorem f_const {x : PyData} (h : DE X e (dC x)) : FE X e (fC x) := d_imp h fun δ μ Q ⟨ε, m, h⟩ => h _ _ (.refl m) rfl
theorem up_fUn {g : PyData → Option PyData} : ∀ δ μ Q, upF (fUn g fa) δ μ Q → dUn (rdP1 g) (upF fa) δ μ Q := fun δ μ Q ⟨ε, m, h⟩ =>
  use1 m h fun r ε1 v μ1 e t rf h1 => by
    obtain ⟨z, ez, q⟩ := fit_ofO t h1
    simp only [Option.bind_eq_some_iff] at ez
    obtain ⟨a, e1, e2⟩ := ez
    exact ⟨a, z, see_look t.mt rf e1, e2, q⟩
theorem up_fOp {g : PyData → PyData → Option PyData} : ∀ δ μ Q, upF (fOp g fa fb) δ μ Q → dOp (rdP2 g) (upF fa) (upF fb) δ μ Q := fun δ μ Q ⟨ε, m, h⟩ =>
  use1 m h fun r ε1 v μ1 e t rf h1 => use1 (P := fun r v μ' ε' => RF δ μ ε' μ' r v) t.mt (fit_step t h1 fun _ _ _ _ _ p => p) fun r2 ε2 v2 μ2 e2 t2 rf2 h2 => by
    have rfk := RF.keep t m t2 rf
    have rf2' := RF.back m t t2 rf2
    have h3 : fit (fun r v μ' ε' => RF δ μ ε' μ' r v) δ μ1 ε1 Q (ofO ε2 ((see ε2 r).bind fun a => (see ε2 r2).bind fun b => g a b)) := h2
    cases ho : ((see ε2 r).bind fun a => (see ε2 r2).bind fun b => g a b) with
    | none => rw [ho] at h3; exact h3.elim
    | some z =>
      rw [ho] at h3
      simp only [Option.bind_eq_some_iff] at ho
      obtain ⟨a, e3, b, e4, e5⟩ := ho
      exact ⟨a, b, z, see_look t2.mt rfk e3, see_look t2.mt rf2' e4, e5, h3 _ _ t2 rfl⟩
theorem fa_nil : FA X [] faNil := a_imp a_nil fun δ μ Q ⟨ε, m, h⟩ => h _ _ (.refl m) .nil
theorem up_faCons : ∀ δ μ Q, upFA (faCons fa fr) δ μ Q → aCons (upF fa) (upFA fr) δ μ Q := fun δ μ Q ⟨ε, m, h⟩ =>
  use1 m h fun r ε1 v μ1 e t rf h1 => useA (P := fun rs vs μ' ε' => PySem.Paired (fun r v => RF δ μ ε' μ' r v) rs vs) t.mt (fit_step t h1 fun _ _ _ _ _ p => p) fun rs ε2 vs μ2 e2 t2 rf2 h2 => by
    exact h2 _ _ t2 (.cons (RF.keep t m t2 rf) (L2.Paired.mapP rf2 fun _ _ p => RF.back m t t2 p))
theorem fa_cons (ha : FE X e fe) (hr : FA X es fr) (hs : starEach (e :: es) X.env = (false, eval e X.env) :: starEach es X.env := by rfl) : FA X (e :: es) (faCons fe fr) := a_imp (a_cons ha hr hs) up_faCons
theorem up_fFn {g : List PyData → Option PyData} : ∀ δ μ Q, upF (fFn g fr) δ μ Q → dCall (rdPA g) (upFA fr) δ μ Q := fun δ μ Q ⟨ε, m, h⟩ =>
  useA m h fun rs ε1 vs μ1 e t rf h1 => by
    obtain ⟨z, ez, q⟩ := fit_ofO t h1
    simp only [Option.bind_eq_some_iff] at ez
    obtain ⟨as, e1, e2⟩ := ez
    exact ⟨as, z, sees_looks t.mt rf e1, e2, q⟩
end
end FL

namespace FL
open PySem PySem.Spec PyProof.Rows L2 DL
section
variable {K : PySem.W.Frag} {μ : Mu} {H : Hp} {x : DV} {v : V} {a : PyData}
/-! ### what is seen, in the heap -/
theorem look_da (m : RM K μ H) (r : RV K μ H v x) (h : look μ x = some a) : Da K H v a := by
  cases x with
  | d y => cases (show y = a from Option.some.inj h); exact Da.mono unhid r
  | cell p =>
    cases (show v = .ref p from r)
    have h : (μ p).map cellD = some _ := h
    cases e : μ p with
    | none => rw [e] at h; cases h
    | some c =>
      rw [e] at h
      cases (show cellD c = a from Option.some.inj h)
      cases c with
      | lst ds =>
        obtain ⟨vs, h1, h2⟩ := m p _ e
        exact .lst (.of h1) (h2.mono unhid)
      | dct kvs =>
        obtain ⟨ks, h1, h2, h3⟩ := m p _ e
        have := Da.dct h1 (h3.mono unhid)
        have e2 : ((ks.map fun p => kD p.1).zip (kvs.map (·.2))) = kvs.map fun p => (kD p.1, p.2) := by
          have : (ks.map fun p => kD p.1) = kvs.map fun p => kD p.1 := by
            have := congrArg (List.map kD) h2
            simpa [List.map_map, Function.comp_def] using this
          rw [this]
          rw [List.zip_map']
        rw [e2] at this
        exact this
theorem look_list {xs : List PyData} (m : RM K μ H) (r : RV K μ H v x) (h : look μ x = some (.list xs)) : ∃ p vs, v = .ref p ∧ SqL K H p vs ∧ DaAll K (hid μ H) vs xs := by
  cases x with
  | d y =>
    cases (show y = _ from Option.some.inj h)
    cases (show Da K (hid μ H) v (.list xs) from r) with
    | lst s t => exact ⟨_, _, rfl, unhid.seq s, t⟩
  | cell p =>
    have h : (μ p).map cellD = some _ := h
    cases e : μ p with
    | none => rw [e] at h; cases h
    | some c =>
      rw [e] at h
      cases c with
      | dct _ => cases h
      | lst ds =>
        cases h
        obtain ⟨vs, h1, h2⟩ := m p _ e
        exact ⟨p, vs, r, .of h1, h2⟩
theorem look_tup {xs : List PyData} (r : RV K μ H v x) (h : look μ x = some (.tuple xs)) : x = .d (.tuple xs) ∧ ∃ p vs, v = .ref p ∧ SqP K (hid μ H) p vs ∧ DaAll K (hid μ H) vs xs := by
  cases x with
  | d y =>
    cases (show y = _ from Option.some.inj h)
    cases (show Da K (hid μ H) v (.tuple xs) from r) with
    | tup s t => exact ⟨rfl, _, _, rfl, s, t⟩
  | cell p =>
    have h : (μ p).map cellD = some _ := h
    cases e : μ p with
    | none => rw [e] at h; cases h
    | some c => rw [e] at h; cases c <;> cases h
theorem look_flat (r : RV K μ H v x) (h : look μ x = some a) (hf : (match a with | .list _ => false | .dict _ => false | _ => true) = true) : x = .d a := by
  cases x with
  | d y => cases (show y = a from Option.some.inj h); rfl
  | cell p =>
    have h : (μ p).map cellD = some _ := h
    cases e : μ p with
    | none => rw [e] at h; cases h
    | some c =>
      rw [e] at h
      cases (show cellD c = a from Option.some.inj h)
      cases c <;> cases hf
theorem look_int {i : Int} (r : RV K μ H v x) (h : look μ x = some (.int i)) : v = .int i := by
  have := look_flat r h rfl
  subst this
  cases r; rfl
theorem look_bool {i : Bool} (r : RV K μ H v x) (h : look μ x = some (.bool i)) : v = .bl i := by
  have := look_flat r h rfl
  subst this
  cases r; rfl
theorem look_str {i : Str} (r : RV K μ H v x) (h : look μ x = some (.str i)) : v = .str i := by
  have := look_flat r h rfl
  subst this
  cases r; rfl
theorem Da.hidden {H' : Hp} {d : PyData} (h : Da K H' v d) (hf : (match d with | .none => true | .bool _ => true | .int _ => true | .str _ => true | _ => false) = true) (H'' : Hp) : Da K H'' v d := by
  cases h with
  | non => exact .non
  | bl b => exact .bl b
  | int i => exact .int i
  | str x => exact .str x
  | lst _ _ => cases hf
  | tup _ _ => cases hf
  | dct _ _ => cases hf
end
/-! ### int operations -/
noncomputable def gI (C : Int → Int → Prop) (g : Int → Int → PyData) : PyData → PyData → Option PyData
  | .int i, .int j => req (C i j) (some (g i j))
  | _, _ => none
theorem upP_I {K : PySem.W.Frag} {C : Int → Int → Prop} {g : Int → Int → PyData} {gv : Int → Int → V} (r : ∀ H i j, Da K H (gv i j) (g i j)) : Up2 K (rdP2 (gI C g)) (rI C gv) := fun x y μ Qd v u H Q m rx ry ⟨a, b, z, ea, eb, ez, q⟩ w => by
  unfold gI at ez
  split at ez
  · next i j =>
    obtain ⟨hc, e⟩ := req_some ez
    cases e
    exact ⟨i, j, look_int rx ea, look_int ry eb, hc, w (.d _) μ _ H (.refl _ _) m (r _ _ _) q⟩
  · cases ez
def gI0 (g : Int → Int → PyData) : PyData → PyData → Option PyData
  | .int i, .int j => some (g i j)
  | _, _ => none
theorem upP_I0 {K : PySem.W.Frag} {g : Int → Int → PyData} {gv : Int → Int → V} (r : ∀ H i j, Da K H (gv i j) (g i j)) : Up2 K (rdP2 (gI0 g)) (rI0 gv) := fun x y μ Qd v u H Q m rx ry ⟨a, b, z, ea, eb, ez, q⟩ w => by
  unfold gI0 at ez
  split at ez
  · next i j =>
    cases ez
    exact ⟨i, j, look_int rx ea, look_int ry eb, w (.d _) μ _ H (.refl _ _) m (r _ _ _) q⟩
  · cases ez
def gU (g : Int → PyData) : PyData → Option PyData
  | .int i => some (g i)
  | _ => none
theorem upP_U {K : PySem.W.Frag} {g : Int → PyData} {gv : Int → V} (r : ∀ H i, Da K H (gv i) (g i)) : Up1 K (rdP1 (gU g)) (rU gv) := fun x μ Qd v H Q m rx ⟨a, z, ea, ez, q⟩ w => by
  unfold gU at ez
  split at ez
  · next i =>
    cases ez
    exact ⟨i, look_int rx ea, w (.d _) μ _ H (.refl _ _) m (r _ _) q⟩
  · cases ez
/-- either reading of a syntax -/
theorem d_or {X : Cx} {e : Expr} {t u : DT} (h : DE X e t) (g : DE X e u) : DE X e (fun δ μ Q => t δ μ Q ∨ u δ μ Q) := ⟨fun pins s σ H Q I ⟨δ, μ, Qd, rs, rm, q, w⟩ => by
  rcases q with q | q
  · exact h.run pins s σ H Q I ⟨δ, μ, Qd, rs, rm, q, w⟩
  · exact g.run pins s σ H Q I ⟨δ, μ, Qd, rs, rm, q, w⟩⟩
section
variable {X : Cx} {pos : Pos} {a b c e : Expr} {fa fb fc fe : FT} {es : List Expr} {fr : FTA}
noncomputable def gSub := gI0 fun i j => .int (i - j)
noncomputable def gMod := gI (fun _ j => 0 < j) fun i j => .int (i % j)
noncomputable def gFdiv := gI CDivW fun i j => .int (i / j)
noncomputable def gPow := gI CPowB fun i j => .int (i ^ j.toNat)
noncomputable def gShr := gI (fun _ j => 0 ≤ j) fun i j => .int (i / 2 ^ j.toNat)
noncomputable def gBand := gI0 fun i j => .int (Builtin.bitAnd i j)
def gNeg := gU fun i => .int (-i)
def gLt := gI0 fun i j => .bool (decide (i < j))
def gLe := gI0 fun i j => .bool (decide (i ≤ j))
def gGt := gI0 fun i j => .bool (decide (j < i))
def gGe := gI0 fun i j => .bool (decide (j ≤ i))
theorem f_sub (ha : FE X a fa) (hb : FE X b fb) : FE X (.BinOp a .Sub b pos) (fOp gSub fa fb) := d_imp (d_op op_sub (upP_I0 fun _ _ _ => .int _) ha hb) up_fOp
theorem f_mod (ha : FE X a fa) (hb : FE X b fb) : FE X (.BinOp a .Mod b pos) (fOp gMod fa fb) := d_imp (d_op op_mod (upP_I fun _ _ _ => .int _) ha hb) up_fOp
theorem f_fdiv (ha : FE X a fa) (hb : FE X b fb) : FE X (.BinOp a .FloorDiv b pos) (fOp gFdiv fa fb) := d_imp (d_op op_fdivW (upP_I fun _ _ _ => .int _) ha hb) up_fOp
theorem f_pow (ha : FE X a fa) (hb : FE X b fb) : FE X (.BinOp a .Pow b pos) (fOp gPow fa fb) := d_imp (d_op op_powB (upP_I fun _ _ _ => .int _) ha hb) up_fOp
theorem f_shr (ha : FE X a fa) (hb : FE X b fb) : FE X (.BinOp a .RShift b pos) (fOp gShr fa fb) := d_imp (d_op op_shr (upP_I fun _ _ _ => .int _) ha hb) up_fOp
theorem f_band (ha : FE X a fa) (hb : FE X b fb) : FE X (.BinOp a .BitAnd b pos) (fOp gBand fa fb) := d_imp (d_op op_and (upP_I0 fun _ _ _ => .int _) ha hb) up_fOp
theorem f_neg (ha : FE X a fa) : FE X (.UnaryOp .USub a pos) (fUn gNeg fa) := d_imp (d_un un_neg (upP_U fun _ _ => .int _) ha) up_fUn
theorem p_lt : Up2 X.K (rdP2 gLt) (rI0 fun i j => .bl (decide (i < j))) := upP_I0 fun _ _ _ => .bl _
theorem p_le : Up2 X.K (rdP2 gLe) (rI0 fun i j => .bl (decide (i ≤ j))) := upP_I0 fun _ _ _ => .bl _
theorem p_gt : Up2 X.K (rdP2 gGt) (rI0 fun i j => .bl (decide (j < i))) := upP_I0 fun _ _ _ => .bl _
theorem p_ge : Up2 X.K (rdP2 gGe) (rI0 fun i j => .bl (decide (j ≤ i))) := upP_I0 fun _ _ _ => .bl _
theorem f_cmp {op : CmpOp} {g : PyData → PyData → Option PyData} {rv : R2} (ho : OpR X (compareOp op) rv) (h : Up2 X.K (rdP2 g) rv) (hm : behindInMarks op b = false) (ha : FE X a fa) (hb : FE X b fb) : FE X (.Compare a [op] [b] pos) (fOp g fa fb) := d_imp (d_cmp ho h ha hb hm) up_fOp
theorem f_lt (ha : FE X a fa) (hb : FE X b fb) : FE X (.Compare a [.Lt] [b] pos) (fOp gLt fa fb) := f_cmp op_lt p_lt (nomark _) ha hb
theorem f_le (ha : FE X a fa) (hb : FE X b fb) : FE X (.Compare a [.LtE] [b] pos) (fOp gLe fa fb) := f_cmp op_le p_le (nomark _) ha hb
theorem f_gt (ha : FE X a fa) (hb : FE X b fb) : FE X (.Compare a [.Gt] [b] pos) (fOp gGt fa fb) := f_cmp op_gt p_gt (nomark _) ha hb
theorem f_ge (ha : FE X a fa) (hb : FE X b fb) : FE X (.Compare a [.GtE] [b] pos) (fOp gGe fa fb) := f_cmp op_ge p_ge (nomark _) ha hb
end
/-! ### == and != -/
noncomputable def eqP : PyData → PyData → Option Bool
  | .int i, .int j => some (decide (i = j))
  | .str i, .str j => some (decide (i = j))
  | .bool i, .bool j => some (decide (i = j))
  | i, j => req (SeqAt.shaped i = true ∧ SeqAt.shaped j = true) (some (PyData.eqv i j))
noncomputable def gEq (a b : PyData) : Option PyData := (eqP a b).map .bool
noncomputable def gNe (a b : PyData) : Option PyData := (eqP a b).map fun z => .bool (!z)
theorem eq_cases {K : PySem.W.Frag} {μ : Mu} {H : Hp} {x y : DV} {v u : V} {a b : PyData} {z : Bool} (m : RM K μ H) (rx : RV K μ H v x) (ry : RV K μ H u y) (ea : look μ x = some a) (eb : look μ y = some b) (ez : eqP a b = some z) :
    (scal v u = true ∧ decide (v = u) = z) ∨ ∃ d e, Dp K H v d ∧ Dp K H u e ∧ SeqAt.shaped d = true ∧ SeqAt.shaped e = true ∧ PyData.eqv d e = z := by
  have d1 := look_da m rx ea
  have d2 := look_da m ry eb
  unfold eqP at ez
  split at ez
  · next i j => cases ez; rw [look_int rx ea, look_int ry eb]; exact .inl ⟨rfl, dec_int2⟩
  · next i j => cases ez; rw [look_str rx ea, look_str ry eb]; exact .inl ⟨rfl, DL.dec_str⟩
  · next i j => cases ez; rw [look_bool rx ea, look_bool ry eb]; exact .inl ⟨rfl, dec_bl2⟩
  · obtain ⟨⟨s1, s2⟩, e⟩ := req_some ez
    cases e
    exact .inr ⟨a, b, d1.dp (SeqAt.canLay_of_shaped s1), d2.dp (SeqAt.canLay_of_shaped s2), s1, s2, rfl⟩
theorem p_eq {K : PySem.W.Frag} : Up2 K (rdP2 gEq) (fun x y H Q => rEq x y H Q ∨ rEqD K x y H Q) := fun x y μ Qd v u H Q m rx ry ⟨a, b, z, ea, eb, ez, q⟩ w => by
  simp only [gEq, Option.map_eq_some_iff] at ez
  obtain ⟨t, et, rfl⟩ := ez
  rcases eq_cases m rx ry ea eb et with ⟨h1, h2⟩ | ⟨d, e, h1, h2, h3, h4, h5⟩
  · exact .inl ⟨h1, by rw [h2]; exact w (.d (.bool t)) μ _ H (.refl _ _) m (Da.bl _) q⟩
  · exact .inr ⟨d, e, h1, h2, h3, h4, by rw [h5]; exact w (.d (.bool t)) μ _ H (.refl _ _) m (Da.bl _) q⟩
theorem p_ne {K : PySem.W.Frag} : Up2 K (rdP2 gNe) (fun x y H Q => rNe x y H Q ∨ rNeD K x y H Q) := fun x y μ Qd v u H Q m rx ry ⟨a, b, z, ea, eb, ez, q⟩ w => by
  simp only [gNe, Option.map_eq_some_iff] at ez
  obtain ⟨t, et, rfl⟩ := ez
  rcases eq_cases m rx ry ea eb et with ⟨h1, h2⟩ | ⟨d, e, h1, h2, h3, h4, h5⟩
  · exact .inl ⟨h1, by rw [h2]; exact w (.d (.bool (!t))) μ _ H (.refl _ _) m (Da.bl _) q⟩
  · exact .inr ⟨d, e, h1, h2, h3, h4, by rw [h5]; exact w (.d (.bool (!t))) μ _ H (.refl _ _) m (Da.bl _) q⟩
section
variable {X : Cx} {pos : Pos} {a b c e : Expr} {fa fb fc fe : FT} {es : List Expr} {fr : FTA}
theorem f_eq (hu : X.A.units + 64 < cLine) (ha : FE X a fa) (hb : FE X b fb) : FE X (.Compare a [.Eq] [b] pos) (fOp gEq fa fb) := f_cmp (op_eq.or (op_eqD hu)) p_eq (nomark _) ha hb
theorem f_ne (hu : X.A.units + 64 < cLine) (ha : FE X a fa) (hb : FE X b fb) : FE X (.Compare a [.NotEq] [b] pos) (fOp gNe fa fb) := f_cmp (op_ne.or (op_neD hu)) p_ne (nomark _) ha hb
/-! ### x is None -/
def gIsN : PyData → PyData → Option PyData
  | x, .none => some (.bool (isNone x))
  | _, _ => none
def gNotN : PyData → PyData → Option PyData
  | x, .none => some (.bool (!isNone x))
  | _, _ => none
theorem none_v {K : PySem.W.Frag} {H : Hp} {v : V} {a : PyData} (h : Da K H v a) : decide (v = .non) = isNone a := by
  cases h <;> rfl
theorem p_isN {K : PySem.W.Frag} : Up2 K (rdP2 gIsN) (fun x y H Q => y = .non ∧ Q (.bl (decide (x = .non))) H) := fun x y μ Qd v u H Q m rx ry ⟨a, b, z, ea, eb, ez, q⟩ w => by
  unfold gIsN at ez
  split at ez
  · cases ez
    have := look_flat ry eb rfl
    subst this
    cases ry
    exact ⟨rfl, by rw [none_v (look_da m rx ea)]; exact w (.d (.bool _)) μ _ H (.refl _ _) m (Da.bl _) q⟩
  · cases ez
theorem p_notN {K : PySem.W.Frag} : Up2 K (rdP2 gNotN) (fun x y H Q => y = .non ∧ Q (.bl (!decide (x = .non))) H) := fun x y μ Qd v u H Q m rx ry ⟨a, b, z, ea, eb, ez, q⟩ w => by
  unfold gNotN at ez
  split at ez
  · cases ez
    have := look_flat ry eb rfl
    subst this
    cases ry
    exact ⟨rfl, by rw [none_v (look_da m rx ea)]; exact w (.d (.bool _)) μ _ H (.refl _ _) m (Da.bl _) q⟩
  · cases ez
theorem f_isN (ha : FE X a fa) (hb : FE X b fb) : FE X (.Compare a [.Is] [b] pos) (fOp gIsN fa fb) := f_cmp op_isN p_isN (nomark _) ha hb
theorem f_notN (ha : FE X a fa) (hb : FE X b fb) : FE X (.Compare a [.IsNot] [b] pos) (fOp gNotN fa fb) := f_cmp op_notN p_notN (nomark _) ha hb
end
end FL

namespace FL
open PySem PySem.Spec PyProof.Rows L2 DL
/-! ### + -/
section
variable {X : Cx}
/-- list + list, of any lists -/
def rCatLL (K : PySem.W.Frag) : R2 := fun x y H Q => ∃ l b xs zs, x = .ref l ∧ y = .ref b ∧ SqL K H l xs ∧ SqL K H b zs ∧ xs.length + zs.length ≤ sizeLine ∧ ∀ p, H p = none → Q (.ref p) (upd H p (.lst (xs ++ zs)))
theorem op_catLL : OpR X (binaryOp .Add) (rCatLL X.K) := by
  rintro pins s σ H x y v u Q I rx ry ⟨l, b, xs, zs, rfl, rfl, h1, h2, z, q⟩
  cases rx; cases ry
  obtain ⟨i1, r1, ⟨⟨k1, e1, t1, f1⟩, n1, g1, c1, p1, d1⟩, _⟩ := I.list h1
  obtain ⟨i2, r2, ⟨⟨k2, e2, t2, f2⟩, n2, g2, c2, p2, d2⟩, _⟩ := I.list h2
  simp only at c1 p1 d1 c2 p2 d2
  subst c1 p1 d1 c2 p2 d2
  have hl := r1.length
  have hl2 := r2.length
  have ap : i1.toArray ++ i2.toArray = (i1 ++ i2).toArray := by simp
  refine concat_meets ⟨_, g1, rfl⟩ ⟨_, g2, rfl⟩ noFill_list_add seq_list_add PySem.F.slot_list_add PySem.F.entry_list_add (PySem.F.args_list_add_2 _ _)
    (list_addW l b _ _ n1 n2 none none f1 f2 (by rw [List.size_toArray, List.size_toArray]; omega)) ⟨g1, g2, ?_⟩
  rw [ap]
  exact ⟨.ref _, _, I.lnew (t' := s.toks) (r1.append r2) (by rw [List.length_append]; omega), rfl, q _ I.fresh⟩
end
noncomputable def gAdd : PyData → PyData → Option PyData
  | .int i, .int j => some (.int (i + j))
  | .tuple xs, .tuple ys => req (xs.length + ys.length ≤ 900000) (some (.tuple (xs ++ ys)))
  | .list xs, .list ys => req (xs.length + ys.length ≤ 900000) (some (.list (xs ++ ys)))
  | .str i, .str j => req (i.length + j.length ≤ sizeLine) (some (.str (i ++ j)))
  | _, _ => none
theorem le_line9 {n : Nat} (h : n ≤ 900000) : n ≤ sizeLine := Nat.le_trans h (by decide)
theorem p_add {K : PySem.W.Frag} : Up2 K (rdP2 gAdd) (fun x y H Q => rI0 (fun i j => .int (i + j)) x y H Q ∨ rCatP K x y H Q ∨ rCatLL K x y H Q ∨ (∃ i j, x = .str i ∧ y = .str j ∧ i.length + j.length ≤ sizeLine ∧ Q (.str (i ++ j)) H)) := fun x y μ Qd v u H Q m rx ry ⟨a, b, z, ea, eb, ez, q⟩ w => by
  unfold gAdd at ez
  split at ez
  · next i j =>
    cases ez
    exact .inl ⟨i, j, look_int rx ea, look_int ry eb, w (.d (.int (i + j))) μ _ H (.refl _ _) m (Da.int _) q⟩
  · next xs ys =>
    obtain ⟨hz, e⟩ := req_some ez
    cases e
    obtain ⟨rfl, p, vs, rfl, s, t⟩ := look_tup rx ea
    obtain ⟨rfl, p', vs', rfl, s', t'⟩ := look_tup ry eb
    have l1 := t.length
    have l2 := t'.length
    refine .inr (.inl ⟨p, p', vs, vs', rfl, rfl, same_seqT unhid s, same_seqT unhid s', le_line9 (by omega), fun h => ?_, fun _ h => ?_, fun _ _ => wk_tup w m (t.append t') q⟩)
    · subst h
      obtain rfl : xs = [] := by cases t; rfl
      exact w (.d (.tuple ([] ++ ys))) μ _ H (.refl _ _) m (.tup s' t') q
    · subst h
      obtain rfl : ys = [] := by cases t'; rfl
      rw [List.append_nil] at q
      exact w (.d (.tuple xs)) μ _ H (.refl _ _) m (.tup s t) q
  · next xs ys =>
    obtain ⟨hz, e⟩ := req_some ez
    cases e
    obtain ⟨p, vs, rfl, s, t⟩ := look_list m rx ea
    obtain ⟨p', vs', rfl, s', t'⟩ := look_list m ry eb
    have l1 := t.length
    have l2 := t'.length
    exact .inr (.inr (.inl ⟨p, p', vs, vs', rfl, rfl, s, s', le_line9 (by omega), fun r hr => wk_lst w m (t.append t') q hr⟩))
  · next i j =>
    obtain ⟨hz, e⟩ := req_some ez
    cases e
    exact .inr (.inr (.inr ⟨i, j, look_str rx ea, look_str ry eb, hz, w (.d (.str (i ++ j))) μ _ H (.refl _ _) m (Da.str _) q⟩))
  · cases ez
/-- list + list as a container of one's own -/
def rdO2 (g : PyData → PyData → Option PyData) : DR2 := fun x y μ Q => ∃ a b xs, look μ x = some a ∧ look μ y = some b ∧ g a b = some (.list xs) ∧ ∀ p, μ p = none → Q (.cell p) (put μ p (.lst xs))
theorem p_addO {K : PySem.W.Frag} : Up2 K (rdO2 gAdd) (rCatLL K) := fun x y μ Qd v u H Q m rx ry ⟨a, b, z, ea, eb, ez, q⟩ w => by
  unfold gAdd at ez
  split at ez
  · cases ez
  · obtain ⟨_, e⟩ := req_some ez; cases e
  · next xs ys =>
    obtain ⟨hz, e⟩ := req_some ez
    cases e
    obtain ⟨p, vs, rfl, s, t⟩ := look_list m rx ea
    obtain ⟨p', vs', rfl, s', t'⟩ := look_list m ry eb
    have l1 := t.length
    have l2 := t'.length
    exact ⟨p, p', vs, vs', rfl, rfl, s, s', le_line9 (by omega), fun r hr => wk_lstC w m (t.append t') hr (q r (m.free hr))⟩
  · obtain ⟨_, e⟩ := req_some ez; cases e
  · cases ez
def ofOL (ε : FSt) : Option PyData → R FR
  | some (.list xs) => .ok (.own (.lst xs)) ε
  | _ => .no
def fOpO (g : PyData → PyData → Option PyData) (fa fb : FT) : FT := fun ε => (fa ε).bind fun x ε1 => (fb ε1).bind fun y ε2 => ofOL ε2 ((see ε2 x).bind fun a => (see ε2 y).bind fun b => g a b)
theorem ofOL_list {ε : FSt} {xs : List PyData} : ofOL ε (some (.list xs)) = .ok (.own (.lst xs)) ε := rfl
section
variable {δ : DSt} {μ : Mu} {ε : FSt}
/-- a new cell beside the tracked ones -/
theorem TrE.new {μ1 : Mu} {ε1 : FSt} (t : TrE δ μ ε μ1 ε1) {p : Addr} {c : Cell} (hp : μ1 p = none) : TrE δ μ ε (put μ1 p c) ε1 := by
  have ne : ∀ b d, μ1 b = some d → b ≠ p := fun b d h z => by subst z; rw [hp] at h; cases h
  refine ⟨⟨t.mt.len, t.mt.dat, fun i d h => ?_, t.mt.apart⟩, fun b d h n => ?_, t.kd⟩
  · obtain ⟨q, h1, h2⟩ := t.mt.cel i d h
    exact ⟨q, h1, by rw [put_ne (ne _ _ h2)]; exact h2⟩
  · have := t.fr b d h n
    rw [put_ne (ne _ _ this)]; exact this
theorem TrE.fresh {μ1 : Mu} {ε1 : FSt} (m : Mt δ μ ε) (t : TrE δ μ ε μ1 ε1) {p : Addr} (hp : μ1 p = none) : μ p = none := by
  cases h : μ p with
  | none => rfl
  | some c =>
    by_cases z : Adr δ ε p
    · obtain ⟨d, hd⟩ := t.mt.adr (t.kd.adr.mp z)
      rw [hp] at hd; cases hd
    · have := t.fr p c h z
      rw [hp] at this; cases this
theorem fit_ofOL {Q : DV → Mu → Prop} {μ1 : Mu} {ε1 : FSt} {o : Option PyData} (m : Mt δ μ ε) (t : TrE δ μ ε μ1 ε1) (h : fit (fun r v μ' ε' => RF δ μ ε' μ' r v) δ μ ε Q (ofOL ε1 o)) : ∃ xs, o = some (.list xs) ∧ ∀ p, μ1 p = none → Q (.cell p) (put μ1 p (.lst xs)) := by
  unfold ofOL at h
  split at h
  · next xs => exact ⟨xs, rfl, fun p hp => h _ _ (t.new hp) ⟨p, rfl, put_same, t.fresh m hp⟩⟩
  · exact h.elim
end
theorem up_fOpO {g : PyData → PyData → Option PyData} {fa fb : FT} : ∀ δ μ Q, upF (fOpO g fa fb) δ μ Q → dOp (rdO2 g) (upF fa) (upF fb) δ μ Q := fun δ μ Q ⟨ε, m, h⟩ =>
  use1 m h fun r ε1 v μ1 e t rf h1 => use1 (P := fun r v μ' ε' => RF δ μ ε' μ' r v) t.mt (fit_step t h1 fun _ _ _ _ _ p => p) fun r2 ε2 v2 μ2 e2 t2 rf2 h2 => by
    have rfk := RF.keep t m t2 rf
    have rf2' := RF.back m t t2 rf2
    have h3 : fit (fun r v μ' ε' => RF δ μ1 ε' μ' r v) δ μ1 ε1 Q (ofOL ε2 ((see ε2 r).bind fun a => (see ε2 r2).bind fun b => g a b)) := by
      have h4 : fit (fun r v μ' ε' => RF δ μ ε' μ' r v) δ μ1 ε1 Q (ofOL ε2 ((see ε2 r).bind fun a => (see ε2 r2).bind fun b => g a b)) := h2
      cases ho : (ofOL ε2 ((see ε2 r).bind fun a => (see ε2 r2).bind fun b => g a b)) with
      | no => rw [ho] at h4; exact h4
      | ex _ _ => rw [ho] at h4; exact h4
      | ok a ε' => rw [ho] at h4; exact fun v μ' t' p => h4 v μ' t' (RF.back m t t' p)
    obtain ⟨xs, e3, q⟩ := fit_ofOL t.mt t2 h3
    simp only [Option.bind_eq_some_iff] at e3
    obtain ⟨a, e4, b, e5, e6⟩ := e3
    exact ⟨a, b, xs, see_look t2.mt rfk e4, see_look t2.mt rf2' e5, e6, q⟩
section
variable {X : Cx} {pos : Pos} {a b c e : Expr} {fa fb fc fe : FT} {es : List Expr} {fr : FTA}
theorem f_add (ha : FE X a fa) (hb : FE X b fb) : FE X (.BinOp a .Add b pos) (fOp gAdd fa fb) := d_imp (d_op (op_add.or (opP_cat.or (op_catLL.or op_add_str))) p_add ha hb) up_fOp
theorem f_addO (ha : FE X a fa) (hb : FE X b fb) : FE X (.BinOp a .Add b pos) (fOpO gAdd fa fb) := d_imp (d_op op_catLL p_addO ha hb) up_fOpO
end
end FL

namespace FL
open PySem PySem.Spec PyProof.Rows L2 DL
/-! ### in, not in: flat items -/
def flatD : PyData → Bool
  | .none => true
  | .bool _ => true
  | .int _ => true
  | .str _ => true
  | _ => false
def eqFlat : PyData → PyData → Bool
  | .none, .none => true
  | .bool a, .bool b => a == b
  | .bool a, .int b => (if a then 1 else 0) == b
  | .int a, .bool b => a == (if b then 1 else 0)
  | .int a, .int b => a == b
  | .str a, .str b => a == b
  | _, _ => false
def inD (x : PyData) (xs : List PyData) : Bool := xs.any fun y => eqFlat y x
def itemsOf : PyData → Option (List PyData)
  | .list xs => some xs
  | .tuple xs => some xs
  | _ => none
noncomputable def inG (a b : PyData) : Option Bool := (itemsOf b).bind fun xs => req (flatD a = true ∧ xs.all flatD = true) (some (inD a xs))
noncomputable def gIn (a b : PyData) : Option PyData := (inG a b).map .bool
noncomputable def gNin (a b : PyData) : Option PyData := (inG a b).map fun z => .bool (!z)
section
variable {K : PySem.W.Frag} {μ : Mu} {H : Hp}
theorem flat_da {v : V} {a : PyData} (h : Da K H v a) (f : flatD a = true) : flatV v = true := by
  cases h with
  | lst _ _ => cases f
  | tup _ _ => cases f
  | dct _ _ => cases f
  | _ => rfl
theorem flat_das : ∀ {vs : List V} {xs : List PyData}, DaAll K H vs xs → xs.all flatD = true → vs.all flatV = true
  | _, _, .nil, _ => rfl
  | _, _, .cons h t, f => by
    rw [List.all_cons, Bool.and_eq_true] at f ⊢
    exact ⟨flat_da h f.1, flat_das t f.2⟩
theorem eq_da {v u : V} {a b : PyData} (h : Da K H v a) (g : Da K H u b) (f : flatD a = true) (f' : flatD b = true) : eqV v u = eqFlat a b := by
  cases h with
  | lst _ _ => cases f
  | tup _ _ => cases f
  | dct _ _ => cases f
  | _ =>
    cases g with
    | lst _ _ => cases f'
    | tup _ _ => cases f'
    | dct _ _ => cases f'
    | _ => rfl
theorem in_da {v : V} {a : PyData} (h : Da K H v a) (f : flatD a = true) : ∀ {vs : List V} {xs : List PyData}, DaAll K H vs xs → xs.all flatD = true → inV v vs = inD a xs
  | _, _, .nil, _ => rfl
  | _, _, .cons g t, f' => by
    rw [List.all_cons, Bool.and_eq_true] at f'
    have ih := in_da h f t f'.2
    unfold inV inD at ih ⊢
    rw [List.any_cons, List.any_cons, ih, eq_da g h f'.1 f]
theorem look_items {x : DV} {v : V} {a : PyData} {xs : List PyData} (m : RM K μ H) (r : RV K μ H v x) (h : look μ x = some a) (e : itemsOf a = some xs) : ∃ p vs, v = .ref p ∧ (SqL K H p vs ∨ SqT K H p vs) ∧ DaAll K (hid μ H) vs xs := by
  unfold itemsOf at e
  split at e
  · cases e
    obtain ⟨p, vs, e1, s, t⟩ := look_list m r h
    exact ⟨p, vs, e1, .inl s, t⟩
  · cases e
    obtain ⟨_, p, vs, e1, s, t⟩ := look_tup r h
    exact ⟨p, vs, e1, .inr (same_seqT unhid s), t⟩
  · cases e
theorem in_core {x y : DV} {v u : V} {a b : PyData} {z : Bool} (m : RM K μ H) (rx : RV K μ H v x) (ry : RV K μ H u y) (ea : look μ x = some a) (eb : look μ y = some b) (ez : inG a b = some z) :
    ∃ p xs, u = .ref p ∧ (SqL K H p xs ∨ SqT K H p xs) ∧ flatV v = true ∧ xs.all flatV = true ∧ inV v xs = z := by
  unfold inG at ez
  simp only [Option.bind_eq_some_iff] at ez
  obtain ⟨xs, e1, e2⟩ := ez
  obtain ⟨⟨f1, f2⟩, e3⟩ := req_some e2
  cases e3
  obtain ⟨p, vs, rfl, s, t⟩ := look_items m ry eb e1
  have d1 := look_da m rx ea
  have t2 := t.mono unhid
  exact ⟨p, vs, rfl, s, flat_da d1 f1, flat_das t2 f2, in_da d1 f1 t2 f2⟩
theorem p_in : Up2 K (rdP2 gIn) (rIn K false) := fun x y μ Qd v u H Q m rx ry ⟨a, b, z, ea, eb, ez, q⟩ w => by
  simp only [gIn, Option.map_eq_some_iff] at ez
  obtain ⟨t, et, rfl⟩ := ez
  obtain ⟨p, xs, rfl, s, f1, f2, e⟩ := in_core m rx ry ea eb et
  refine ⟨p, xs, rfl, s, f1, f2, ?_⟩
  rw [if_neg Bool.false_ne_true, e]
  exact w (.d (.bool t)) μ _ H (.refl _ _) m (Da.bl _) q
theorem p_nin : Up2 K (rdP2 gNin) (rIn K true) := fun x y μ Qd v u H Q m rx ry ⟨a, b, z, ea, eb, ez, q⟩ w => by
  simp only [gNin, Option.map_eq_some_iff] at ez
  obtain ⟨t, et, rfl⟩ := ez
  obtain ⟨p, xs, rfl, s, f1, f2, e⟩ := in_core m rx ry ea eb et
  refine ⟨p, xs, rfl, s, f1, f2, ?_⟩
  rw [if_pos rfl, e]
  exact w (.d (.bool (!t))) μ _ H (.refl _ _) m (Da.bl _) q
end
/-! ### items -/
def gIx (a b : PyData) : Option PyData := match b with
  | .int i => (itemsOf a).bind fun xs => atI xs i
  | _ => none
theorem p_ix {K : PySem.W.Frag} : Up2 K (rdP2 gIx) (rIx K) := fun x y μ Qd v u H Q m rx ry ⟨a, b, z, ea, eb, ez, q⟩ w => by
  unfold gIx at ez
  split at ez
  · next i =>
    simp only [Option.bind_eq_some_iff] at ez
    obtain ⟨xs, e1, e2⟩ := ez
    obtain ⟨p, vs, rfl, s, t⟩ := look_items m rx ea e1
    obtain ⟨c, h1, h2⟩ := atI_da t e2
    have q2 := w (.d z) μ _ H (.refl _ _) m h2 q
    rcases s with s | s
    · exact .inl ⟨p, vs, i, c, rfl, look_int ry eb, s, h1, q2⟩
    · exact .inr (.inl ⟨p, vs, i, c, rfl, look_int ry eb, s, h1, q2⟩)
  · cases ez
section
variable {X : Cx} {pos : Pos} {a b c e : Expr} {fa fb fc fe : FT} {es : List Expr} {fr : FTA}
theorem f_in (ha : FE X a fa) (hb : FE X b fb) (hm : behindInMarks .In b = false := by rfl) : FE X (.Compare a [.In] [b] pos) (fOp gIn fa fb) := f_cmp op_in_seq p_in hm ha hb
theorem f_nin (ha : FE X a fa) (hb : FE X b fb) (hm : behindInMarks .NotIn b = false := by rfl) : FE X (.Compare a [.NotIn] [b] pos) (fOp gNin fa fb) := f_cmp op_notIn_seq p_nin hm ha hb
theorem f_item (ha : FE X a fa) (hb : FE X b fb) (hs : PlainIx b := by exact fun _ _ => rfl) : FE X (.Subscript a b pos) (fOp gIx fa fb) := d_imp (d_ix ix_seq p_ix ha hb hs) up_fOp
/-! ### slices -/
abbrev FTP := FSt → R (Option Int)
def fNo : FTP := fun ε => .ok none ε
def fPart (f : FT) : FTP := fun ε => (f ε).bind fun x ε1 => match see ε1 x with
  | some (.int i) => .ok (some i) ε1
  | _ => .no
def upFP (f : FTP) : DTP := fun δ μ Q => ∃ ε, Mt δ μ ε ∧ fit (fun r v _ _ => v = r) δ μ ε Q (f ε)
abbrev FP (X : Cx) (o : Option Expr) (f : FTP) : Prop := DPO X o (upFP f)
theorem dpo_imp {o : Option Expr} {t t' : DTP} (h : DPO X o t) (w : ∀ δ μ Q, t' δ μ Q → t δ μ Q) : DPO X o t' := po_imp h fun σ H Q ⟨δ, μ, Qd, rs, rm, q, z⟩ => ⟨δ, μ, Qd, rs, rm, w _ _ _ q, z⟩
theorem fp_no : FP X none fNo := dpo_imp o_no fun δ μ Q ⟨ε, m, h⟩ => h _ _ (.refl m) rfl
theorem fp_some (h : FE X e fe) : FP X (some e) (fPart fe) := dpo_imp (o_some h) fun δ μ Q ⟨ε, m, h⟩ => use1 m h fun r ε1 v μ1 e t rf h1 => by
  split at h1
  · next i es =>
    have hl := see_look t.mt rf es
    have h2 := h1 _ _ t rfl
    cases v with
    | d y => cases (show y = _ from Option.some.inj hl); exact h2
    | cell p =>
      have hl : (μ1 p).map cellD = some _ := hl
      cases e2 : μ1 p with
      | none => rw [e2] at hl; cases hl
      | some c => rw [e2] at hl; cases c <;> cases hl
  · exact h1.elim
def gCut (l u : Option Int) : PyData → Option PyData
  | .list xs => some (.list (cutD xs l u))
  | .tuple xs => some (.tuple (cutD xs l u))
  | _ => none
def fSl (fe : FT) (fl fh : FTP) : FT := fun ε => (fe ε).bind fun x ε1 => (fl ε1).bind fun l ε2 => (fh ε2).bind fun u ε3 => ofO ε3 ((see ε3 x).bind (gCut l u))
theorem useP {δ : DSt} {μ : Mu} {ε : FSt} {f : FTP} {α β : Type} {g : Option Int → FSt → R α} {P : α → β → Mu → FSt → Prop} {Q : β → Mu → Prop} {Q' : Option Int → Mu → Prop} (m : Mt δ μ ε) (h : fit P δ μ ε Q ((f ε).bind g))
    (k : ∀ r ε1 μ1, f ε = .ok r ε1 → TrE δ μ ε μ1 ε1 → fit P δ μ ε Q (g r ε1) → Q' r μ1) : upFP f δ μ Q' := by
  refine ⟨ε, m, ?_⟩
  cases e : f ε with
  | no => rw [e] at h; exact h.elim
  | ex _ _ => rw [e] at h; exact h.elim
  | ok r ε1 =>
    rw [e] at h
    exact fun v μ1 t p => by subst p; exact k v ε1 μ1 e t h
theorem up_fSl {fl fh : FTP} : ∀ δ μ Q, upF (fSl fe fl fh) δ μ Q → dSl (upF fe) (upFP fl) (upFP fh) δ μ Q := fun δ μ Q ⟨ε, m, h⟩ =>
  use1 m h fun r ε1 v μ1 e t rf h1 => useP (P := fun r v μ' ε' => RF δ μ ε' μ' r v) t.mt (fit_step t h1 fun _ _ _ _ _ p => p) fun l ε2 μ2 e2 t2 h2 => useP (P := fun r v μ' ε' => RF δ μ ε' μ' r v) t2.mt (fit_step t2 h2 fun _ _ _ _ _ p => p) fun u ε3 μ3 e3 t3 h3 => by
    have rfk := RF.keep t m (t2.trans t3) rf
    have h4 : fit (fun r v μ' ε' => RF δ μ ε' μ' r v) δ μ2 ε2 Q (ofO ε3 ((see ε3 r).bind (gCut l u))) := h3
    cases ho : (see ε3 r).bind (gCut l u) with
    | none => rw [ho] at h4; exact h4.elim
    | some z =>
      rw [ho] at h4
      have q := h4 (.d z) μ3 t3 rfl
      simp only [Option.bind_eq_some_iff] at ho
      obtain ⟨a, e4, e5⟩ := ho
      have hl := see_look t3.mt rfk e4
      unfold gCut at e5
      split at e5
      · next xs =>
        cases e5
        cases v with
        | d y => cases (show y = _ from Option.some.inj hl); exact q
        | cell p =>
          have hl : (μ3 p).map cellD = some _ := hl
          cases e6 : μ3 p with
          | none => rw [e6] at hl; cases hl
          | some c =>
            rw [e6] at hl
            cases c with
            | dct _ => cases hl
            | lst ds => cases hl; simp only [e6]; exact q
      · next xs =>
        cases e5
        cases v with
        | d y => cases (show y = _ from Option.some.inj hl); exact q
        | cell p =>
          have hl : (μ3 p).map cellD = some _ := hl
          cases e6 : μ3 p with
          | none => rw [e6] at hl; cases hl
          | some c => rw [e6] at hl; cases c <;> cases hl
      · cases e5
theorem f_slice {lo hi : Option Expr} {fl fh : FTP} {p2 : Pos} (he : FE X e fe) (hl : FP X lo fl) (hu : FP X hi fh) : FE X (.Subscript e (.Slice lo hi none p2) pos) (fSl fe fl fh) := d_imp (d_slice he hl hu) up_fSl
def gRev : PyData → Option PyData
  | .list xs => some (.list xs.reverse)
  | .tuple xs => some (.tuple xs.reverse)
  | _ => none
def seeV : FR → Option PyData
  | .val x => some x
  | _ => none
/-- of data alone -/
def fUnV (g : PyData → Option PyData) (fa : FT) : FT := fun ε => (fa ε).bind fun x ε1 => ofO ε1 ((seeV x).bind g)
theorem up_fUnV {g : PyData → Option PyData} : ∀ δ μ Q, upF (fUnV g fa) δ μ Q → dUn (fun x μ Q => ∃ a z, x = .d a ∧ g a = some z ∧ Q (.d z) μ) (upF fa) δ μ Q := fun δ μ Q ⟨ε, m, h⟩ =>
  use1 m h fun r ε1 v μ1 e t rf h1 => by
    obtain ⟨z, ez, q⟩ := fit_ofO t h1
    simp only [Option.bind_eq_some_iff] at ez
    obtain ⟨a, e1, e2⟩ := ez
    cases r with
    | val x => cases e1; exact ⟨a, z, rf, e2, q⟩
    | ref _ => cases e1
    | own _ => cases e1
theorem f_rev {k : Nat} {p1 p2 p3 : Pos} (he : FE X e fe) : FE X (.Subscript e (.Slice none none (some (.UnaryOp .USub (.Constant (.int 1) k p1) p2)) p3) pos) (fUnV gRev fe) :=
  d_imp (d_rev (te := upF fe) he) fun δ μ Q h => by
    obtain ⟨ε, m, h⟩ := h
    refine use1 m h fun r ε1 v μ1 e t rf h1 => ?_
    obtain ⟨z, ez, q⟩ := fit_ofO t h1
    simp only [Option.bind_eq_some_iff] at ez
    obtain ⟨a, e1, e2⟩ := ez
    cases r with
    | val x =>
      cases e1
      cases (show v = .d a from rf)
      unfold gRev at e2
      split at e2
      · cases e2; exact q
      · cases e2; exact q
      · cases e2
    | ref _ => cases e1
    | own _ => cases e1
end
end FL

namespace FL
open PySem PySem.Spec PyProof.Rows L2 DL
/-! ### truth -/
noncomputable def gT : PyData → Option Bool
  | .none => some false
  | .bool b => some b
  | .int i => some (i != 0)
  | .str y => req (y.length ≤ sizeLine) (some ((y.length : Int) != 0))
  | .list xs => some (!xs.isEmpty)
  | .tuple xs => some (!xs.isEmpty)
  | .dict kvs => some (!kvs.isEmpty)
theorem truth_da {K : PySem.W.Frag} {H : Hp} {v : V} {a : PyData} {k : Bool} (h : Da K H v a) (e : gT a = some k) : TruV K v H k := by
  cases h with
  | non => cases e; rfl
  | bl b => cases e; rfl
  | int i => cases e; rfl
  | str x => obtain ⟨h1, e⟩ := req_some e; cases e; exact ⟨h1, rfl⟩
  | lst s t => cases e; exact .inl ⟨_, s, emp_da t⟩
  | tup s t => cases e; exact .inr (.inl ⟨_, s.t, emp_da t⟩)
  | @dct a kvs ds s t =>
    cases e
    refine .inr (.inr ⟨kvs, s, ?_⟩)
    have := t.length
    cases kvs with
    | nil => simp
    | cons p r =>
      cases ds with
      | nil => simp at this
      | cons d ds => simp
section
variable {X : Cx} {pos : Pos} {a b c e : Expr} {fa fb fc fe : FT} {es rest : List Expr} {fr : FTA} {ta tb : DT} {tA tB : FTT}
def dTrP (te : DT) : DTT := fun δ μ Q => te δ μ fun x μ1 => ∃ a k, look μ1 x = some a ∧ gT a = some k ∧ Q k μ1
theorem c_trP (ha : DE X a ta) (he : ∀ whole, isTrue a X.env whole = (do let v ← whole; standAt a.pos; holding [v] (truthy v)) := by intro _; rfl) : DC X a (dTrP ta) := pt_imp (pt_truth ha he) fun σ H Q ⟨δ, μ, Qd, rs, rm, q, w⟩ => up_use rs rm q fun x μ1 v H1 e1 m1 r1 ⟨a, k, ea, ek, q1⟩ =>
  ⟨k, truth_da (look_da m1 r1 ea) ek, w _ μ1 H1 e1 m1 q1⟩
def dOrT (ta tb : DT) : DT := fun δ μ Q => ta δ μ fun x μ1 => ∃ a k, look μ1 x = some a ∧ gT a = some k ∧ if k = true then Q x μ1 else tb δ μ1 Q
def dAndT (ta tb : DT) : DT := fun δ μ Q => ta δ μ fun x μ1 => ∃ a k, look μ1 x = some a ∧ gT a = some k ∧ if k = true then tb δ μ1 Q else Q x μ1
def dNotT (ta : DT) : DT := fun δ μ Q => ta δ μ fun x μ1 => ∃ a k, look μ1 x = some a ∧ gT a = some k ∧ Q (.d (.bool (!k))) μ1
theorem d_orT (ha : DE X a ta) (hb : DE X (.BoolOp .Or (b :: rest) pos) tb) : DE X (.BoolOp .Or (a :: b :: rest) pos) (dOrT ta tb) := pe_imp (pe_orT ha hb) fun σ H Q ⟨δ, μ, Qd, rs, rm, q, w⟩ => up_use rs rm q fun x μ1 v H1 e1 m1 r1 ⟨a, k, ea, ek, q1⟩ => by
  refine ⟨k, truth_da (look_da m1 r1 ea) ek, ?_⟩
  split
  · next hk => rw [if_pos hk] at q1; exact w x μ1 v H1 e1 m1 r1 q1
  · next hk => rw [if_neg hk] at q1; exact ⟨δ, μ1, Qd, rs.mono e1, m1, q1, w.step e1⟩
theorem d_andT (ha : DE X a ta) (hb : DE X (.BoolOp .And (b :: rest) pos) tb) : DE X (.BoolOp .And (a :: b :: rest) pos) (dAndT ta tb) := pe_imp (pe_andT ha hb) fun σ H Q ⟨δ, μ, Qd, rs, rm, q, w⟩ => up_use rs rm q fun x μ1 v H1 e1 m1 r1 ⟨a, k, ea, ek, q1⟩ => by
  refine ⟨k, truth_da (look_da m1 r1 ea) ek, ?_⟩
  split
  · next hk => rw [if_pos hk] at q1; exact ⟨δ, μ1, Qd, rs.mono e1, m1, q1, w.step e1⟩
  · next hk => rw [if_neg hk] at q1; exact w x μ1 v H1 e1 m1 r1 q1
theorem d_notT (ha : DE X a ta) : DE X (.UnaryOp .Not a pos) (dNotT ta) := pe_imp (pe_notT ha) fun σ H Q ⟨δ, μ, Qd, rs, rm, q, w⟩ => up_use rs rm q fun x μ1 v H1 e1 m1 r1 ⟨a, k, ea, ek, q1⟩ =>
  ⟨k, truth_da (look_da m1 r1 ea) ek, w (.d (.bool (!k))) μ1 _ H1 e1 m1 (Da.bl _) q1⟩
/-! ### the same as functions -/
def ofB (ε : FSt) : Option Bool → R Bool
  | some z => .ok z ε
  | none => .no
theorem ofB_some {ε : FSt} {z : Bool} : ofB ε (some z) = .ok z ε := rfl
noncomputable def fTr (fe : FT) : FTT := fun ε => (fe ε).bind fun x ε1 => ofB ε1 ((see ε1 x).bind gT)
theorem up_fTr : ∀ δ μ Q, upFT (fTr fe) δ μ Q → dTrP (upF fe) δ μ Q := fun δ μ Q ⟨ε, m, h⟩ => use1 m h fun r ε1 v μ1 e t rf h1 => by
  cases ho : (see ε1 r).bind gT with
  | none => rw [ho] at h1; exact h1.elim
  | some k =>
    rw [ho] at h1
    simp only [Option.bind_eq_some_iff] at ho
    obtain ⟨a, e1, e2⟩ := ho
    exact ⟨a, k, see_look t.mt rf e1, e2, h1 k μ1 t rfl⟩
theorem fc_tr (ha : FE X a fa) (he : ∀ whole, isTrue a X.env whole = (do let v ← whole; standAt a.pos; holding [v] (truthy v)) := by intro _; rfl) : FC X a (fTr fa) := c_imp (c_trP ha he) up_fTr
/-- a comparison as a test -/
def fB (fe : FT) : FTT := fun ε => (fe ε).bind fun x ε1 => match x with
  | .val (.bool b) => .ok b ε1
  | _ => .no
theorem up_fB : ∀ δ μ Q, upFT (fB fe) δ μ Q → dB (upF fe) δ μ Q := fun δ μ Q ⟨ε, m, h⟩ => use1 m h fun r ε1 v μ1 e t rf h1 => by
  split at h1
  · next k => cases (show v = _ from rf); exact h1 k μ1 t rfl
  · exact h1.elim
theorem fB_fit {δ : DSt} {μ : Mu} {ε : FSt} {Q : Bool → Mu → Prop} (h : fit (fun r v _ _ => v = r) δ μ ε Q (fB fe ε)) : fit (fun r v μ' ε' => RF δ μ ε' μ' r v) δ μ ε (fun v μ' => match v with | .d (.bool b) => Q b μ' | _ => False) (fe ε) := by
  unfold fB at h
  cases e : fe ε with
  | no => rw [e] at h; exact h
  | ex _ _ => rw [e] at h; exact h
  | ok r ε1 =>
    rw [e, R.bind_ok] at h
    split at h
    · next k => exact fun v μ' t p => by cases (show v = _ from p); exact h k μ' t rfl
    · exact h.elim
theorem fc_cmp {op : CmpOp} {g : PyData → PyData → Option PyData} {rv : R2} (ho : OpR X (compareOp op) rv) (h : Up2 X.K (rdP2 g) rv) (hm : behindInMarks op b = false) (ha : FE X a fa) (hb : FE X b fb) : FC X (.Compare a [op] [b] pos) (fB (fOp g fa fb)) :=
  c_imp (c_cmp ho h ha hb hm) fun δ μ Q h => by
    obtain ⟨ε, m, h⟩ := h
    exact up_fOp δ μ _ ⟨ε, m, fB_fit h⟩
theorem fc_lt (ha : FE X a fa) (hb : FE X b fb) : FC X (.Compare a [.Lt] [b] pos) (fB (fOp gLt fa fb)) := fc_cmp op_lt p_lt (nomark _) ha hb
theorem fc_le (ha : FE X a fa) (hb : FE X b fb) : FC X (.Compare a [.LtE] [b] pos) (fB (fOp gLe fa fb)) := fc_cmp op_le p_le (nomark _) ha hb
theorem fc_gt (ha : FE X a fa) (hb : FE X b fb) : FC X (.Compare a [.Gt] [b] pos) (fB (fOp gGt fa fb)) := fc_cmp op_gt p_gt (nomark _) ha hb
theorem fc_ge (ha : FE X a fa) (hb : FE X b fb) : FC X (.Compare a [.GtE] [b] pos) (fB (fOp gGe fa fb)) := fc_cmp op_ge p_ge (nomark _) ha hb
theorem fc_eq (hu : X.A.units + 64 < cLine) (ha : FE X a fa) (hb : FE X b fb) : FC X (.Compare a [.Eq] [b] pos) (fB (fOp gEq fa fb)) := fc_cmp (op_eq.or (op_eqD hu)) p_eq (nomark _) ha hb
theorem fc_ne (hu : X.A.units + 64 < cLine) (ha : FE X a fa) (hb : FE X b fb) : FC X (.Compare a [.NotEq] [b] pos) (fB (fOp gNe fa fb)) := fc_cmp (op_ne.or (op_neD hu)) p_ne (nomark _) ha hb
theorem fc_isN (ha : FE X a fa) (hb : FE X b fb) : FC X (.Compare a [.Is] [b] pos) (fB (fOp gIsN fa fb)) := fc_cmp op_isN p_isN (nomark _) ha hb
theorem fc_notN (ha : FE X a fa) (hb : FE X b fb) : FC X (.Compare a [.IsNot] [b] pos) (fB (fOp gNotN fa fb)) := fc_cmp op_notN p_notN (nomark _) ha hb
theorem fc_in (ha : FE X a fa) (hb : FE X b fb) (hm : behindInMarks .In b = false := by rfl) : FC X (.Compare a [.In] [b] pos) (fB (fOp gIn fa fb)) := fc_cmp op_in_seq p_in hm ha hb
theorem fc_nin (ha : FE X a fa) (hb : FE X b fb) (hm : behindInMarks .NotIn b = false := by rfl) : FC X (.Compare a [.NotIn] [b] pos) (fB (fOp gNin fa fb)) := fc_cmp op_notIn_seq p_nin hm ha hb
/-! ### and, or, not, if -/
def ftAnd (f g : FTT) : FTT := fun ε => (f ε).bind fun b ε1 => if b = true then g ε1 else .ok false ε1
def ftOr (f g : FTT) : FTT := fun ε => (f ε).bind fun b ε1 => if b = true then .ok true ε1 else g ε1
def ftNot (f : FTT) : FTT := fun ε => (f ε).bind fun b ε1 => .ok (!b) ε1
theorem upFT_next {δ : DSt} {μ : Mu} {ε : FSt} {μ1 : Mu} {ε1 : FSt} {f : FTT} {Q : Bool → Mu → Prop} (t : TrE δ μ ε μ1 ε1) (h : fit (fun r v _ _ => v = r) δ μ ε Q (f ε1)) : upFT f δ μ1 Q := ⟨ε1, t.mt, fit_step t h fun _ _ _ _ _ p => p⟩
theorem upF_next {δ : DSt} {μ : Mu} {ε : FSt} {μ1 : Mu} {ε1 : FSt} {f : FT} {Q : DV → Mu → Prop} (m : Mt δ μ ε) (t : TrE δ μ ε μ1 ε1) (h : fit (fun r v μ' ε' => RF δ μ ε' μ' r v) δ μ ε Q (f ε1)) : upF f δ μ1 Q := ⟨ε1, t.mt, fit_step t h fun _ _ _ _ t' p => RF.back m t t' p⟩
theorem up_ftAnd : ∀ δ μ Q, upFT (ftAnd tA tB) δ μ Q → dAnd (upFT tA) (upFT tB) δ μ Q := fun δ μ Q ⟨ε, m, h⟩ => useT m h fun b ε1 μ1 e t h1 => by
  cases b with
  | true => exact upFT_next t h1
  | false => exact h1 false μ1 t rfl
theorem up_ftOr : ∀ δ μ Q, upFT (ftOr tA tB) δ μ Q → dOr (upFT tA) (upFT tB) δ μ Q := fun δ μ Q ⟨ε, m, h⟩ => useT m h fun b ε1 μ1 e t h1 => by
  cases b with
  | true => exact h1 true μ1 t rfl
  | false => exact upFT_next t h1
theorem fcw_and1 (ha : FC X a tA) : FCW X (.BoolOp .And [a] pos) tA := cw_and1 ha
theorem fcw_or1 (ha : FC X a tA) : FCW X (.BoolOp .Or [a] pos) tA := cw_or1 ha
theorem fcw_and (ha : FC X a tA) (hb : FCW X (.BoolOp .And (b :: rest) pos) tB) : FCW X (.BoolOp .And (a :: b :: rest) pos) (ftAnd tA tB) := cw_imp (cw_and ha hb) up_ftAnd
theorem fcw_or (ha : FC X a tA) (hb : FCW X (.BoolOp .Or (b :: rest) pos) tB) : FCW X (.BoolOp .Or (a :: b :: rest) pos) (ftOr tA tB) := cw_imp (cw_or ha hb) up_ftOr
theorem fc_w (h : FCW X e tA) : FC X e tA := c_w h
theorem fc_not (ha : FC X a tA) : FC X (.UnaryOp .Not a pos) (ftNot tA) := c_imp (c_not ha) fun δ μ Q ⟨ε, m, h⟩ => useT m h fun b ε1 μ1 e t h1 => h1 (!b) μ1 t rfl
noncomputable def fOrV (fa fb : FT) : FT := fun ε => (fa ε).bind fun x ε1 => match (see ε1 x).bind gT with
  | some true => .ok x ε1
  | some false => fb ε1
  | none => .no
noncomputable def fAndV (fa fb : FT) : FT := fun ε => (fa ε).bind fun x ε1 => match (see ε1 x).bind gT with
  | some true => fb ε1
  | some false => .ok x ε1
  | none => .no
noncomputable def fNotV (fa : FT) : FT := fun ε => (fa ε).bind fun x ε1 => match (see ε1 x).bind gT with
  | some k => .ok (.val (.bool (!k))) ε1
  | none => .no
theorem f_one {op} (h : FE X a fa) : FE X (.BoolOp op [a] pos) fa := d_one h
theorem f_or (ha : FE X a fa) (hb : FE X (.BoolOp .Or (b :: rest) pos) fb) : FE X (.BoolOp .Or (a :: b :: rest) pos) (fOrV fa fb) := d_imp (d_orT ha hb) fun δ μ Q ⟨ε, m, h⟩ => use1 m h fun r ε1 v μ1 e t rf h1 => by
  split at h1
  · next ho =>
    simp only [Option.bind_eq_some_iff] at ho
    obtain ⟨a, e1, e2⟩ := ho
    exact ⟨a, true, see_look t.mt rf e1, e2, by rw [if_pos rfl]; exact h1 v μ1 t rf⟩
  · next ho =>
    simp only [Option.bind_eq_some_iff] at ho
    obtain ⟨a, e1, e2⟩ := ho
    exact ⟨a, false, see_look t.mt rf e1, e2, by rw [if_neg Bool.false_ne_true]; exact upF_next m t h1⟩
  · exact h1.elim
theorem f_and (ha : FE X a fa) (hb : FE X (.BoolOp .And (b :: rest) pos) fb) : FE X (.BoolOp .And (a :: b :: rest) pos) (fAndV fa fb) := d_imp (d_andT ha hb) fun δ μ Q ⟨ε, m, h⟩ => use1 m h fun r ε1 v μ1 e t rf h1 => by
  split at h1
  · next ho =>
    simp only [Option.bind_eq_some_iff] at ho
    obtain ⟨a, e1, e2⟩ := ho
    exact ⟨a, true, see_look t.mt rf e1, e2, by rw [if_pos rfl]; exact upF_next m t h1⟩
  · next ho =>
    simp only [Option.bind_eq_some_iff] at ho
    obtain ⟨a, e1, e2⟩ := ho
    exact ⟨a, false, see_look t.mt rf e1, e2, by rw [if_neg Bool.false_ne_true]; exact h1 v μ1 t rf⟩
  · exact h1.elim
theorem f_not (ha : FE X a fa) : FE X (.UnaryOp .Not a pos) (fNotV fa) := d_imp (d_notT ha) fun δ μ Q ⟨ε, m, h⟩ => use1 m h fun r ε1 v μ1 e t rf h1 => by
  split at h1
  · next k ho =>
    simp only [Option.bind_eq_some_iff] at ho
    obtain ⟨a, e1, e2⟩ := ho
    exact ⟨a, k, see_look t.mt rf e1, e2, h1 _ μ1 t rfl⟩
  · exact h1.elim
def fIf (tA : FTT) (fa fb : FT) : FT := fun ε => (tA ε).bind fun b ε1 => if b = true then fa ε1 else fb ε1
theorem f_if (hc : FC X c tA) (ha : FE X a fa) (hb : FE X b fb) : FE X (.IfExp c a b pos) (fIf tA fa fb) := d_imp (d_if hc ha hb) fun δ μ Q ⟨ε, m, h⟩ => useT m h fun b ε1 μ1 e t h1 => by
  cases b with
  | true => exact upF_next m t h1
  | false => exact upF_next m t h1
/-! ### a < b < c -/
def fChain (g g' : PyData → PyData → Option PyData) (fa fb fc : FT) : FT := fun ε => (fa ε).bind fun x ε1 => (fb ε1).bind fun y ε2 => match (see ε2 x).bind fun a => (see ε2 y).bind fun b => g a b with
  | some (.bool true) => (fc ε2).bind fun w ε3 => ofO ε3 ((see ε3 y).bind fun a => (see ε3 w).bind fun b => g' a b)
  | some (.bool false) => .ok (.val (.bool false)) ε2
  | _ => .no
theorem up_fChain {g g' : PyData → PyData → Option PyData} : ∀ δ μ Q, upF (fChain g g' fa fb fc) δ μ Q → dChain (rdP2 g) (rdP2 g') (upF fa) (upF fb) (upF fc) δ μ Q := fun δ μ Q ⟨ε, m, h⟩ =>
  use1 m h fun r ε1 v μ1 e t rf h1 => use1 (P := fun r v μ' ε' => RF δ μ ε' μ' r v) t.mt (fit_step t h1 fun _ _ _ _ _ p => p) fun r2 ε2 v2 μ2 e2 t2 rf2 h2 => by
    have rfk := RF.keep t m t2 rf
    have rf2' := RF.back m t t2 rf2
    have h3 := h2
    split at h3
    · next ho =>
      simp only [Option.bind_eq_some_iff] at ho
      obtain ⟨a, e4, b, e5, e6⟩ := ho
      refine ⟨a, b, .bool true, see_look t2.mt rfk e4, see_look t2.mt rf2' e5, e6, ?_⟩
      refine use1 (P := fun r v μ' ε' => RF δ μ ε' μ' r v) t2.mt (fit_step t2 h3 fun _ _ _ _ _ p => p) fun r3 ε3 v3 μ3 e7 t3 rf3 h5 => ?_
      have rfy := RF.keep (t.trans t2) m t3 rf2'
      have h6 : fit (fun r v μ' ε' => RF δ μ ε' μ' r v) δ μ2 ε2 Q (ofO ε3 ((see ε3 r2).bind fun a => (see ε3 r3).bind fun b => g' a b)) := h5
      cases ho : ((see ε3 r2).bind fun a => (see ε3 r3).bind fun b => g' a b) with
      | none => rw [ho] at h6; exact h6.elim
      | some z =>
        rw [ho] at h6
        simp only [Option.bind_eq_some_iff] at ho
        obtain ⟨a', e8, b', e9, e10⟩ := ho
        exact ⟨a', b', z, see_look t3.mt rfy e8, see_look t3.mt (RF.back t2.mt (TrE.refl t2.mt) t3 rf3) e9, e10, h6 _ _ t3 rfl⟩
    · next ho =>
      simp only [Option.bind_eq_some_iff] at ho
      obtain ⟨a, e4, b, e5, e6⟩ := ho
      exact ⟨a, b, .bool false, see_look t2.mt rfk e4, see_look t2.mt rf2' e5, e6, h3 _ _ t2 rfl⟩
    · exact h3.elim
end
section
variable {X : Cx} {pos : Pos} {a b c e : Expr} {fa fb fc fe : FT}
theorem f_chain {op op' : CmpOp} {g g' : PyData → PyData → Option PyData} {rv rv' : R2} (ho : OpR X (compareOp op) rv) (h : Up2 X.K (rdP2 g) rv) (ho' : OpR X (compareOp op') rv') (h' : Up2 X.K (rdP2 g') rv') (ha : FE X a fa) (hb : FE X b fb) (hc : FE X c fc) (hm : lastMarks [op, op'] [b, c] = false := by with_unfolding_all rfl) :
    FE X (.Compare a [op, op'] [b, c] pos) (fChain g g' fa fb fc) := d_imp (d_chain ho h ho' h' ha hb hc hm) up_fChain
theorem fc_chain {op op' : CmpOp} {g g' : PyData → PyData → Option PyData} {rv rv' : R2} (ho : OpR X (compareOp op) rv) (h : Up2 X.K (rdP2 g) rv) (ho' : OpR X (compareOp op') rv') (h' : Up2 X.K (rdP2 g') rv') (ha : FE X a fa) (hb : FE X b fb) (hc : FE X c fc) (hm : lastMarks [op, op'] [b, c] = false := by with_unfolding_all rfl) :
    FC X (.Compare a [op, op'] [b, c] pos) (fB (fChain g g' fa fb fc)) := c_imp (c_chain ho h ho' h' ha hb hc hm) fun δ μ Q h => by
    obtain ⟨ε, m, h⟩ := h
    exact up_fChain δ μ _ ⟨ε, m, fB_fit h⟩
end
end FL

namespace FL
open PySem PySem.Spec PyProof.Rows L2 DL
/-! ### displays -/
def vals : List FR → Option (List PyData)
  | [] => some []
  | .val x :: r => (vals r).map (x :: ·)
  | _ :: _ => none
theorem vals_allD {δ : DSt} {μ0 μ : Mu} {ε : FSt} : ∀ {rs : List FR} {vs : List DV} {xs : List PyData}, PySem.Paired (fun r v => RF δ μ0 ε μ r v) rs vs → vals rs = some xs → allD vs = some xs
  | [], _, _, .nil, e => e
  | .val x :: rs, _, _, .cons h t, e => by
    simp only [vals, Option.map_eq_some_iff] at e
    obtain ⟨ys, e1, rfl⟩ := e
    cases (show _ = DV.d x from h)
    simp [allD, vals_allD t e1]
  | .ref _ :: _, _, _, .cons _ _, e => by cases e
  | .own _ :: _, _, _, .cons _ _, e => by cases e
noncomputable def fTup (fr : FTA) : FT := fun ε => (fr ε).bind fun rs ε1 => ofO ε1 ((vals rs).bind fun xs => req (xs.length ≤ 1000) (some (.tuple xs)))
noncomputable def fLst (fr : FTA) : FT := fun ε => (fr ε).bind fun rs ε1 => ofO ε1 ((vals rs).bind fun xs => req (xs.length ≤ 1000) (some (.list xs)))
noncomputable def fLstO (fr : FTA) : FT := fun ε => (fr ε).bind fun rs ε1 => ofOL ε1 ((vals rs).bind fun xs => req (xs.length ≤ 1000) (some (.list xs)))
def fDictO : FT := fun ε => .ok (.own (.dct [])) ε
section
variable {X : Cx} {pos : Pos} {a b c e : Expr} {fa fb fc fe : FT} {es rest : List Expr} {fr : FTA}
theorem f_tup {x1} (h : FA X es fr) : FE X (.Tuple es x1 pos) (fTup fr) := d_imp (d_tup h) fun δ μ Q ⟨ε, m, h⟩ => useA m h fun rs ε1 vs μ1 e t rf h1 => by
  obtain ⟨z, ez, q⟩ := fit_ofO t h1
  simp only [Option.bind_eq_some_iff] at ez
  obtain ⟨xs, e1, e2⟩ := ez
  obtain ⟨h2, e3⟩ := req_some e2
  cases e3
  rw [vals_allD rf e1]
  exact ⟨h2, q⟩
theorem f_lst (h : FA X es fr) : FE X (.List es pos) (fLst fr) := d_imp (d_lst h) fun δ μ Q ⟨ε, m, h⟩ => useA m h fun rs ε1 vs μ1 e t rf h1 => by
  obtain ⟨z, ez, q⟩ := fit_ofO t h1
  simp only [Option.bind_eq_some_iff] at ez
  obtain ⟨xs, e1, e2⟩ := ez
  obtain ⟨h2, e3⟩ := req_some e2
  cases e3
  rw [vals_allD rf e1]
  exact ⟨h2, q⟩
theorem f_lstO (h : FA X es fr) : FE X (.List es pos) (fLstO fr) := d_imp (d_lstC h) fun δ μ Q ⟨ε, m, h⟩ => useA m h fun rs ε1 vs μ1 e t rf h1 => by
  obtain ⟨z, ez, q⟩ := fit_ofOL m t h1
  simp only [Option.bind_eq_some_iff] at ez
  obtain ⟨xs, e1, e2⟩ := ez
  obtain ⟨h2, e3⟩ := req_some e2
  cases e3
  rw [vals_allD rf e1]
  exact ⟨h2, q⟩
theorem f_dict0 : FE X (.Dict [] [] pos) (fC (.dict [])) := d_imp d_dict0 fun δ μ Q ⟨ε, m, h⟩ => h _ _ (.refl m) rfl
theorem f_dict1 {i j : Int} {k1 k2 p1 p2} : FE X (.Dict [some (.Constant (.int i) k1 p1)] [.Constant (.int j) k2 p2] pos) (fC (.dict [(.int i, .int j)])) := d_imp d_dict1 fun δ μ Q ⟨ε, m, h⟩ => h _ _ (.refl m) rfl
theorem f_dictO : FE X (.Dict [] [] pos) fDictO := d_imp d_dictC fun δ μ Q ⟨ε, m, h⟩ p hp => h _ _ ((TrE.refl m).new hp) ⟨p, rfl, put_same, hp⟩
theorem f_int {i j} : FE X (.Constant (.int i) j pos) (fC (.int i)) := f_const d_int
theorem f_bl {i j} : FE X (.Constant (.bool i) j pos) (fC (.bool i)) := f_const d_bl
theorem f_non {j} : FE X (.Constant .none j pos) (fC .none) := f_const d_non
theorem f_str {x j} : FE X (.Constant (.str x) j pos) (fC (.str x)) := f_const d_str
theorem f_num {x : Str} {p : Pos} {n : Int} (D : KNum X.mg x n) (hg : Gl X x) (hdb : (x == ("__debug__" : Str)) = false := by decide) : FE X (.Name x p) (fC (.int n)) := f_const (d_num D hg hdb)
end
/-! ### built-in functions -/
def gLen : List PyData → Option PyData
  | [a] => (itemsOf a).map fun xs => .int xs.length
  | _ => none
theorem looks1 {μ : Mu} {ds : List DV} {a : PyData} (h : looks μ ds = some [a]) : ∃ x, ds = [x] ∧ look μ x = some a := by
  match ds with
  | [] => simp [looks] at h
  | [x] =>
    simp only [looks, Option.bind_eq_some_iff, Option.map_eq_some_iff] at h
    obtain ⟨b, e, xs, e2, e3⟩ := h
    cases e2
    cases e3
    exact ⟨x, rfl, e⟩
  | x :: y :: r =>
    simp only [looks, Option.bind_eq_some_iff, Option.map_eq_some_iff] at h
    obtain ⟨b, e, xs, ⟨c, e2, ys, e3, rfl⟩, e4⟩ := h
    cases e4
theorem looks2 {μ : Mu} {ds : List DV} {a b : PyData} (h : looks μ ds = some [a, b]) : ∃ x y, ds = [x, y] ∧ look μ x = some a ∧ look μ y = some b := by
  match ds with
  | [] => simp [looks] at h
  | x :: r =>
    simp only [looks, Option.bind_eq_some_iff, Option.map_eq_some_iff] at h
    obtain ⟨c, e, xs, e2, e3⟩ := h
    cases e3
    obtain ⟨y, rfl, e4⟩ := looks1 e2
    exact ⟨x, y, rfl, e, e4⟩
/-- a built-in function of one value -/
theorem upA_1 {K : PySem.W.Frag} {g : List PyData → Option PyData} {rv : List V → Hp → VK → Prop} (hg : ∀ as z, g as = some z → ∃ a, as = [a])
    (h : ∀ (x : DV) (a z : PyData) (v : V) (μ : Mu) (Qd : DK) (H : Hp) (Q : VK), RM K μ H → RV K μ H v x → look μ x = some a → g [a] = some z → Qd (.d z) μ → Wk K μ H Qd Q → rv [v] H Q) : UpA K (rdPA g) rv := fun ds μ Qd vs H Q m r ⟨as, z, ea, ez, q⟩ w => by
  obtain ⟨a, rfl⟩ := hg _ _ ez
  obtain ⟨x, rfl, e⟩ := looks1 ea
  cases r with
  | cons r t => cases t; exact h x a z _ μ Qd H Q m r e ez q w
theorem p_len {K : PySem.W.Frag} : UpA K (rdPA gLen) (fun xs H Q => ∃ p ys, xs = [.ref p] ∧ (SqL K H p ys ∨ SqT K H p ys) ∧ Q (.int ys.length) H) := upA_1 (fun as z h => by unfold gLen at h; split at h <;> simp at h; exact ⟨_, rfl⟩) fun x a z v μ Qd H Q m r e ez q w => by
  simp only [gLen, Option.map_eq_some_iff] at ez
  obtain ⟨xs, e1, rfl⟩ := ez
  obtain ⟨p, vs, rfl, s, t⟩ := look_items m r e e1
  exact ⟨p, vs, rfl, s, by rw [t.length]; exact w (.d (.int _)) μ _ H (.refl _ _) m (Da.int _) q⟩
def gTuple : List PyData → Option PyData
  | [a] => (itemsOf a).map .tuple
  | _ => none
theorem p_tuple {K : PySem.W.Frag} : UpA K (rdPA gTuple) (fun xs H Q => ∃ p ys, xs = [.ref p] ∧ ((SqL K H p ys ∧ NewT H ys Q) ∨ (SqT K H p ys ∧ Q (.ref p) H))) := upA_1 (fun as z h => by unfold gTuple at h; split at h <;> simp at h; exact ⟨_, rfl⟩) fun x a z v μ Qd H Q m r e ez q w => by
  simp only [gTuple, Option.map_eq_some_iff] at ez
  obtain ⟨xs, e1, rfl⟩ := ez
  unfold itemsOf at e1
  split at e1
  · cases e1
    obtain ⟨p, vs, rfl, s, t⟩ := look_list m r e
    exact ⟨p, vs, rfl, .inl ⟨s, wk_tup w m t q⟩⟩
  · cases e1
    obtain ⟨rfl, p, vs, rfl, s, t⟩ := look_tup r e
    exact ⟨p, vs, rfl, .inr ⟨same_seqT unhid s, w (.d (.tuple xs)) μ _ H (.refl _ _) m (.tup s t) q⟩⟩
  · cases e1
def gList : List PyData → Option PyData
  | [a] => (itemsOf a).map .list
  | _ => none
theorem p_list {K : PySem.W.Frag} : UpA K (rdPA gList) (fun xs H Q => ∃ p ys, xs = [.ref p] ∧ (SqL K H p ys ∨ SqT K H p ys) ∧ ∀ l, H l = none → Q (.ref l) (upd H l (.lst ys))) := upA_1 (fun as z h => by unfold gList at h; split at h <;> simp at h; exact ⟨_, rfl⟩) fun x a z v μ Qd H Q m r e ez q w => by
  simp only [gList, Option.map_eq_some_iff] at ez
  obtain ⟨xs, e1, rfl⟩ := ez
  obtain ⟨p, vs, rfl, s, t⟩ := look_items m r e e1
  exact ⟨p, vs, rfl, s, fun l hl => wk_lst w m t q hl⟩
def gSum : List PyData → Option PyData
  | [.list xs] => (intsOf xs).map fun ns => .int ns.sum
  | _ => none
theorem p_sum {K : PySem.W.Frag} : UpA K (rdPA gSum) (rSum K) := upA_1 (fun as z h => by unfold gSum at h; split at h <;> simp at h; exact ⟨_, rfl⟩) fun x a z v μ Qd H Q m r e ez q w => by
  unfold gSum at ez
  split at ez
  · next xs ea =>
    cases ea
    simp only [Option.map_eq_some_iff] at ez
    obtain ⟨ns, e1, rfl⟩ := ez
    have e2 := intsOf_some e1
    subst e2
    obtain ⟨p, vs, rfl, s, t⟩ := look_list m r e
    have e3 := t.ints_inv
    subst e3
    exact ⟨p, ns, rfl, s, w (.d (.int _)) μ _ H (.refl _ _) m (Da.int _) q⟩
  · cases ez
def gAll : List PyData → Option PyData
  | [.list xs] => (boolsOf xs).map fun bs => .bool (bs.all id)
  | _ => none
def gAny : List PyData → Option PyData
  | [.list xs] => (boolsOf xs).map fun bs => .bool (bs.any id)
  | _ => none
theorem p_all {K : PySem.W.Frag} : UpA K (rdPA gAll) (rAll K) := upA_1 (fun as z h => by unfold gAll at h; split at h <;> simp at h; exact ⟨_, rfl⟩) fun x a z v μ Qd H Q m r e ez q w => by
  unfold gAll at ez
  split at ez
  · next xs ea =>
    cases ea
    simp only [Option.map_eq_some_iff] at ez
    obtain ⟨ns, e1, rfl⟩ := ez
    have e2 := boolsOf_some e1
    subst e2
    obtain ⟨p, vs, rfl, s, t⟩ := look_list m r e
    have e3 := bools_inv t
    subst e3
    exact ⟨p, ns, rfl, s, w (.d (.bool _)) μ _ H (.refl _ _) m (Da.bl _) q⟩
  · cases ez
theorem p_any {K : PySem.W.Frag} : UpA K (rdPA gAny) (rAny K) := upA_1 (fun as z h => by unfold gAny at h; split at h <;> simp at h; exact ⟨_, rfl⟩) fun x a z v μ Qd H Q m r e ez q w => by
  unfold gAny at ez
  split at ez
  · next xs ea =>
    cases ea
    simp only [Option.map_eq_some_iff] at ez
    obtain ⟨ns, e1, rfl⟩ := ez
    have e2 := boolsOf_some e1
    subst e2
    obtain ⟨p, vs, rfl, s, t⟩ := look_list m r e
    have e3 := bools_inv t
    subst e3
    exact ⟨p, ns, rfl, s, w (.d (.bool _)) μ _ H (.refl _ _) m (Da.bl _) q⟩
  · cases ez
def gAbs : List PyData → Option PyData
  | [.int i] => some (.int (if i < 0 then -i else i))
  | _ => none
theorem p_abs {K : PySem.W.Frag} : UpA K (rdPA gAbs) (fun xs H Q => ∃ i, xs = [.int i] ∧ Q (.int (if i < 0 then -i else i)) H) := upA_1 (fun as z h => by unfold gAbs at h; split at h <;> simp at h; exact ⟨_, rfl⟩) fun x a z v μ Qd H Q m r e ez q w => by
  unfold gAbs at ez
  split at ez
  · next i ea => cases ea; cases ez; exact ⟨i, by rw [look_int r e], w (.d (.int _)) μ _ H (.refl _ _) m (Da.int _) q⟩
  · cases ez
def gInt : List PyData → Option PyData
  | [.int i] => some (.int i)
  | [.bool k] => some (.int (if k then 1 else 0))
  | _ => none
theorem p_int {K : PySem.W.Frag} : UpA K (rdPA gInt) (fun xs H Q => (∃ i, xs = [.int i] ∧ Q (.int i) H) ∨ ∃ k, xs = [.bl k] ∧ Q (.int (if k then 1 else 0)) H) := upA_1 (fun as z h => by unfold gInt at h; split at h <;> simp at h <;> exact ⟨_, rfl⟩) fun x a z v μ Qd H Q m r e ez q w => by
  unfold gInt at ez
  split at ez
  · next i ea => cases ea; cases ez; exact .inl ⟨i, by rw [look_int r e], w (.d (.int _)) μ _ H (.refl _ _) m (Da.int _) q⟩
  · next i ea => cases ea; cases ez; exact .inr ⟨i, by rw [look_bool r e], w (.d (.int _)) μ _ H (.refl _ _) m (Da.int _) q⟩
  · cases ez
noncomputable def gStr : List PyData → Option PyData
  | [.int i] => req (i.natAbs.log2 < 1920) (some (.str (toString i)))
  | _ => none
theorem p_str {K : PySem.W.Frag} : UpA K (rdPA gStr) (fun xs H Q => ∃ i, xs = [.int i] ∧ i.natAbs.log2 < 1920 ∧ Q (.str (toString i)) H) := upA_1 (fun as z h => by unfold gStr at h; split at h <;> simp at h; exact ⟨_, rfl⟩) fun x a z v μ Qd H Q m r e ez q w => by
  unfold gStr at ez
  split at ez
  · next i ea =>
    cases ea
    obtain ⟨h1, e3⟩ := req_some ez
    cases e3
    exact ⟨i, by rw [look_int r e], h1, w (.d (.str _)) μ _ H (.refl _ _) m (Da.str _) q⟩
  · cases ez
noncomputable def gRepr : List PyData → Option PyData
  | [d] => req (Show d) (some (.str d.shown))
  | _ => none
theorem p_repr {K : PySem.W.Frag} : UpA K (rdPA gRepr) (rRepr K) := upA_1 (fun as z h => match as, h with | [a], _ => ⟨a, rfl⟩) fun x a z v μ Qd H Q m r e ez q w => by
  simp only [gRepr] at ez
  obtain ⟨h1, e3⟩ := req_some ez
  cases e3
  exact ⟨_, a, rfl, look_da m r e, h1, w (.d (.str _)) μ _ H (.refl _ _) m (Da.str _) q⟩
def gMax2 : List PyData → Option PyData
  | [.int i, .int j] => some (.int (if j > i then j else i))
  | _ => none
def gMin2 : List PyData → Option PyData
  | [.int i, .int j] => some (.int (if j < i then j else i))
  | _ => none
theorem p_max2 {K : PySem.W.Frag} : UpA K (rdPA gMax2) (fun xs H Q => ∃ i j, xs = [.int i, .int j] ∧ Q (.int (if j > i then j else i)) H) := fun ds μ Qd vs H Q m r ⟨as, z, ea, ez, q⟩ w => by
  unfold gMax2 at ez
  split at ez
  · next i j =>
    cases ez
    obtain ⟨x, y, rfl, e1, e2⟩ := looks2 ea
    cases r with
    | cons r t => cases t with
      | cons r2 t => cases t; exact ⟨i, j, by rw [look_int r e1, look_int r2 e2], w (.d (.int _)) μ _ H (.refl _ _) m (Da.int _) q⟩
  · cases ez
theorem p_min2 {K : PySem.W.Frag} : UpA K (rdPA gMin2) (fun xs H Q => ∃ i j, xs = [.int i, .int j] ∧ Q (.int (if j < i then j else i)) H) := fun ds μ Qd vs H Q m r ⟨as, z, ea, ez, q⟩ w => by
  unfold gMin2 at ez
  split at ez
  · next i j =>
    cases ez
    obtain ⟨x, y, rfl, e1, e2⟩ := looks2 ea
    cases r with
    | cons r t => cases t with
      | cons r2 t => cases t; exact ⟨i, j, by rw [look_int r e1, look_int r2 e2], w (.d (.int _)) μ _ H (.refl _ _) m (Da.int _) q⟩
  · cases ez
section
variable {X : Cx} {pos p : Pos} {x : Str} {id T : String} {a b c e : Expr} {fa fb fc fe : FT} {es rest : List Expr} {fr : FTA}
theorem f_callB {g : List PyData → Option PyData} {rv : List V → Hp → VK → Prop} (hc : CallR X (.builtin id) rv) (h : UpA X.K (rdPA g) rv) (hg : Gl X x) (hm : X.mg x = none) (hv : bootBuiltins x = some (.builtin id)) (ha : FA X (e :: es) fr) (hn : x ≠ "__name__" := by decide) (hdb : (x == ("__debug__" : Str)) = false := by decide)
    (he : starEach (e :: es) X.env = (false, eval e X.env) :: starEach es X.env := by rfl) (hpl : (backTo pos (starEach es X.env)).any (·.1) = false := by rfl) : FE X (.Call (.Name x p) (e :: es) [] pos) (fFn g fr) := d_imp (d_callB hc h hg hm hv ha hn hdb he hpl) up_fFn
theorem f_callTy {g : List PyData → Option PyData} {rv : List V → Hp → VK → Prop} (hc : CallR X (.type T) rv) (h : UpA X.K (rdPA g) rv) (hg : Gl X x) (hm : X.mg x = none) (hv : bootBuiltins x = some (.type T)) (ha : FA X (e :: es) fr) (hn : x ≠ "__name__" := by decide) (hdb : (x == ("__debug__" : Str)) = false := by decide)
    (he : starEach (e :: es) X.env = (false, eval e X.env) :: starEach es X.env := by rfl) (hpl : (backTo pos (starEach es X.env)).any (·.1) = false := by rfl) : FE X (.Call (.Name x p) (e :: es) [] pos) (fFn g fr) := d_imp (d_callTy hc h hg hm hv ha hn hdb he hpl) up_fFn
end
end FL

namespace FL
open PySem PySem.Spec PyProof.Rows L2 DL
/-! ### statements -/
inductive Flow where
  | nx
  | rt (r : FR)
  | bk
  | ct
abbrev FS := FSt → R Flow
def OwnA (δ : DSt) (ε : FSt) (p : Addr) : Prop := ∃ (i : Nat) (c : Cell), ε[i]? = some (some (FV.c c)) ∧ δ[i]? = some (some (.cell p))
theorem OwnA.adr {δ : DSt} {ε : FSt} {p : Addr} (h : OwnA δ ε p) : Adr δ ε p := let ⟨i, c, a, b⟩ := h; ⟨i, isC_of (getC_c a), b⟩
/-- what a statement may do -/
structure Tr (δ : DSt) (μ : Mu) (ε : FSt) (δ' : DSt) (μ' : Mu) (ε' : FSt) : Prop where
  mt : Mt δ' μ' ε'
  fr : ∀ b c, μ b = some c → ¬ Adr δ ε b → μ' b = some c
  bo : ∀ (i : Nat) (c : Cell), ε[i]? = some (some (.b c)) → (∃ c', ε'[i]? = some (some (.b c'))) ∧ δ'[i]? = δ[i]?
  bn : ∀ (i : Nat) (c : Cell), ε'[i]? = some (some (.b c)) → ∃ c', ε[i]? = some (some (.b c'))
  nw : ∀ b, OwnA δ' ε' b → OwnA δ ε b ∨ μ b = none
  ln : ε'.length = ε.length
theorem adr_cases {δ : DSt} {ε : FSt} {p : Addr} (h : Adr δ ε p) : OwnA δ ε p ∨ ∃ (i : Nat) (c : Cell), ε[i]? = some (some (FV.b c)) ∧ δ[i]? = some (some (.cell p)) := by
  obtain ⟨i, hi, hp⟩ := h
  obtain ⟨c, hc⟩ := isC_some hi
  rcases getC_some hc with h | h
  · exact .inl ⟨i, c, h, hp⟩
  · exact .inr ⟨i, c, h, hp⟩
theorem Tr.adr {δ δ' : DSt} {μ μ' : Mu} {ε ε' : FSt} (t : Tr δ μ ε δ' μ' ε') {p : Addr} (h : Adr δ' ε' p) : Adr δ ε p ∨ μ p = none := by
  rcases adr_cases h with h | ⟨i, c, h1, h2⟩
  · rcases t.nw p h with h | h
    · exact .inl h.adr
    · exact .inr h
  · obtain ⟨c', h3⟩ := t.bn i c h1
    have := (t.bo i c' h3).2
    exact .inl ⟨i, isC_of (getC_b h3), by rw [← this]; exact h2⟩
theorem Tr.refl {δ : DSt} {μ : Mu} {ε : FSt} (m : Mt δ μ ε) : Tr δ μ ε δ μ ε := ⟨m, fun _ _ h _ => h, fun i c h => ⟨⟨c, h⟩, rfl⟩, fun i c h => ⟨c, h⟩, fun b h => .inl h, rfl⟩
theorem Tr.trans {δ δ1 δ2 : DSt} {μ μ1 μ2 : Mu} {ε ε1 ε2 : FSt} (m : Mt δ μ ε) (a : Tr δ μ ε δ1 μ1 ε1) (b : Tr δ1 μ1 ε1 δ2 μ2 ε2) : Tr δ μ ε δ2 μ2 ε2 := by
  refine ⟨b.mt, fun p c h n => b.fr p c (a.fr p c h n) fun z => ?_, fun i c h => ?_, fun i c h => ?_, fun p h => ?_, b.ln.trans a.ln⟩
  · rcases a.adr z with z | z
    · exact n z
    · rw [h] at z; cases z
  · obtain ⟨⟨c1, h1⟩, e1⟩ := a.bo i c h
    obtain ⟨h2, e2⟩ := b.bo i c1 h1
    exact ⟨h2, e2.trans e1⟩
  · obtain ⟨c1, h1⟩ := b.bn i c h
    exact a.bn i c1 h1
  · rcases b.nw p h with h | h
    · exact a.nw p h
    · cases e : μ p with
      | none => exact .inr rfl
      | some c =>
        by_cases z : Adr δ ε p
        · rcases adr_cases z with z | ⟨i, c2, h1, h2⟩
          · exact .inl z
          · obtain ⟨⟨c3, h3⟩, e3⟩ := a.bo i c2 h1
            obtain ⟨q, h4, h5⟩ := a.mt.cel i c3 (getC_b h3)
            rw [e3, h2] at h4
            cases h4
            rw [h] at h5; cases h5
        · have := a.fr p c e z
          rw [h] at this; cases this
theorem Kd.own {ε ε' : FSt} (k : Kd ε ε') {δ : DSt} {p : Addr} (h : OwnA δ ε' p) : OwnA δ ε p := by
  obtain ⟨i, c, h1, h2⟩ := h
  cases e : ε[i]? with
  | none =>
    have : ε'[i]? = none := List.getElem?_eq_none (by rw [k.len]; exact List.getElem?_eq_none_iff.mp e)
    rw [this] at h1; cases h1
  | some v =>
    obtain ⟨v', e', s⟩ := k.at' i v e
    rw [h1] at e'
    cases e'
    cases v with
    | none => cases (show _ = _ from s)
    | some f => cases f with
      | d x => cases (show _ = _ from s)
      | c x => exact ⟨i, x, e, h2⟩
      | b x => obtain ⟨y, s⟩ := s; cases s
theorem Kd.bb {ε ε' : FSt} (k : Kd ε ε') {i : Nat} : (∃ c, ε[i]? = some (some (FV.b c))) ↔ ∃ c, ε'[i]? = some (some (FV.b c)) := by
  constructor
  · rintro ⟨c, h⟩
    obtain ⟨v', e', y, s⟩ := k.at' i _ h
    exact ⟨y, by rw [e', s]⟩
  · rintro ⟨c, h1⟩
    cases e : ε[i]? with
    | none =>
      have : ε'[i]? = none := List.getElem?_eq_none (by rw [k.len]; exact List.getElem?_eq_none_iff.mp e)
      rw [this] at h1; cases h1
    | some v =>
      obtain ⟨v', e', s⟩ := k.at' i v e
      rw [h1] at e'
      cases e'
      cases v with
      | none => cases (show _ = _ from s)
      | some f => cases f with
        | d x => cases (show _ = _ from s)
        | c x => obtain ⟨y, s⟩ := s; cases s
        | b x => exact ⟨x, rfl⟩
theorem TrE.tr {δ : DSt} {μ μ' : Mu} {ε ε' : FSt} (t : TrE δ μ ε μ' ε') : Tr δ μ ε δ μ' ε' :=
  ⟨t.mt, t.fr, fun i c h => ⟨t.kd.bb.mp ⟨c, h⟩, rfl⟩, fun i c h => t.kd.bb.mpr ⟨c, h⟩, fun b h => .inl (t.kd.own h), t.kd.len⟩
/-- a result behind statements -/
def RS' (δ : DSt) (μ : Mu) (ε : FSt) (δ' : DSt) (μ' : Mu) (ε' : FSt) : FR → DV → Prop
  | .val x, v => v = .d x
  | .ref i, v => isC ε' i ∧ ∃ p, v = .cell p ∧ δ'[i]? = some (some (.cell p))
  | .own c, v => ∃ p, v = .cell p ∧ μ' p = some c ∧ (μ p = none ∨ OwnA δ ε p)
theorem RF.rs {δ : DSt} {μ μ' : Mu} {ε ε' : FSt} : ∀ {r : FR} {v : DV}, RF δ μ ε' μ' r v → RS' δ μ ε δ μ' ε' r v
  | .val _, _, h => h
  | .ref _, _, h => h
  | .own _, _, ⟨p, a, b, c⟩ => ⟨p, a, b, .inl c⟩
theorem RS'.back {δ δ1 δ2 : DSt} {μ μ1 μ2 : Mu} {ε ε1 ε2 : FSt} (m : Mt δ μ ε) (t : Tr δ μ ε δ1 μ1 ε1) : ∀ {r : FR} {v : DV}, RS' δ1 μ1 ε1 δ2 μ2 ε2 r v → RS' δ μ ε δ2 μ2 ε2 r v
  | .val _, _, h => h
  | .ref _, _, h => h
  | .own _, _, ⟨p, a, b, c⟩ => ⟨p, a, b, by
      rcases c with c | c
      · cases e : μ p with
        | none => exact .inl rfl
        | some c0 =>
          by_cases z : Adr δ ε p
          · rcases adr_cases z with z | ⟨i, c2, h1, h2⟩
            · exact .inr z
            · obtain ⟨⟨c3, h3⟩, e3⟩ := t.bo i c2 h1
              obtain ⟨q, h4, h5⟩ := t.mt.cel i c3 (getC_b h3)
              rw [e3, h2] at h4
              cases h4
              rw [c] at h5; cases h5
          · have := t.fr p c0 e z
            rw [c] at this; cases this
      · rcases t.nw p c with c | c
        · exact .inr c
        · exact .inl c⟩
def fitS (D : DEnds) (δ : DSt) (μ : Mu) (ε : FSt) : R Flow → Prop
  | .ok .nx ε' => ∀ δ' μ', Tr δ μ ε δ' μ' ε' → D.nx δ' μ'
  | .ok .bk ε' => ∀ δ' μ', Tr δ μ ε δ' μ' ε' → D.bk δ' μ'
  | .ok .ct ε' => ∀ δ' μ', Tr δ μ ε δ' μ' ε' → D.ct δ' μ'
  | .ok (.rt r) ε' => ∀ δ' μ' v, Tr δ μ ε δ' μ' ε' → RS' δ μ ε δ' μ' ε' r v → D.rt v μ'
  | _ => False
def upFS (f : FS) : DTS := fun D δ μ => ∃ ε, Mt δ μ ε ∧ fitS D δ μ ε (f ε)
abbrev FSt1 (X : Cx) (st : Stmt) (f : FS) : Prop := DS X st (upFS f)
abbrev FSts (X : Cx) (st : List Stmt) (f : FS) : Prop := DSs X st (upFS f)
theorem fitS_step {D : DEnds} {δ δ1 : DSt} {μ μ1 : Mu} {ε ε1 : FSt} (m : Mt δ μ ε) (t : Tr δ μ ε δ1 μ1 ε1) {r : R Flow} (h : fitS D δ μ ε r) : fitS D δ1 μ1 ε1 r := by
  cases r with
  | no => exact h
  | ex _ _ => exact h
  | ok fl ε' => cases fl with
    | nx => exact fun δ' μ' t' => h δ' μ' (t.trans m t')
    | bk => exact fun δ' μ' t' => h δ' μ' (t.trans m t')
    | ct => exact fun δ' μ' t' => h δ' μ' (t.trans m t')
    | rt r => exact fun δ' μ' v t' rr => h δ' μ' v (t.trans m t') (RS'.back m t rr)
theorem upFS_next {D : DEnds} {δ δ1 : DSt} {μ μ1 : Mu} {ε ε1 : FSt} {f : FS} (m : Mt δ μ ε) (t : Tr δ μ ε δ1 μ1 ε1) (h : fitS D δ μ ε (f ε1)) : upFS f D δ1 μ1 := ⟨ε1, t.mt, fitS_step m t h⟩
/-- other ends -/
theorem fitS_ends {D D' : DEnds} {δ : DSt} {μ : Mu} {ε : FSt} {r : R Flow} (h : fitS D δ μ ε r) (h1 : ∀ δ' μ', D.nx δ' μ' → D'.nx δ' μ') (h2 : ∀ v μ', D.rt v μ' → D'.rt v μ') (h3 : ∀ δ' μ', D.bk δ' μ' → D'.bk δ' μ') (h4 : ∀ δ' μ', D.ct δ' μ' → D'.ct δ' μ') : fitS D' δ μ ε r := by
  cases r with
  | no => exact h
  | ex _ _ => exact h
  | ok fl ε' => cases fl with
    | nx => exact fun δ' μ' t' => h1 _ _ (h δ' μ' t')
    | bk => exact fun δ' μ' t' => h3 _ _ (h δ' μ' t')
    | ct => exact fun δ' μ' t' => h4 _ _ (h δ' μ' t')
    | rt r => exact fun δ' μ' v t' rr => h2 _ _ (h δ' μ' v t' rr)
def fsNext : FS := fun ε => .ok .nx ε
def fsBrk : FS := fun ε => .ok .bk ε
def fsCnt : FS := fun ε => .ok .ct ε
def fsSeq (f g : FS) : FS := fun ε => (f ε).bind fun fl ε1 => match fl with
  | .nx => g ε1
  | fl => .ok fl ε1
def fsRet (fe : FT) : FS := fun ε => (fe ε).bind fun r ε1 => .ok (.rt r) ε1
def fsDrop (fe : FT) : FS := fun ε => (fe ε).bind fun _ ε1 => .ok .nx ε1
def fsIf (t : FTT) (f g : FS) : FS := fun ε => (t ε).bind fun b ε1 => if b = true then f ε1 else g ε1
section
variable {X : Cx} {pos : Pos} {st : Stmt} {rest : List Stmt} {f g : FS} {e : Expr} {fe : FT} {tC : FTT}
theorem useSE {δ : DSt} {μ : Mu} {ε : FSt} {D : DEnds} {k : FR → FSt → R Flow} {Q' : DV → Mu → Prop} (m : Mt δ μ ε) (h : fitS D δ μ ε ((fe ε).bind k))
    (w : ∀ r ε1 v μ1, TrE δ μ ε μ1 ε1 → RF δ μ ε1 μ1 r v → fitS D δ μ ε (k r ε1) → Q' v μ1) : upF fe δ μ Q' := by
  refine ⟨ε, m, ?_⟩
  cases e : fe ε with
  | no => rw [e] at h; exact h.elim
  | ex _ _ => rw [e] at h; exact h.elim
  | ok r ε1 => rw [e] at h; exact fun v μ1 t p => w r ε1 v μ1 t p h
theorem useST {δ : DSt} {μ : Mu} {ε : FSt} {D : DEnds} {k : Bool → FSt → R Flow} {Q' : Bool → Mu → Prop} (m : Mt δ μ ε) (h : fitS D δ μ ε ((tC ε).bind k))
    (w : ∀ r ε1 μ1, TrE δ μ ε μ1 ε1 → fitS D δ μ ε (k r ε1) → Q' r μ1) : upFT tC δ μ Q' := by
  refine ⟨ε, m, ?_⟩
  cases e : tC ε with
  | no => rw [e] at h; exact h.elim
  | ex _ _ => rw [e] at h; exact h.elim
  | ok r ε1 => rw [e] at h; exact fun v μ1 t p => by subst p; exact w v ε1 μ1 t h
theorem fs_nil : FSts X [] fsNext := ss_imp s_nil fun D δ μ ⟨ε, m, h⟩ => h δ μ (.refl m)
theorem fs_pass : FSt1 X (.Pass pos) fsNext := s_imp s_pass fun D δ μ ⟨ε, m, h⟩ => h δ μ (.refl m)
theorem fs_break : FSt1 X (.Break pos) fsBrk := s_imp s_break fun D δ μ ⟨ε, m, h⟩ => h δ μ (.refl m)
theorem fs_continue : FSt1 X (.Continue pos) fsCnt := s_imp s_continue fun D δ μ ⟨ε, m, h⟩ => h δ μ (.refl m)
theorem fs_one (h1 : FSt1 X st f) : FSts X [st] f := s_one h1
theorem fs_cons (h1 : FSt1 X st f) (h2 : FSts X rest g) : FSts X (st :: rest) (fsSeq f g) := ss_imp (s_cons h1 h2) fun D δ μ ⟨ε, m, h⟩ => by
  refine ⟨ε, m, ?_⟩
  unfold fsSeq at h
  cases e : f ε with
  | no => rw [e] at h; exact h.elim
  | ex _ _ => rw [e] at h; exact h.elim
  | ok fl ε1 =>
    rw [e] at h
    cases fl with
    | nx => exact fun δ' μ' t => upFS_next m t h
    | bk => exact h
    | ct => exact h
    | rt r => exact h
theorem fs_ret (he : FE X e fe) : FSt1 X (.Return (some e) pos) (fsRet fe) := s_imp (s_ret he) fun D δ μ ⟨ε, m, h⟩ => useSE m h fun r ε1 v μ1 t p h1 => h1 δ μ1 v t.tr p.rs
theorem fs_expr (he : FE X e fe) (hs : swapsWith e none pos.line X.env = pure false := by rfl) : FSt1 X (.Expr e pos) (fsDrop fe) := s_imp (s_expr he hs) fun D δ μ ⟨ε, m, h⟩ => useSE m h fun r ε1 v μ1 t p h1 => h1 δ μ1 t.tr
theorem fs_if {as bs : List Stmt} (hc : FC X e tC) (ha : FSts X as f) (hb : FSts X bs g) : FSt1 X (.If e as bs pos) (fsIf tC f g) := s_imp (s_if hc ha hb) fun D δ μ ⟨ε, m, h⟩ => useST m h fun b ε1 μ1 t h1 => by
  cases b with
  | true => exact upFS_next m t.tr h1
  | false => exact upFS_next m t.tr h1
end
end FL

namespace FL
open PySem PySem.Spec PyProof.Rows L2 DL
/-! ### slots that are set -/
theorem getC_ne {ε : FSt} {i j : Nat} {x : Option FV} (h : i ≠ j) : getC (ε.set i x) j = getC ε j := by
  unfold getC; rw [List.getElem?_set_ne h]
theorem get_set {α : Type} {l : List α} {i : Nat} {x y : α} (h : (l.set i x)[i]? = some y) : y = x ∧ i < l.length := by
  by_cases hi : i < l.length
  · rw [List.getElem?_set_self hi] at h
    exact ⟨(Option.some.inj h).symm, hi⟩
  · rw [List.getElem?_eq_none (by simpa using hi)] at h; cases h
theorem getC_same {ε : FSt} {i : Nat} {x : Option FV} {c : Cell} (h : getC (ε.set i x) i = some c) : (x = some (.c c) ∨ x = some (.b c)) ∧ i < ε.length := by
  rcases getC_some h with h | h
  · obtain ⟨a, b⟩ := get_set h; exact ⟨.inl a.symm, b⟩
  · obtain ⟨a, b⟩ := get_set h; exact ⟨.inr a.symm, b⟩
/-- a result as a slot's value -/
def frV : FR → Option FV
  | .val x => some (.d x)
  | .own c => some (.c c)
  | .ref _ => none
def isBb (ε : FSt) (i : Nat) : Bool := match ε[i]? with
  | some (some (.b _)) => true
  | _ => false
theorem isBb_false {ε : FSt} {i : Nat} (h : isBb ε i = false) {c : Cell} (e : ε[i]? = some (some (.b c))) : False := by
  unfold isBb at h; rw [e] at h; cases h
section
variable {δ : DSt} {μ μ1 : Mu} {ε ε1 : FSt}
theorem TrE.setS (m : Mt δ μ ε) (t : TrE δ μ ε μ1 ε1) {i : Nat} {r : FR} {v : DV} {x : FV} (rf : RF δ μ ε1 μ1 r v) (hb : isBb ε1 i = false) (hx : frV r = some x) : Tr δ μ ε (δ.set i (some v)) μ1 (ε1.set i (some x)) := by
  have hl := t.mt.len
  have own : ∀ c, x = .c c → ∃ p, v = .cell p ∧ μ1 p = some c ∧ μ p = none := fun c e => by
    cases r with
    | val y => simp [frV] at hx; rw [← hx] at e; cases e
    | ref y => simp [frV] at hx
    | own c' => simp [frV] at hx; rw [← hx] at e; cases e; exact rf
  have nob : ∀ c, x ≠ .b c := fun c e => by
    cases r with
    | val y => simp [frV] at hx; rw [← hx] at e; cases e
    | ref y => simp [frV] at hx
    | own c' => simp [frV] at hx; rw [← hx] at e; cases e
  have dat : ∀ y, x = .d y → v = .d y := fun y e => by
    cases r with
    | val z => simp [frV] at hx; rw [← hx] at e; cases e; exact rf
    | ref y => simp [frV] at hx
    | own c' => simp [frV] at hx; rw [← hx] at e; cases e
  have adr : ∀ j p, isC ε1 j → δ[j]? = some (some (.cell p)) → μ p ≠ none := fun j p h1 h2 e => by
    obtain ⟨c, hc⟩ := m.adr (t.kd.adr.mpr ⟨j, h1, h2⟩)
    rw [e] at hc; cases hc
  refine ⟨⟨by simp [hl], fun j y h => ?_, fun j c h => ?_, fun j k p hj hk h1 h2 => ?_⟩, t.fr, fun j c h => ?_, fun j c h => ?_, fun p h => ?_, by simp [t.kd.len]⟩
  · by_cases e : i = j
    · subst e
      obtain ⟨a, b⟩ := get_set h
      rw [List.getElem?_set_self (by omega), dat y (Option.some.inj a).symm]
    · rw [List.getElem?_set_ne e] at h ⊢
      exact t.mt.dat j y h
  · by_cases e : i = j
    · subst e
      obtain ⟨a, b⟩ := getC_same h
      rcases a with a | a
      · obtain ⟨p, h1, h2, _⟩ := own c (Option.some.inj a)
        exact ⟨p, by rw [List.getElem?_set_self (by omega), h1], h2⟩
      · exact (nob c (Option.some.inj a)).elim
    · rw [getC_ne e] at h
      rw [List.getElem?_set_ne e]
      exact t.mt.cel j c h
  · by_cases e : i = j
    · subst e
      by_cases e2 : i = k
      · exact e2
      · obtain ⟨c, hc⟩ := isC_some hj
        obtain ⟨a, b⟩ := getC_same hc
        rcases a with a | a
        · obtain ⟨q, g1, g2, g3⟩ := own c (Option.some.inj a)
          rw [List.getElem?_set_self (by omega), g1] at h1
          cases h1
          rw [List.getElem?_set_ne e2] at h2
          unfold isC at hk
          rw [getC_ne e2] at hk
          exact (adr k p hk h2 g3).elim
        · exact (nob c (Option.some.inj a)).elim
    · by_cases e2 : i = k
      · subst e2
        obtain ⟨c, hc⟩ := isC_some hk
        obtain ⟨a, b⟩ := getC_same hc
        rcases a with a | a
        · obtain ⟨q, g1, g2, g3⟩ := own c (Option.some.inj a)
          rw [List.getElem?_set_self (by omega), g1] at h2
          cases h2
          rw [List.getElem?_set_ne e] at h1
          unfold isC at hj
          rw [getC_ne e] at hj
          exact (adr j p hj h1 g3).elim
        · exact (nob c (Option.some.inj a)).elim
      · unfold isC at hj hk
        rw [getC_ne e] at hj
        rw [getC_ne e2] at hk
        rw [List.getElem?_set_ne e] at h1
        rw [List.getElem?_set_ne e2] at h2
        exact t.mt.apart j k p hj hk h1 h2
  · obtain ⟨c1, h1⟩ := t.kd.bb.mp ⟨c, h⟩
    have e : i ≠ j := fun e => by subst e; exact isBb_false hb h1
    rw [List.getElem?_set_ne e, List.getElem?_set_ne e]
    exact ⟨⟨c1, h1⟩, rfl⟩
  · by_cases e : i = j
    · subst e
      obtain ⟨a, b⟩ := get_set h
      exact (nob c (Option.some.inj a).symm).elim
    · rw [List.getElem?_set_ne e] at h
      exact t.kd.bb.mpr ⟨c, h⟩
  · obtain ⟨j, c, h1, h2⟩ := h
    by_cases e : i = j
    · subst e
      obtain ⟨a, b⟩ := get_set h1
      obtain ⟨q, g1, g2, g3⟩ := own c (Option.some.inj a).symm
      rw [List.getElem?_set_self (by omega), g1] at h2
      cases h2
      exact .inr g3
    · rw [List.getElem?_set_ne e] at h1 h2
      exact .inl (t.kd.own ⟨j, c, h1, h2⟩)
theorem Tr.setD (m : Mt δ μ ε) {i : Nat} {x : PyData} (hb : isBb ε i = false) : Tr δ μ ε (δ.set i (some (.d x))) μ (ε.set i (some (.d x))) := TrE.setS m (.refl m) (r := .val x) (show RF δ μ ε μ (.val x) (.d x) from rfl) hb rfl
/-- a container's slot becomes data -/
theorem Tr.frz (m : Mt δ μ ε) {i : Nat} {p : Addr} {c : Cell} (hc : ε[i]? = some (some (.c c))) (hp : δ[i]? = some (some (.cell p))) : Tr δ μ ε (δ.set i (some (.d (cellD c)))) (del μ p) (ε.set i (some (.d (cellD c)))) := by
  have hl := m.len
  have ici : isC ε i := isC_of (getC_c hc)
  refine ⟨⟨by simp [hl], fun j y h => ?_, fun j c h => ?_, fun j k q hj hk h1 h2 => ?_⟩, fun b d h n => ?_, fun j c h => ?_, fun j c h => ?_, fun q h => ?_, by simp⟩
  · by_cases e : i = j
    · subst e
      obtain ⟨a, b⟩ := get_set h
      cases a
      rw [List.getElem?_set_self (by omega)]
    · rw [List.getElem?_set_ne e] at h ⊢
      exact m.dat j y h
  · by_cases e : i = j
    · subst e
      obtain ⟨a, b⟩ := getC_same h
      rcases a with a | a <;> cases a
    · rw [getC_ne e] at h
      rw [List.getElem?_set_ne e]
      obtain ⟨q, h1, h2⟩ := m.cel j c h
      refine ⟨q, h1, ?_⟩
      rw [del_ne (fun z => e (by subst z; exact m.apart i j q ici (isC_of h) hp h1)), h2]
  · by_cases e : i = j
    · subst e
      obtain ⟨c, hc⟩ := isC_some hj
      obtain ⟨a, b⟩ := getC_same hc
      rcases a with a | a <;> cases a
    · by_cases e2 : i = k
      · subst e2
        obtain ⟨c, hc⟩ := isC_some hk
        obtain ⟨a, b⟩ := getC_same hc
        rcases a with a | a <;> cases a
      · unfold isC at hj hk
        rw [getC_ne e] at hj
        rw [getC_ne e2] at hk
        rw [List.getElem?_set_ne e] at h1
        rw [List.getElem?_set_ne e2] at h2
        exact m.apart j k q hj hk h1 h2
  · rw [del_ne (fun z => n (by subst z; exact ⟨i, ici, hp⟩)), h]
  · have e : i ≠ j := fun e => by subst e; rw [hc] at h; cases h
    rw [List.getElem?_set_ne e, List.getElem?_set_ne e]
    exact ⟨⟨c, h⟩, rfl⟩
  · by_cases e : i = j
    · subst e
      obtain ⟨a, b⟩ := get_set h
      cases a
    · rw [List.getElem?_set_ne e] at h
      exact ⟨c, h⟩
  · obtain ⟨j, c, h1, h2⟩ := h
    by_cases e : i = j
    · subst e
      obtain ⟨a, b⟩ := get_set h1
      cases a
    · rw [List.getElem?_set_ne e] at h1 h2
      exact .inl ⟨j, c, h1, h2⟩
/-- a container's slot gets another content -/
theorem TrE.write (t : TrE δ μ ε μ1 ε1) {i : Nat} {p : Addr} {c c' : Cell} (hc : getC ε1 i = some c) (hp : δ[i]? = some (some (.cell p))) : TrE δ μ ε (put μ1 p c') (setC ε1 i c') := by
  have hl := t.mt.len
  have ici : isC ε1 i := isC_of hc
  have hgi : getC (setC ε1 i c') i = some c' := by
    rcases getC_some hc with h | h
    · unfold setC; rw [h]
      exact getC_c (List.getElem?_set_self (List.getElem?_eq_some_iff.mp h).1)
    · unfold setC; rw [h]
      exact getC_b (List.getElem?_set_self (List.getElem?_eq_some_iff.mp h).1)
  have hgj : ∀ j, i ≠ j → (setC ε1 i c')[j]? = ε1[j]? := fun j e => by
    unfold setC; split <;> first | rfl | rw [List.getElem?_set_ne e]
  have hgc : ∀ j, i ≠ j → getC (setC ε1 i c') j = getC ε1 j := fun j e => by unfold getC; rw [hgj j e]
  have hln : (setC ε1 i c').length = ε1.length := by unfold setC; split <;> simp
  have kd : Kd ε1 (setC ε1 i c') := ⟨hln, fun j v h => by
    by_cases e : i = j
    · subst e
      rcases getC_some hc with h2 | h2
      · rw [h2] at h; cases h
        exact ⟨some (.c c'), by unfold setC; rw [h2]; exact List.getElem?_set_self (List.getElem?_eq_some_iff.mp h2).1, c', rfl⟩
      · rw [h2] at h; cases h
        exact ⟨some (.b c'), by unfold setC; rw [h2]; exact List.getElem?_set_self (List.getElem?_eq_some_iff.mp h2).1, c', rfl⟩
    · exact ⟨v, by rw [hgj j e]; exact h, same1_refl v⟩⟩
  refine ⟨⟨by rw [hln]; exact hl, fun j y h => ?_, fun j d h => ?_, fun j k q hj hk h1 h2 => t.mt.apart j k q (kd.isC.mpr hj) (kd.isC.mpr hk) h1 h2⟩, fun b d h n => ?_, t.kd.trans kd⟩
  · by_cases e : i = j
    · subst e
      rcases getC_some hgi with g | g <;> (rw [g] at h; cases h)
    · rw [hgj j e] at h
      exact t.mt.dat j y h
  · by_cases e : i = j
    · subst e
      rw [hgi] at h; cases h
      exact ⟨p, hp, put_same⟩
    · rw [hgc j e] at h
      obtain ⟨q, h1, h2⟩ := t.mt.cel j d h
      exact ⟨q, h1, by rw [put_ne (fun z => e (by subst z; exact t.mt.apart i j q ici (isC_of h) hp h1)), h2]⟩
  · rw [put_ne (fun z => n (by subst z; exact t.kd.adr.mpr ⟨i, ici, hp⟩))]
    exact t.fr b d h n
end
/-! ### names set -/
def setR (i : Nat) (r : FR) (ε : FSt) : R Flow := match isBb ε i, frV r with
  | false, some x => .ok .nx (ε.set i (some x))
  | _, _ => .no
def fsAsg (i : Nat) (fe : FT) : FS := fun ε => (fe ε).bind (setR i)
theorem setR_val {i : Nat} {x : PyData} {ε : FSt} (h : isBb ε i = false) : setR i (.val x) ε = .ok .nx (ε.set i (some (.d x))) := by unfold setR; rw [h]; rfl
theorem setR_own {i : Nat} {c : Cell} {ε : FSt} (h : isBb ε i = false) : setR i (.own c) ε = .ok .nx (ε.set i (some (.c c))) := by unfold setR; rw [h]; rfl
theorem setR_fit {δ : DSt} {μ μ1 : Mu} {ε ε1 : FSt} {D : DEnds} {i : Nat} {r : FR} {v : DV} (m : Mt δ μ ε) (t : TrE δ μ ε μ1 ε1) (rf : RF δ μ ε1 μ1 r v) (h : fitS D δ μ ε (setR i r ε1)) : D.nx (δ.set i (some v)) μ1 := by
  unfold setR at h
  split at h
  · next x h1 h2 => exact h _ _ (t.setS m rf h1 h2)
  · exact h.elim
section
variable {X : Cx} {pos : Pos} {st : Stmt} {e : Expr} {fe : FT}
theorem fs_asg {i : Nat} {x : Str} {pos' : Pos} (hN : X.N.Nodup) (hi : X.N[i]? = some x) (hx : Loc X.env.scope x) (he : FE X e fe) (hs : swapsWith e (some (.Name x pos')) pos.line X.env = pure false := by rfl) (hf : X.fn x = true ∨ X.env.scope.names.lookup x = some .local := by first | exact .inl rfl | exact .inr rfl | assumption) :
    FSt1 X (.Assign [.Name x pos'] e pos) (fsAsg i fe) := s_imp (s_set hN hi hx he hs hf) fun D δ μ ⟨ε, m, h⟩ => useSE m h fun r ε1 v μ1 t p h1 => setR_fit m t p h1
/-! ### a container becomes data -/
def fsFrz (i : Nat) : FS := fun ε => match ε[i]? with
  | some (some (.c c)) => .ok .nx (ε.set i (some (.d (cellD c))))
  | some (some (.d _)) => .ok .nx ε
  | _ => .no
theorem freeze_dct {K : PySem.W.Frag} {μ : Mu} {H : Hp} (m : RM K μ H) {p : Addr} {kvs : List (Key × PyData)} (h : μ p = some (.dct kvs)) : Da K (hid (del μ p) H) (.ref p) (cellD (.dct kvs)) := by
  obtain ⟨ks, h1, h2, h3⟩ := m p _ h
  have := Da.dct (K := K) (H := hid (del μ p) H) (a := p) (kvs := ks) (by rw [hid_of del_same]; exact h1) (h3.mono ext_freeze)
  have e : ((ks.map fun q => kD q.1).zip (kvs.map (·.2))) = kvs.map fun p => (kD p.1, p.2) := by
    have : (ks.map fun p => kD p.1) = kvs.map fun p => kD p.1 := by
      have := congrArg (List.map kD) h2
      simpa [List.map_map, Function.comp_def] using this
    rw [this, List.zip_map']
  rw [e] at this
  exact this
theorem freeze_cell {K : PySem.W.Frag} {μ : Mu} {H : Hp} (m : RM K μ H) {p : Addr} {c : Cell} (h : μ p = some c) : Da K (hid (del μ p) H) (.ref p) (cellD c) := by
  cases c with
  | lst ds => exact freeze_lst m h
  | dct kvs => exact freeze_dct m h
theorem RS.frz {K : PySem.W.Frag} {μ : Mu} {H : Hp} {σ : L2.St} {δ : DSt} (rs : RS K μ H σ δ) (rm : RM K μ H) {i : Nat} {p : Addr} {c : Cell} (hc : μ p = some c) (hp : δ[i]? = some (some (.cell p))) : RS K (del μ p) H σ (δ.set i (some (.d (cellD c)))) := by
  refine ⟨by rw [List.length_set]; exact rs.1, fun j d h => ?_⟩
  by_cases e : i = j
  · subst e
    obtain ⟨a, b⟩ := get_set h
    cases a
    obtain ⟨v, h1, h2⟩ := rs.2 i _ hp
    cases (show v = .ref p from h2)
    exact ⟨_, h1, freeze_cell rm hc⟩
  · rw [List.getElem?_set_ne e] at h
    obtain ⟨v, h1, h2⟩ := rs.2 j d h
    exact ⟨v, h1, h2.mono ext_freeze⟩
theorem fs_frz {f : FS} {i : Nat} (h : FSt1 X st f) : FSt1 X st (fsSeq (fsFrz i) f) := ps_imp h fun D σ H ⟨δ, μ, Dd, rs, rm, ⟨ε, m, q⟩, w⟩ => by
  unfold fsSeq fsFrz at q
  split at q
  · next c hc =>
    obtain ⟨p, h1, h2⟩ := m.cel i c (getC_c hc)
    have t := Tr.frz m hc h1
    exact ⟨_, del μ p, Dd, RS.frz rs rm h2 h1, rm.freeze, upFS_next m t q, w.step ext_freeze⟩
  · exact ⟨δ, μ, Dd, rs, rm, ⟨ε, m, q⟩, w⟩
  · exact q.elim
end
/-! ### a new container as data -/
def frz (f : FT) : FT := fun ε => (f ε).bind fun r ε1 => match r with
  | .own c => .ok (.val (cellD c)) ε1
  | .val x => .ok (.val x) ε1
  | .ref _ => .no
theorem d_frz {X : Cx} {e : Expr} {t : DT} (h : DE X e t) : DE X e (fun δ μ Q => t δ μ fun v μ1 => match v with
    | .cell p => ∃ c, μ1 p = some c ∧ Q (.d (cellD c)) (del μ1 p)
    | .d x => Q (.d x) μ1) := pe_imp h fun σ H Q ⟨δ, μ, Qd, rs, rm, q, w⟩ => up_use rs rm q fun d μ1 v H1 e1 m1 r1 q1 => by
  cases d with
  | d x => exact w (.d x) μ1 v H1 e1 m1 r1 q1
  | cell p =>
    obtain ⟨c, hc, q1⟩ := q1
    cases (show v = .ref p from r1)
    exact w (.d (cellD c)) (del μ1 p) _ H1 (e1.trans ext_freeze) m1.freeze (freeze_cell m1 hc) q1
theorem TrE.drop {δ : DSt} {μ μ1 : Mu} {ε ε1 : FSt} (m : Mt δ μ ε) (t : TrE δ μ ε μ1 ε1) {p : Addr} (hp : μ p = none) : TrE δ μ ε (del μ1 p) ε1 := by
  refine ⟨⟨t.mt.len, t.mt.dat, fun i c h => ?_, t.mt.apart⟩, fun b d h n => ?_, t.kd⟩
  · obtain ⟨q, h1, h2⟩ := t.mt.cel i c h
    refine ⟨q, h1, ?_⟩
    rw [del_ne (fun z => ?_), h2]
    subst z
    obtain ⟨c2, hc⟩ := m.adr (t.kd.adr.mpr ⟨i, isC_of h, h1⟩)
    rw [hp] at hc; cases hc
  · rw [del_ne (fun z => by subst z; rw [hp] at h; cases h)]
    exact t.fr b d h n
theorem f_frz {X : Cx} {e : Expr} {f : FT} (h : FE X e f) : FE X e (frz f) := d_imp (d_frz h) fun δ μ Q ⟨ε, m, h⟩ => use1 m h fun r ε1 v μ1 e t rf h1 => by
  cases r with
  | val x => cases (show v = .d x from rf); exact h1 _ _ t rfl
  | ref i => exact h1.elim
  | own c =>
    obtain ⟨p, rfl, h2, h3⟩ := rf
    exact ⟨c, h2, h1 _ _ (t.drop m h3) rfl⟩
end FL

namespace FL
open PySem PySem.Spec PyProof.Rows L2 DL
/-! ### methods that change a list -/
section
variable {X : Cx} {pos apos cpos : Pos} {st : Stmt} {e o b : Expr} {es : List Expr} {fe fo fi : FT} {fr : FTA}
/-- what a method makes of a list: what it tells, and the list then -/
abbrev GM := List PyData → List PyData → Option (PyData × List PyData)
structure MutOk (K : PySem.W.Frag) (r : V → List V → Hp → VK → Prop) (g : GM) : Prop where
  use : ∀ {H : Hp} {μ : Mu} {p : Addr} {vs us : List V} {xs ys xs' : List PyData} {z : PyData}, H p = some (.lst vs) → DaAll K (hid μ H) vs xs → DaAll K (hid μ H) us ys → g xs ys = some (z, xs') →
    ∃ w vs', (∀ Q : VK, Q w (upd H p (.lst vs')) → r (.ref p) us H Q) ∧ DaAll K (hid μ H) vs' xs' ∧ Da K (hid μ H) w z
def fMut (g : GM) (fo : FT) (fr : FTA) : FT := fun ε => (fo ε).bind fun o ε1 => match o with
  | .ref i => (fr ε1).bind fun as ε2 => match getC ε1 i, getC ε2 i, vals as with
    | some (.lst _), some (.lst xs), some ys => match g xs ys with
      | some (z, xs') => .ok (.val z) (setC ε2 i (.lst xs'))
      | none => .no
    | _, _, _ => .no
  | _ => .no
def dMut (g : GM) (to : DT) (tr : DTA) : DT := fun δ μ Q => to δ μ fun x μ1 => match x with
  | .cell p => (∃ ys, μ1 p = some (.lst ys)) ∧ tr δ μ1 fun as μ2 => ∃ xs ys z xs', μ2 p = some (.lst xs) ∧ allD as = some ys ∧ g xs ys = some (z, xs') ∧ Q (.d z) (put μ2 p (.lst xs'))
  | _ => False
theorem d_mut {g : GM} {r : V → List V → Hp → VK → Prop} {name : Str} {id : String} {to : DT} {tr : DTA} (M : MutOk X.K r g) (pa : PlainAttrs "list") (slot : Slot "list" name id) (hty : typeOf (.builtin id) = pure (.type "method_descriptor")) (hm : MtR X id r) (ho : DE X o to) (ha : DA X (e :: es) tr)
    (hbase : attributeBase o name X.env (eval o X.env) = eval o X.env := by rfl)
    (hfew : ((backTo cpos (starEach (e :: es) X.env)).all (fun x => !x.1) && (backToKw cpos (keywordEach [] X.env)).all (fun x => x.1.isSome)
      && decide ((e :: es).length + ([] : List Keyword).length + (if ([] : List Keyword).isEmpty then 0 else 1) < 30)) = true := by rfl)
    (hline : (apos.endLine == cpos.line) = true := by rfl) (hs : starEach (e :: es) X.env = (false, eval e X.env) :: starEach es X.env := by rfl) (hplain : (backTo cpos (starEach es X.env)).any (·.1) = false := by rfl) :
    DE X (.Call (.Attribute o name apos) (e :: es) [] cpos) (dMut g to tr) :=
  pe_imp (pe_bm pa slot hty hm ho ha hbase hfew hline hs hplain) fun σ H Q ⟨δ, μ, Qd, rs, rm, q, w⟩ => up_use rs rm q fun x μ1 v H1 e1 m1 r1 q1 => by
    cases x with
    | d x => exact q1.elim
    | cell p =>
      obtain ⟨⟨ys, hy⟩, q1⟩ := q1
      cases (show v = .ref p from r1)
      obtain ⟨vs0, h01, h02⟩ := m1 p _ hy
      refine ⟨.inl ⟨rfl, vs0, .of h01⟩, upA_use (rs.mono e1) m1 q1 fun as μ2 us H2 e2 m2 r2 ⟨xs, ys, z, xs', h1, h2, h3, q2⟩ => ?_⟩
      obtain ⟨vs, g1, g2⟩ := m2 p _ h1
      obtain ⟨w', vs', k1, k2, k3⟩ := M.use g1 g2 (allD_da h2 r2) h3
      refine k1 _ (w (.d z) (put μ2 p (.lst xs')) _ _ (e1.trans (e2.trans (ext_write h1))) (m2.write (c := .lst xs') h1 ⟨vs', upd_same, k2.mono (ext_write h1)⟩) (k3.mono (ext_write h1)) q2)
theorem d_mut0 {g : GM} {r : V → List V → Hp → VK → Prop} {name : Str} {id : String} {to : DT} (M : MutOk X.K r g) (pa : PlainAttrs "list") (slot : Slot "list" name id) (hty : typeOf (.builtin id) = pure (.type "method_descriptor")) (hm : MtR X id r) (ho : DE X o to)
    (hbase : attributeBase o name X.env (eval o X.env) = eval o X.env := by rfl) (hline : (apos.endLine == cpos.line) = true := by rfl) :
    DE X (.Call (.Attribute o name apos) [] [] cpos) (dMut g to aNil) :=
  pe_imp (pe_bm0 pa slot hty hm ho hbase hline) fun σ H Q ⟨δ, μ, Qd, rs, rm, q, w⟩ => up_use rs rm q fun x μ1 v H1 e1 m1 r1 q1 => by
    cases x with
    | d x => exact q1.elim
    | cell p =>
      obtain ⟨⟨ys, hy⟩, xs, ys, z, xs', h1, h2, h3, q2⟩ := q1
      cases (show v = .ref p from r1)
      obtain ⟨vs0, h01, h02⟩ := m1 p _ hy
      refine ⟨.inl ⟨rfl, vs0, .of h01⟩, ?_⟩
      obtain ⟨vs, g1, g2⟩ := m1 p _ h1
      cases h2
      obtain ⟨w', vs', k1, k2, k3⟩ := M.use g1 g2 .nil h3
      refine k1 _ (w (.d z) (put μ1 p (.lst xs')) _ _ (e1.trans (ext_write h1)) (m1.write (c := .lst xs') h1 ⟨vs', upd_same, k2.mono (ext_write h1)⟩) (k3.mono (ext_write h1)) q2)
theorem up_fMut {g : GM} : ∀ δ μ Q, upF (fMut g fo fr) δ μ Q → dMut g (upF fo) (upFA fr) δ μ Q := fun δ μ Q ⟨ε, m, h⟩ => use1 m h fun o ε1 v μ1 e t rf h1 => by
  cases o with
  | val x => exact h1.elim
  | own c => exact h1.elim
  | ref i =>
    obtain ⟨hc, p, rfl, hp⟩ := rf
    obtain ⟨c0, hc0⟩ := isC_some hc
    obtain ⟨q, h2, h3⟩ := t.mt.cel i c0 hc0
    rw [hp] at h2; cases h2
    have h1 : fit (fun r v μ' ε' => RF δ μ ε' μ' r v) δ μ ε Q ((fr ε1).bind fun as ε2 => match getC ε1 i, getC ε2 i, vals as with
      | some (.lst _), some (.lst xs), some ys => match g xs ys with
        | some (z, xs') => .ok (.val z) (setC ε2 i (.lst xs'))
        | none => .no
      | _, _, _ => .no) := h1
    have hl : ∃ ys, c0 = .lst ys := by
      cases c0 with
      | lst ys => exact ⟨ys, rfl⟩
      | dct kvs =>
        rw [hc0] at h1
        obtain ⟨a, ε', e2, _⟩ := fit_ok h1
        cases e3 : fr ε1 with
        | no => rw [e3] at e2; cases e2
        | ex _ _ => rw [e3] at e2; cases e2
        | ok a ε => rw [e3] at e2; cases e2
    obtain ⟨ys, rfl⟩ := hl
    refine ⟨⟨ys, h3⟩, useA (P := fun r v μ' ε' => RF δ μ ε' μ' r v) t.mt (fit_step t h1 fun _ _ _ _ _ p => p) fun as ε2 vs μ2 e2 t2 rf2 h4 => ?_⟩
    rw [hc0] at h4
    split at h4
    · next xs ys' g1 g2 g3 =>
      split at h4
      · next z xs' g4 =>
        obtain ⟨q2, k1, k2⟩ := t2.mt.cel i _ g2
        rw [hp] at k1; cases k1
        exact ⟨xs, ys', z, xs', k2, vals_allD rf2 g3, g4, h4 _ _ (t2.write g2 hp) rfl⟩
      · exact h4.elim
    · exact h4.elim
theorem f_mut {g : GM} {r : V → List V → Hp → VK → Prop} {name : Str} {id : String} (M : MutOk X.K r g) (pa : PlainAttrs "list") (slot : Slot "list" name id) (hty : typeOf (.builtin id) = pure (.type "method_descriptor")) (hm : MtR X id r) (ho : FE X o fo) (ha : FA X (e :: es) fr)
    (hbase : attributeBase o name X.env (eval o X.env) = eval o X.env := by rfl)
    (hfew : ((backTo cpos (starEach (e :: es) X.env)).all (fun x => !x.1) && (backToKw cpos (keywordEach [] X.env)).all (fun x => x.1.isSome)
      && decide ((e :: es).length + ([] : List Keyword).length + (if ([] : List Keyword).isEmpty then 0 else 1) < 30)) = true := by rfl)
    (hline : (apos.endLine == cpos.line) = true := by rfl) (hs : starEach (e :: es) X.env = (false, eval e X.env) :: starEach es X.env := by rfl) (hplain : (backTo cpos (starEach es X.env)).any (·.1) = false := by rfl) :
    FE X (.Call (.Attribute o name apos) (e :: es) [] cpos) (fMut g fo fr) := d_imp (d_mut M pa slot hty hm ho ha hbase hfew hline hs hplain) up_fMut
theorem upFA_nil : ∀ δ μ Q, upFA faNil δ μ Q → aNil δ μ Q := fun δ μ Q ⟨ε, m, h⟩ => h _ _ (.refl m) .nil
theorem dMut_arg {g : GM} {to : DT} {tr tr' : DTA} (w : ∀ δ μ Q, tr δ μ Q → tr' δ μ Q) (hto : ∀ δ μ (Q Q' : DV → Mu → Prop), to δ μ Q → (∀ v μ', Q v μ' → Q' v μ') → to δ μ Q') : ∀ δ μ Q, dMut g to tr δ μ Q → dMut g to tr' δ μ Q := fun δ μ Q h => hto _ _ _ _ h fun v μ' q => by
  cases v with
  | d x => exact q
  | cell p => exact ⟨q.1, w _ _ _ q.2⟩
theorem upF_mono {f : FT} : ∀ δ μ (Q Q' : DV → Mu → Prop), upF f δ μ Q → (∀ v μ', Q v μ' → Q' v μ') → upF f δ μ Q' := fun δ μ Q Q' ⟨ε, m, h⟩ w => ⟨ε, m, by
  cases e : f ε with
  | no => rw [e] at h; exact h
  | ex _ _ => rw [e] at h; exact h
  | ok r ε1 => rw [e] at h; exact fun v μ' t p => w _ _ (h v μ' t p)⟩
theorem f_mut0 {g : GM} {r : V → List V → Hp → VK → Prop} {name : Str} {id : String} (M : MutOk X.K r g) (pa : PlainAttrs "list") (slot : Slot "list" name id) (hty : typeOf (.builtin id) = pure (.type "method_descriptor")) (hm : MtR X id r) (ho : FE X o fo)
    (hbase : attributeBase o name X.env (eval o X.env) = eval o X.env := by rfl) (hline : (apos.endLine == cpos.line) = true := by rfl) :
    FE X (.Call (.Attribute o name apos) [] [] cpos) (fMut g fo faNil) := d_imp (d_mut0 M pa slot hty hm ho hbase hline) fun δ μ Q h => dMut_arg upFA_nil upF_mono δ μ Q (up_fMut δ μ Q h)
/-! append, pop -/
noncomputable def gAppend : GM := fun xs ys => match ys with
  | [y] => req (xs.length < 1000000) (some (.none, xs ++ [y]))
  | _ => none
theorem m_append {K : PySem.W.Frag} : MutOk K rAppend gAppend := ⟨fun {H μ p vs us xs ys xs' z} h1 h2 h3 h4 => by
  unfold gAppend at h4
  split at h4
  · next y =>
    obtain ⟨hl, e⟩ := req_some h4
    cases e
    cases h3 with
    | cons a t =>
      cases t
      exact ⟨.non, vs ++ [_], fun Q q => ⟨p, vs, _, rfl, rfl, h1, by rw [h2.length]; exact Nat.lt_of_lt_of_le hl (by decide), q⟩, h2.append (.cons a .nil), .non⟩
  · cases h4⟩
def gPop : GM := fun xs ys => match ys with
  | [] => (xs[xs.length - 1]?).map fun y => (y, xs.dropLast)
  | _ => none
theorem DaAll.dropLast {K : PySem.W.Frag} {H : Hp} {vs : List V} {ds : List PyData} (h : DaAll K H vs ds) : DaAll K H vs.dropLast ds.dropLast := by
  rw [List.dropLast_eq_take, List.dropLast_eq_take, h.length]
  exact h.take _
theorem m_pop {K : PySem.W.Frag} : MutOk K rPop gPop := ⟨fun {H μ p vs us xs ys xs' z} h1 h2 h3 h4 => by
  unfold gPop at h4
  split at h4
  · simp only [Option.map_eq_some_iff] at h4
    obtain ⟨y, e1, e2⟩ := h4
    cases e2
    cases h3
    obtain ⟨v, g1, g2⟩ := h2.get e1
    exact ⟨v, vs.dropLast, fun Q q => ⟨p, vs, v, rfl, rfl, h1, by rw [h2.length]; exact g1, q⟩, DaAll.dropLast h2, g2⟩
  · cases h4⟩
noncomputable def gPopAt : GM := fun xs ys => match ys with
  | [.int i] => (seqIndex? i xs.length).bind fun k => (xs[k]?).bind fun y => req (-(2 ^ 63) ≤ i ∧ i < 2 ^ 63) (some (y, xs.eraseIdx k))
  | _ => none
theorem DaAll.eraseIdx {K : PySem.W.Frag} {H : Hp} : ∀ {vs : List V} {ds : List PyData} (k : Nat), DaAll K H vs ds → DaAll K H (vs.eraseIdx k) (ds.eraseIdx k)
  | _, _, _, .nil => .nil
  | _, _, 0, .cons _ t => t
  | _, _, k + 1, .cons a t => .cons a (DaAll.eraseIdx k t)
theorem m_popAt {K : PySem.W.Frag} : MutOk K rPopAt gPopAt := ⟨fun {H μ p vs us xs ys xs' z} h1 h2 h3 h4 => by
  unfold gPopAt at h4
  split at h4
  · next i =>
    simp only [Option.bind_eq_some_iff] at h4
    obtain ⟨k, e1, y, e2, e3⟩ := h4
    obtain ⟨⟨l1, l2⟩, e4⟩ := req_some e3
    cases e4
    cases h3 with
    | cons a t =>
      cases t
      cases a
      obtain ⟨v, g1, g2⟩ := h2.get e2
      exact ⟨v, vs.eraseIdx k, fun Q q => ⟨p, vs, i, k, v, rfl, rfl, h1, l1, l2, by rw [h2.length]; exact e1, g1, q⟩, DaAll.eraseIdx k h2, g2⟩
  · cases h4⟩
/-! ### o[i] = e, a list -/
def setI (o : FR) (k : Option PyData) (r : FR) (ε : FSt) : R Flow := match r, o, k with
  | .val x, .ref i, some (.int n) => match getC ε i with
    | some (.lst xs) => match ixN xs.length n with
      | some j => .ok .nx (setC ε i (.lst (xs.set j x)))
      | none => .no
    | _ => .no
  | _, _, _ => .no
def fsSetI (fo fi fe : FT) : FS := fun ε => (fe ε).bind fun r ε1 => (fo ε1).bind fun o ε2 => (fi ε2).bind fun k ε3 => setI o (see ε3 k) r ε3
theorem look_int' {μ : Mu} {v : DV} {i : Int} (h : look μ v = some (.int i)) : v = .d (.int i) := by
  cases v with
  | d y => cases (show y = _ from Option.some.inj h); rfl
  | cell p =>
    have h : (μ p).map cellD = some _ := h
    cases e : μ p with
    | none => rw [e] at h; cases h
    | some c => rw [e] at h; cases c <;> cases h
theorem fs_setI {tpos : Pos} (ho : FE X o fo) (hi : FE X b fi) (he : FE X e fe)
    (ha : ∀ v, assign (.Subscript o b tpos) X.env v = (do
      let ov ← holding [v] (eval o X.env)
      let iv ← holding [v, ov] (eval b X.env)
      standAt tpos
      holding [v, ov, iv] (setItem ov iv v)
      release [v, ov, iv] []) := by intro _; rfl)
    (hs : swapsWithSole [.Subscript o b tpos] e pos.line X.env = pure false := by rfl) (hw : swappedStores [.Subscript o b tpos] e X.env = pure none := by rfl)
    (h1 : (assignEach [.Subscript o b tpos] X.env).map (·.2) = [assign (.Subscript o b tpos) X.env] := by rfl) : FSt1 X (.Assign [.Subscript o b tpos] e pos) (fsSetI fo fi fe) :=
  s_imp (s_asg he (g_subL ho hi ha) hs hw h1) fun D δ μ ⟨ε, m, h⟩ => useSE m h fun r ε1 v μ1 t p h1 =>
    useSE t.mt (fitS_step m t.tr h1) fun o ε2 ov μ2 t2 p2 h2 => useSE (δ := δ) t2.mt (fitS_step t.mt t2.tr h2) fun k ε3 kv μ3 t3 p3 h3 => by
      unfold setI at h3
      split at h3
      · next x i n ek =>
        cases (show v = .d x from p)
        obtain ⟨hc, q, rfl, hq⟩ := p2
        cases look_int' (see_look t3.mt p3 ek)
        split at h3
        · next xs ec =>
          split at h3
          · next j ej =>
            obtain ⟨q', k1, k2⟩ := t3.mt.cel i _ ec
            rw [hq] at k1; cases k1
            show rdSetL _ _ _ _ _
            unfold rdSetL
            simp only [k2, ej]
            exact h3 _ _ (t3.write ec hq).tr
          · exact h3.elim
        · exact h3.elim
      · exact h3.elim
end
end FL

namespace FL
open PySem PySem.Spec PyProof.Rows L2 DL
/-! ### targets that are given data -/
abbrev GF := PyData → FSt → Option FSt
structure TGd (gd : DTG) (gf : GF) : Prop where
  ok : ∀ {d : PyData} {δ : DSt} {μ : Mu} {ε ε' : FSt}, Mt δ μ ε → gf d ε = some ε' → ∃ δ', Tr δ μ ε δ' μ ε' ∧ ∀ K : DSt → Mu → Prop, K δ' μ → gd (.d d) δ μ K
def tgN (i : Nat) : GF := fun d ε => if isBb ε i = true then none else some (ε.set i (some (.d d)))
def setAllF : List Nat → List PyData → FSt → Option FSt
  | i :: is, x :: xs, ε => if isBb ε i = true then none else setAllF is xs (ε.set i (some (.d x)))
  | _, _, ε => some ε
def tgT (is : List Nat) : GF := fun d ε => match d with
  | .tuple xs => if xs.length = is.length then setAllF is xs ε else none
  | _ => none
theorem tgd_name {i : Nat} : TGd (gdName i) (tgN i) := ⟨fun {d δ μ ε ε'} m h => by
  unfold tgN at h
  split at h
  · cases h
  · next hb =>
    cases h
    exact ⟨_, Tr.setD m (by simpa using hb), fun K k => k⟩⟩
theorem setAllF_tr : ∀ {is : List Nat} {xs : List PyData} {δ : DSt} {μ : Mu} {ε ε' : FSt}, Mt δ μ ε → setAllF is xs ε = some ε' → Tr δ μ ε (setAll is xs δ) μ ε'
  | [], [], _, _, _, _, m, h => by cases h; exact .refl m
  | [], _ :: _, _, _, _, _, m, h => by cases h; exact .refl m
  | _ :: _, [], _, _, _, _, m, h => by cases h; exact .refl m
  | i :: is, x :: xs, δ, μ, ε, ε', m, h => by
    unfold setAllF at h
    split at h
    · cases h
    · next hb =>
      have t := Tr.setD (x := x) m (i := i) (by simpa using hb)
      exact t.trans m (setAllF_tr t.mt h)
theorem tgd_tup {is : List Nat} : TGd (gdTup is) (tgT is) := ⟨fun {d δ μ ε ε'} m h => by
  unfold tgT at h
  split at h
  · next xs =>
    split at h
    · next hl => exact ⟨_, setAllF_tr m h, fun K k => ⟨hl, k⟩⟩
    · cases h
  · cases h⟩
/-! ### what is walked -/
abbrev FTI := FSt → R (List PyData)
def upFI (f : FTI) : DTI := fun δ μ Q => ∃ ε, Mt δ μ ε ∧ fit (fun r v _ _ => v = r) δ μ ε Q (f ε)
abbrev FI (b : Bool) (X : Cx) (tg iter : Expr) (f : FTI) : Prop := DI b X tg iter (upFI f)
theorem di_imp {b : Bool} {X : Cx} {tg iter : Expr} {t t' : DTI} (h : DI b X tg iter t) (w : ∀ δ μ Q, t' δ μ Q → t δ μ Q) : DI b X tg iter t' := pi_imp h fun σ H R ⟨δ, μ, Qd, rs, rm, q, z⟩ => ⟨δ, μ, Qd, rs, rm, w _ _ _ q, z⟩
theorem di_or {b : Bool} {X : Cx} {tg iter : Expr} {t u : DTI} (h : DI b X tg iter t) (g : DI b X tg iter u) : DI b X tg iter (fun δ μ Q => t δ μ Q ∨ u δ μ Q) := ⟨fun pins s σ H R I ⟨δ, μ, Qd, rs, rm, q, w⟩ => by
  rcases q with q | q
  · exact h.run pins s σ H R I ⟨δ, μ, Qd, rs, rm, q, w⟩
  · exact g.run pins s σ H R I ⟨δ, μ, Qd, rs, rm, q, w⟩⟩
section
variable {X : Cx} {pos : Pos} {tg iter a b c e elt : Expr} {fe fa fb : FT} {es ifs : List Expr} {fr : FTA} {wi : FTI} {body : List Stmt} {fB : FS} {gd : DTG} {gf : GF} {scope : Scope} {own : List (Str × Nat)} {g : TG} {vs : List Nat}
def fiSeq (fe : FT) : FTI := fun ε => (fe ε).bind fun r ε1 => match (seeV r).bind itemsOf with
  | some xs => .ok xs ε1
  | none => .no
theorem fi_seq (h : FE X e fe) : FI true X tg e (fiSeq fe) := di_imp (di_or (i_list h) (i_tup h)) fun δ μ Q ⟨ε, m, h⟩ => by
  have key : (∃ xs ε1, fe ε = .ok (.val (.list xs)) ε1) ∨ ∃ xs ε1, fe ε = .ok (.val (.tuple xs)) ε1 := by
    unfold fiSeq at h
    cases e : fe ε with
    | no => rw [e] at h; exact h.elim
    | ex _ _ => rw [e] at h; exact h.elim
    | ok r ε1 =>
      rw [e, R.bind_ok] at h
      cases r with
      | ref i => exact h.elim
      | own c => exact h.elim
      | val x =>
        cases x with
        | list xs => exact .inl ⟨xs, ε1, rfl⟩
        | tuple xs => exact .inr ⟨xs, ε1, rfl⟩
        | _ => exact h.elim
  rcases key with ⟨xs, ε1, e⟩ | ⟨xs, ε1, e⟩
  · refine .inl (use1 m h fun r ε2 v μ1 e2 t rf h1 => ?_)
    rw [e] at e2
    cases e2
    cases (show v = _ from rf)
    exact h1 xs μ1 t rfl
  · refine .inr (use1 m h fun r ε2 v μ1 e2 t rf h1 => ?_)
    rw [e] at e2
    cases e2
    cases (show v = _ from rf)
    exact h1 xs μ1 t rfl
def fiArgs (g : List PyData → Option (List PyData)) (fr : FTA) : FTI := fun ε => (fr ε).bind fun as ε1 => match (vals as).bind g with
  | some xs => .ok xs ε1
  | none => .no
theorem useI {g : List PyData → Option (List PyData)} {r : List DV → Mu → (List PyData → Mu → Prop) → Prop} (hr : ∀ ds as xs μ Q, allD ds = some as → g as = some xs → Q xs μ → r ds μ Q) : ∀ δ μ Q, upFI (fiArgs g fr) δ μ Q → upFA fr δ μ (fun ds μ1 => r ds μ1 Q) := fun δ μ Q ⟨ε, m, h⟩ => useA m h fun rs ε1 vs μ1 e t rf h1 => by
  cases ho : (vals rs).bind g with
  | none => rw [ho] at h1; exact h1.elim
  | some xs =>
    rw [ho] at h1
    simp only [Option.bind_eq_some_iff] at ho
    obtain ⟨as, e1, e2⟩ := ho
    exact hr _ _ _ _ _ (vals_allD rf e1) e2 (h1 xs μ1 t rfl)
theorem allD1 {ds : List DV} {a : PyData} (h : allD ds = some [a]) : ds = [.d a] := by
  match ds with
  | [] => cases h
  | [.d x] => simp [allD] at h; rw [h]
  | .cell _ :: _ => cases h
  | .d x :: .cell _ :: r => simp [allD] at h
  | .d x :: .d y :: r => simp [allD] at h
theorem allD2 {ds : List DV} {a b : PyData} (h : allD ds = some [a, b]) : ds = [.d a, .d b] := by
  match ds with
  | [] => cases h
  | .cell _ :: _ => cases h
  | .d x :: r =>
    simp only [allD, Option.map_eq_some_iff] at h
    obtain ⟨ys, e1, e2⟩ := h
    cases e2
    rw [allD1 e1]
theorem allD3 {ds : List DV} {a b c : PyData} (h : allD ds = some [a, b, c]) : ds = [.d a, .d b, .d c] := by
  match ds with
  | [] => cases h
  | .cell _ :: _ => cases h
  | .d x :: r =>
    simp only [allD, Option.map_eq_some_iff] at h
    obtain ⟨ys, e1, e2⟩ := h
    cases e2
    rw [allD2 e1]
end
end FL

namespace FL
open PySem PySem.Spec PyProof.Rows L2 DL
section
variable {X : Cx} {pos : Pos} {tg iter a b c e elt : Expr} {fe fa fb : FT} {es ifs : List Expr} {fr : FTA} {wi : FTI} {body : List Stmt} {fB : FS} {gd : DTG} {gf : GF} {scope : Scope} {own : List (Str × Nat)} {g : TG} {vs : List Nat}
noncomputable def reqL (p : Prop) (x : List PyData) : Option (List PyData) := req p (some x)
noncomputable def gRange1 : List PyData → Option (List PyData)
  | [.int j] => req (-(2 ^ 62) ≤ j ∧ j < 2 ^ 62) (some (rangeD 0 j.toNat))
  | _ => none
noncomputable def gRange2 : List PyData → Option (List PyData)
  | [.int i, .int j] => req (-(2 ^ 62) ≤ i ∧ i < 2 ^ 62 ∧ -(2 ^ 62) ≤ j ∧ j < 2 ^ 62) (some (rangeD i (j - i).toNat))
  | _ => none
noncomputable def gRange3 : List PyData → Option (List PyData)
  | [.int i, .int j, .int c] => req (-(2 ^ 62) ≤ i ∧ i < 2 ^ 62 ∧ -(2 ^ 62) ≤ j ∧ j < 2 ^ 62 ∧ 0 < c ∧ c < 2 ^ 62) (some (stepD i c ((j - i + (c - 1)) / c).toNat))
  | _ => none
noncomputable def gDown : List PyData → Option (List PyData)
  | [.int j] => req (-(2 ^ 62) ≤ j ∧ j < 2 ^ 62) (some (downD j.toNat))
  | _ => none
def gEnum : List PyData → Option (List PyData)
  | [.list xs] => some (enumD 0 xs)
  | _ => none
def gZip : List PyData → Option (List PyData)
  | [.list xs, .list ys] => some (zipD xs ys)
  | [.tuple xs, .tuple ys] => some (zipD xs ys)
  | _ => none
theorem fi_range1 {p : Pos} (hg : Gl X "range") (hm : X.mg "range" = none) (ha : FA X [a] fr) (hs : starEach [a] X.env = [(false, eval a X.env)] := by rfl) : FI true X tg (.Call (.Name "range" p) [a] [] pos) (fiArgs gRange1 fr) :=
  di_imp (i_range1 hg hm ha hs) (useI fun ds as xs μ Q h1 h2 q => by
    unfold gRange1 at h2
    split at h2
    · obtain ⟨h3, e⟩ := req_some h2; cases e; rw [allD1 h1]; exact ⟨h3, q⟩
    · cases h2)
theorem fi_range2 {p : Pos} (hg : Gl X "range") (hm : X.mg "range" = none) (ha : FA X [a, b] fr) (hs : starEach [a, b] X.env = [(false, eval a X.env), (false, eval b X.env)] := by rfl) (hs2 : starEach [b] X.env = [(false, eval b X.env)] := by rfl) : FI true X tg (.Call (.Name "range" p) [a, b] [] pos) (fiArgs gRange2 fr) :=
  di_imp (i_range2 hg hm ha hs hs2) (useI fun ds as xs μ Q h1 h2 q => by
    unfold gRange2 at h2
    split at h2
    · obtain ⟨h3, e⟩ := req_some h2; cases e; rw [allD2 h1]; exact ⟨h3, q⟩
    · cases h2)
theorem fi_down {p p2 pos2 : Pos} (hg : Gl X "reversed") (hm : X.mg "reversed" = none) (hg2 : Gl X "range") (hm2 : X.mg "range" = none) (ha : FE X a fa) (na : starEach [a] X.env = (false, eval a X.env) :: starEach [] X.env := by rfl)
    (hs : starEach [.Call (.Name "range" p2) [a] [] pos2] X.env = (false, eval (.Call (.Name "range" p2) [a] [] pos2) X.env) :: starEach [] X.env := by rfl) :
    FI true X tg (.Call (.Name "reversed" p) [.Call (.Name "range" p2) [a] [] pos2] [] pos) (fiArgs gDown (faCons fa faNil)) :=
  di_imp (i_down hg hm hg2 hm2 ha na hs) fun δ μ Q ⟨ε, m, h⟩ => by
    have h : fit (fun r v _ _ => v = r) δ μ ε Q (((faCons fa faNil) ε).bind fun as ε1 => match (vals as).bind gDown with
      | some xs => .ok xs ε1
      | none => .no) := h
    have h2 : fit (fun r v _ _ => v = r) δ μ ε Q ((fa ε).bind fun x ε1 => match (vals [x]).bind gDown with
      | some xs => .ok xs ε1
      | none => .no) := by
      unfold faCons faNil at h
      cases e : fa ε with
      | no => rw [e] at h; exact h
      | ex _ _ => rw [e] at h; exact h
      | ok r ε1 => rw [e] at h; exact h
    refine use1 m h2 fun r ε1 v μ1 e t rf h1 => ?_
    cases ho : (vals [r]).bind gDown with
    | none => rw [ho] at h1; exact h1.elim
    | some xs =>
      rw [ho] at h1
      cases r with
      | ref i => simp [vals] at ho
      | own c => simp [vals] at ho
      | val x =>
        cases (show v = .d x from rf)
        simp only [vals, Option.map_some, Option.bind_some] at ho
        unfold gDown at ho
        split at ho
        · next j e2 =>
          obtain ⟨h3, e⟩ := req_some ho
          cases e
          cases e2
          exact ⟨h3, h1 _ μ1 t rfl⟩
        · cases ho
theorem fi_enum {p tpos : Pos} {elts : List Expr} {kk : Nat} (hg : Gl X "enumerate") (hm : X.mg "enumerate" = none) (ha : FA X [e] fr) (hs : starEach [e] X.env = [(false, eval e X.env)] := by rfl) : FI false X (.Tuple elts kk tpos) (.Call (.Name "enumerate" p) [e] [] pos) (fiArgs gEnum fr) :=
  di_imp (i_enum hg hm ha hs) (useI fun ds as xs μ Q h1 h2 q => by
    unfold gEnum at h2
    split at h2
    · cases h2; rw [allD1 h1]; exact q
    · cases h2)
/-! zip, of lists and of tuples -/
theorem walk_zipT {K : PySem.W.Frag} {μ : Mu} {H : Hp} {p r : Addr} {vs ws : List V} {ds es : List PyData} (s : SqT K (hid μ H) p vs) (t : DaAll K (hid μ H) vs ds) (s2 : SqT K (hid μ H) r ws) (t2 : DaAll K (hid μ H) ws es) : Walk false K μ H (RZ.ItzT K p r) (zipD ds es) := fun i μ' H' e m => by
  have s' : SqT K H' p vs := same_seqW unhid (same_seqW e s)
  have s2' : SqT K H' r ws := same_seqW unhid (same_seqW e s2)
  refine ⟨fun d hd => ?_, fun hd => ⟨vs, ws, s', s2', ?_⟩⟩
  · obtain ⟨x, y, hx, hy, rfl⟩ := zipD_get _ _ _ _ hd
    obtain ⟨v, h1, h2⟩ := t.get hx
    obtain ⟨u, h3, h4⟩ := t2.get hy
    refine ⟨⟨vs, ws, v, u, s', s2', h1, h3⟩, ?_⟩
    rintro z H2 ⟨T, x', y', rfl, hT, rfl, e2, e3⟩
    have e4 := e2 vs s'
    have e5 := e3 ws s2'
    rw [h1] at e4
    rw [h3] at e5
    cases e4
    cases e5
    refine ⟨ext_new hT, m.new hT, .inr ⟨T, [v, u], [x, y], rfl, rfl, .inl (.inl (hid_new m hT)), .cons ((h2.mono e).mono (ext_new hT)) (.cons ((h4.mono e).mono (ext_new hT)) .nil)⟩⟩
  · rw [t.length, t2.length]
    exact zipD_none _ _ _ hd
def dwZipA (ta : DTA) : DTI := fun δ μ Q => ta δ μ fun ds μ1 => ∃ as xs, allD ds = some as ∧ gZip as = some xs ∧ Q xs μ1
theorem i_zipA {tA : DTA} {p tpos : Pos} {elts : List Expr} {kk : Nat} (hg : Gl X "zip") (hm : X.mg "zip" = none) (ha : DA X [a, b] tA) (hs : starEach [a, b] X.env = (false, eval a X.env) :: starEach [b] X.env := by rfl) (hpl : (backTo pos (starEach [b] X.env)).any (·.1) = false := by rfl) :
    DI false X (.Tuple elts kk tpos) (.Call (.Name "zip" p) [a, b] [] pos) (dwZipA tA) :=
  pi_imp (RZ.pi_zipA hg hm ha hs hpl) fun σ H R ⟨δ, μ, Qd, rs, rm, q, w⟩ => upA_use rs rm q fun ds μ1 vs H1 e1 m1 r1 ⟨as, zs, h1, h2, q1⟩ => by
    unfold gZip at h2
    split at h2
    · next xs ys =>
      cases h2
      obtain rfl := allD2 h1
      cases r1 with
      | cons r t =>
        cases t with
        | cons r' t =>
          cases t
          cases (show Da X.K (hid μ1 H1) _ (.list xs) from r) with
          | @lst p vs _ s t =>
            cases (show Da X.K (hid μ1 H1) _ (.list ys) from r') with
            | @lst p' vs' _ s' t' => exact ⟨p, p', vs, vs', rfl, .inl ⟨unhid.seq s, unhid.seq s', w _ μ1 H1 _ e1 m1 (walk_zip s t s' t') q1⟩⟩
    · next xs ys =>
      cases h2
      obtain rfl := allD2 h1
      cases r1 with
      | cons r t =>
        cases t with
        | cons r' t =>
          cases t
          cases (show Da X.K (hid μ1 H1) _ (.tuple xs) from r) with
          | @tup p vs _ s t =>
            cases (show Da X.K (hid μ1 H1) _ (.tuple ys) from r') with
            | @tup p' vs' _ s' t' => exact ⟨p, p', vs, vs', rfl, .inr ⟨same_seqT unhid s, same_seqT unhid s', w _ μ1 H1 _ e1 m1 (walk_zipT s.t t s'.t t') q1⟩⟩
    · cases h2
theorem fi_zip {p tpos : Pos} {elts : List Expr} {kk : Nat} (hg : Gl X "zip") (hm : X.mg "zip" = none) (ha : FA X [a, b] fr) (hs : starEach [a, b] X.env = (false, eval a X.env) :: starEach [b] X.env := by rfl) (hpl : (backTo pos (starEach [b] X.env)).any (·.1) = false := by rfl) :
    FI false X (.Tuple elts kk tpos) (.Call (.Name "zip" p) [a, b] [] pos) (fiArgs gZip fr) :=
  di_imp (i_zipA hg hm ha hs hpl) (useI (r := fun ds μ1 Q => ∃ as xs, allD ds = some as ∧ gZip as = some xs ∧ Q xs μ1) fun ds as xs μ Q h1 h2 q => ⟨as, xs, h1, h2, q⟩)
/-! ### for -/
def fsGo (gf : GF) (fB : FS) : List PyData → FS
  | [] => fsNext
  | d :: ds => fun ε => match gf d ε with
    | none => .no
    | some ε1 => (fB ε1).bind fun fl ε2 => match fl with
      | .nx => fsGo gf fB ds ε2
      | .ct => fsGo gf fB ds ε2
      | .bk => .ok .nx ε2
      | .rt r => .ok (.rt r) ε2
def fsFor (wi : FTI) (gf : GF) (fB : FS) : FS := fun ε => (wi ε).bind fun ds ε1 => fsGo gf fB ds ε1
theorem forGo_up (T : TGd gd gf) {D : DEnds} : ∀ (ds : List PyData) {δ : DSt} {μ : Mu} {ε : FSt}, Mt δ μ ε → fitS D δ μ ε (fsGo gf fB ds ε) → forGo gd (upFS fB) D ds δ μ
  | [], δ, μ, ε, m, h => h δ μ (.refl m)
  | d :: ds, δ, μ, ε, m, h => by
    unfold fsGo at h
    unfold forGo
    cases e : gf d ε with
    | none => simp only [e] at h; exact h.elim
    | some ε1 =>
      simp only [e] at h
      obtain ⟨δ1, t, hk⟩ := T.ok m e
      refine hk _ ⟨ε1, t.mt, ?_⟩
      cases e2 : fB ε1 with
      | no => rw [e2] at h; exact h.elim
      | ex _ _ => rw [e2] at h; exact h.elim
      | ok fl ε2 =>
        rw [e2] at h
        have h := fitS_step m t h
        cases fl with
        | nx => exact fun δ' μ' t2 => forGo_up T ds t2.mt (fitS_step t.mt t2 h)
        | ct => exact fun δ' μ' t2 => forGo_up T ds t2.mt (fitS_step t.mt t2 h)
        | bk => exact h
        | rt r => exact h
theorem fs_for {bb : Bool} (hp : PassesOwn (model X.prog X.w) X.A X.env X.xe) (hc : X.calm = true) (hi : FI bb X tg iter wi) (hg : DG bb X tg gd) (T : TGd gd gf) (hb : FSts X body fB) (hs : ∀ (x : Value), foldedSetIterable iter X.env x = pure x := by intro _; rfl) : FSt1 X (.For tg iter body [] pos) (fsFor wi gf fB) :=
  s_imp (s_for hp hc hi hg hb hs) fun D δ μ ⟨ε, m, h⟩ => by
    refine ⟨ε, m, ?_⟩
    unfold fsFor at h
    cases e : wi ε with
    | no => rw [e] at h; exact h.elim
    | ex _ _ => rw [e] at h; exact h.elim
    | ok ds ε1 =>
      rw [e] at h
      exact fun v μ1 t p => by subst p; exact forGo_up T v t.mt (fitS_step m t.tr h)
end
end FL

namespace FL
open PySem PySem.Spec PyProof.Rows L2 DL
/-! ### slots of a comprehension's own names -/
def wipeF (ε : FSt) : List Nat → FSt
  | [] => ε
  | v :: vs => (wipeF ε vs).set v none
theorem wipeF_len (ε : FSt) : ∀ vs : List Nat, (wipeF ε vs).length = ε.length
  | [] => rfl
  | v :: vs => by unfold wipeF; rw [List.length_set, wipeF_len ε vs]
theorem wipeF_get (ε : FSt) : ∀ (vs : List Nat) (k : Nat), (wipeF ε vs)[k]? = if k ∈ vs ∧ k < ε.length then some none else ε[k]?
  | [], k => by simp [wipeF]
  | v :: vs, k => by
    unfold wipeF
    by_cases hk : v = k
    · subst hk
      by_cases hl : v < ε.length
      · rw [List.getElem?_set_self (by rw [wipeF_len]; exact hl), if_pos ⟨List.mem_cons_self, hl⟩]
      · rw [List.getElem?_eq_none (by rw [List.length_set, wipeF_len]; omega), if_neg (fun z => hl z.2), List.getElem?_eq_none (by omega)]
    · rw [List.getElem?_set_ne hk, wipeF_get ε vs k]
      have e : (k ∈ v :: vs ∧ k < ε.length) ↔ (k ∈ vs ∧ k < ε.length) := by
        simp only [List.mem_cons]
        exact ⟨fun z => ⟨z.1.resolve_left fun q => hk q.symm, z.2⟩, fun z => ⟨.inr z.1, z.2⟩⟩
      by_cases h : k ∈ vs ∧ k < ε.length
      · rw [if_pos h, if_pos (e.mpr h)]
      · rw [if_neg h, if_neg (fun z => h (e.mp z))]
theorem wipeF_out {ε : FSt} {vs : List Nat} {k : Nat} (h : k ∉ vs) : (wipeF ε vs)[k]? = ε[k]? := by rw [wipeF_get, if_neg (fun z => h z.1)]
theorem wipeD_get (δ : DSt) : ∀ (vs : List Nat) (k : Nat), (wipeD δ vs)[k]? = if k ∈ vs ∧ k < δ.length then some none else δ[k]?
  | [], k => by simp [wipeD]
  | v :: vs, k => by
    unfold wipeD
    by_cases hk : v = k
    · subst hk
      by_cases hl : v < δ.length
      · rw [List.getElem?_set_self (by rw [wipeD_length]; exact hl), if_pos ⟨List.mem_cons_self, hl⟩]
      · rw [List.getElem?_eq_none (by rw [List.length_set, wipeD_length]; omega), if_neg (fun z => hl z.2), List.getElem?_eq_none (by omega)]
    · rw [List.getElem?_set_ne hk, wipeD_get δ vs k]
      have e : (k ∈ v :: vs ∧ k < δ.length) ↔ (k ∈ vs ∧ k < δ.length) := by
        simp only [List.mem_cons]
        exact ⟨fun z => ⟨z.1.resolve_left fun q => hk q.symm, z.2⟩, fun z => ⟨.inr z.1, z.2⟩⟩
      by_cases h : k ∈ vs ∧ k < δ.length
      · rw [if_pos h, if_pos (e.mpr h)]
      · rw [if_neg h, if_neg (fun z => h (e.mp z))]
theorem wipeD_out {δ : DSt} {vs : List Nat} {k : Nat} (h : k ∉ vs) : (wipeD δ vs)[k]? = δ[k]? := by rw [wipeD_get, if_neg (fun z => h z.1)]
/-- their slots as they were -/
def restF (ε ε' : FSt) : List Nat → FSt
  | [] => ε'
  | v :: vs => match ε[v]? with
    | some x => (restF ε ε' vs).set v x
    | none => restF ε ε' vs
theorem restF_len (ε ε' : FSt) : ∀ vs : List Nat, (restF ε ε' vs).length = ε'.length
  | [] => rfl
  | v :: vs => by unfold restF; split <;> simp [restF_len ε ε' vs]
theorem restF_get {ε ε' : FSt} (hl : ε'.length = ε.length) : ∀ (vs : List Nat) (k : Nat), (restF ε ε' vs)[k]? = if k ∈ vs then ε[k]? else ε'[k]?
  | [], k => by simp [restF]
  | v :: vs, k => by
    unfold restF
    split
    · next x hx =>
      by_cases hk : v = k
      · subst hk
        rw [List.getElem?_set_self (by rw [restF_len, hl]; exact (List.getElem?_eq_some_iff.mp hx).1), if_pos List.mem_cons_self, hx]
      · rw [List.getElem?_set_ne hk, restF_get hl vs k]
        have : (k ∈ v :: vs) ↔ k ∈ vs := by simp [Ne.symm hk]
        by_cases h : k ∈ vs
        · rw [if_pos h, if_pos (this.mpr h)]
        · rw [if_neg h, if_neg (fun z => h (this.mp z))]
    · next hx =>
      rw [restF_get hl vs k]
      by_cases hk : v = k
      · subst hk
        rw [if_pos List.mem_cons_self]
        have := List.getElem?_eq_none_iff.mp hx
        split
        · rfl
        · rw [hx]; exact List.getElem?_eq_none (by omega)
      · have : (k ∈ v :: vs) ↔ k ∈ vs := by simp [Ne.symm hk]
        by_cases h : k ∈ vs
        · rw [if_pos h, if_pos (this.mpr h)]
        · rw [if_neg h, if_neg (fun z => h (this.mp z))]
theorem Mt.wipe {δ : DSt} {μ : Mu} {ε : FSt} (m : Mt δ μ ε) (vs : List Nat) : Mt (wipeD δ vs) μ (wipeF ε vs) := by
  have key : ∀ k, k ∈ vs → ∀ v, (wipeF ε vs)[k]? = some (some v) → False := fun k hk v h => by
    rw [wipeF_get] at h
    split at h
    · cases h
    · next hn =>
      have : ¬ k < ε.length := fun z => hn ⟨hk, z⟩
      rw [List.getElem?_eq_none (by omega)] at h; cases h
  have kc : ∀ k, k ∈ vs → ∀ c, getC (wipeF ε vs) k = some c → False := fun k hk c h => by
    rcases getC_some h with h | h <;> exact key k hk _ h
  have gc : ∀ k, k ∉ vs → getC (wipeF ε vs) k = getC ε k := fun k hk => by unfold getC; rw [wipeF_out hk]
  refine ⟨by rw [wipeD_length, wipeF_len]; exact m.len, fun i x h => ?_, fun i c h => ?_, fun i j p hi hj h1 h2 => ?_⟩
  · by_cases hv : i ∈ vs
    · exact (key i hv _ h).elim
    · rw [wipeD_out hv]; rw [wipeF_out hv] at h; exact m.dat i x h
  · by_cases hv : i ∈ vs
    · exact (kc i hv _ h).elim
    · rw [wipeD_out hv]; rw [gc i hv] at h; exact m.cel i c h
  · have ni : i ∉ vs := fun hv => by obtain ⟨c, h⟩ := isC_some hi; exact kc i hv c h
    have nj : j ∉ vs := fun hv => by obtain ⟨c, h⟩ := isC_some hj; exact kc j hv c h
    unfold isC at hi hj
    rw [gc i ni] at hi
    rw [gc j nj] at hj
    rw [wipeD_out ni] at h1
    rw [wipeD_out nj] at h2
    exact m.apart i j p hi hj h1 h2
/-- a target's turn: only own names are set, with data -/
structure Only (vs : List Nat) (δ δ2 : DSt) (ε ε1 : FSt) : Prop where
  ld : δ2.length = δ.length
  le : ε1.length = ε.length
  out : ∀ k, k ∉ vs → δ2[k]? = δ[k]? ∧ ε1[k]? = ε[k]?
  ins : ∀ k, k ∈ vs → ¬ isC ε1 k
structure TGc (vs : List Nat) (gd : DTG) (gf : GF) : Prop where
  ok : ∀ {d : PyData} {δ : DSt} {μ : Mu} {ε ε1 : FSt}, Mt δ μ ε → gf d (wipeF ε vs) = some ε1 → ∃ δ2, Mt δ2 μ ε1 ∧ Only vs δ δ2 ε ε1 ∧ ∀ K : DSt → Mu → Prop, K δ2 μ → gd (.d d) (wipeD δ vs) μ K
theorem only_wipe {δ : DSt} {μ : Mu} {ε : FSt} (m : Mt δ μ ε) (vs : List Nat) : Only vs δ (wipeD δ vs) ε (wipeF ε vs) :=
  ⟨wipeD_length δ vs, wipeF_len ε vs, fun k hk => ⟨wipeD_out hk, wipeF_out hk⟩, fun k hk h => by
    obtain ⟨c, h⟩ := isC_some h
    rcases getC_some h with h | h <;>
    · rw [wipeF_get] at h
      split at h
      · cases h
      · next hn =>
        have : ¬ k < ε.length := fun z => hn ⟨hk, z⟩
        rw [List.getElem?_eq_none (by omega)] at h; cases h⟩
theorem Only.set {vs : List Nat} {δ δ2 : DSt} {ε ε1 : FSt} (o : Only vs δ δ2 ε ε1) {i : Nat} (hi : i ∈ vs) {x : PyData} : Only vs δ (δ2.set i (some (.d x))) ε (ε1.set i (some (.d x))) :=
  ⟨by simp [o.ld], by simp [o.le], fun k hk => by
    have : i ≠ k := fun e => hk (e ▸ hi)
    rw [List.getElem?_set_ne this, List.getElem?_set_ne this]
    exact o.out k hk, fun k hk h => by
    by_cases e : i = k
    · subst e
      obtain ⟨c, h⟩ := isC_some h
      obtain ⟨a, _⟩ := getC_same h
      rcases a with a | a <;> cases a
    · unfold isC at h
      rw [getC_ne e] at h
      exact o.ins k hk h⟩
theorem tgc_name {vs : List Nat} {i : Nat} (h : i ∈ vs) : TGc vs (gdName i) (tgN i) := ⟨fun {d δ μ ε ε1} m e => by
  unfold tgN at e
  split at e
  · cases e
  · next hb =>
    cases e
    exact ⟨_, (Tr.setD (m.wipe vs) (x := d) (by simpa using hb)).mt, (only_wipe m vs).set h, fun K k => k⟩⟩
theorem setAllF_only {vs : List Nat} : ∀ {is : List Nat} {xs : List PyData} {δ δ2 : DSt} {ε ε1 ε2 : FSt}, (∀ i ∈ is, i ∈ vs) → Only vs δ δ2 ε ε1 → setAllF is xs ε1 = some ε2 → Only vs δ (setAll is xs δ2) ε ε2
  | [], [], _, _, _, _, _, _, o, h => by cases h; exact o
  | [], _ :: _, _, _, _, _, _, _, o, h => by cases h; exact o
  | _ :: _, [], _, _, _, _, _, _, o, h => by cases h; exact o
  | i :: is, x :: xs, _, _, _, _, _, hi, o, h => by
    unfold setAllF at h
    split at h
    · cases h
    · exact setAllF_only (is := is) (xs := xs) (fun j hj => hi j (List.mem_cons_of_mem _ hj)) (o.set (hi i List.mem_cons_self)) h
theorem tgc_tup {vs is : List Nat} (h : ∀ i ∈ is, i ∈ vs) : TGc vs (gdTup is) (tgT is) := ⟨fun {d δ μ ε ε1} m e => by
  unfold tgT at e
  split at e
  · next xs =>
    split at e
    · next hl => exact ⟨_, (setAllF_tr (m.wipe vs) e).mt, setAllF_only h (only_wipe m vs) e, fun K k => ⟨hl, k⟩⟩
    · cases e
  · cases e⟩
/-- behind a turn's parts -/
theorem Only.back {vs : List Nat} {δ δ2 : DSt} {μ μc μ4 : Mu} {ε εc ε1 ε3 : FSt} (t : TrE δ μ ε μc εc) (o : Only vs δ δ2 εc ε1) (t2 : TrE δ2 μc ε1 μ4 ε3) : TrE δ μ ε μ4 (restF εc ε3 vs) := by
  have hl3 : ε3.length = εc.length := t2.kd.len.trans o.le
  have out : ∀ k, k ∉ vs → (restF εc ε3 vs)[k]? = ε3[k]? := fun k hk => by rw [restF_get hl3, if_neg hk]
  have ins : ∀ k, k ∈ vs → (restF εc ε3 vs)[k]? = εc[k]? := fun k hk => by rw [restF_get hl3, if_pos hk]
  have kd : Kd εc (restF εc ε3 vs) := ⟨by rw [restF_len, hl3], fun k v h => by
    by_cases hk : k ∈ vs
    · exact ⟨v, by rw [ins k hk]; exact h, same1_refl v⟩
    · rw [out k hk]
      exact t2.kd.at' k v (by rw [(o.out k hk).2]; exact h)⟩
  have adr2 : ∀ p, Adr δ2 ε1 p → ∃ j, j ∉ vs ∧ isC εc j ∧ δ[j]? = some (some (.cell p)) := fun p ⟨j, h1, h2⟩ => by
    have hj : j ∉ vs := fun z => o.ins j z h1
    refine ⟨j, hj, ?_, by rw [← (o.out j hj).1]; exact h2⟩
    have : getC ε1 j = getC εc j := by unfold getC; rw [(o.out j hj).2]
    unfold isC at h1 ⊢
    rw [← this]; exact h1
  refine ⟨⟨by rw [restF_len, hl3]; exact t.mt.len, fun i x h => ?_, fun i c h => ?_, fun i j p hi hj h1 h2 => t.mt.apart i j p (kd.isC.mpr hi) (kd.isC.mpr hj) h1 h2⟩, fun b c h n => ?_, t.kd.trans kd⟩
  · by_cases hk : i ∈ vs
    · rw [ins i hk] at h; exact t.mt.dat i x h
    · rw [out i hk] at h
      rw [← (o.out i hk).1]
      exact t2.mt.dat i x h
  · by_cases hk : i ∈ vs
    · have h' : getC εc i = some c := by unfold getC at h ⊢; rw [ins i hk] at h; exact h
      obtain ⟨p, h1, h2⟩ := t.mt.cel i c h'
      refine ⟨p, h1, t2.fr p c h2 fun z => ?_⟩
      obtain ⟨j, a1, a2, a3⟩ := adr2 p z
      exact a1 (t.mt.apart i j p (isC_of h') a2 h1 a3 ▸ hk)
    · have h' : getC ε3 i = some c := by unfold getC at h ⊢; rw [out i hk] at h; exact h
      obtain ⟨p, h1, h2⟩ := t2.mt.cel i c h'
      exact ⟨p, by rw [← (o.out i hk).1]; exact h1, h2⟩
  · refine t2.fr b c (t.fr b c h n) fun z => n ?_
    obtain ⟨j, a1, a2, a3⟩ := adr2 b z
    exact t.kd.adr.mpr ⟨j, a2, a3⟩
theorem TrE.over {δ : DSt} {μ μ1 : Mu} {ε ε1 : FSt} (m : Mt δ μ ε) (t : TrE δ μ ε μ1 ε1) {p : Addr} {c : Cell} (hp : μ p = none) : TrE δ μ ε (put μ1 p c) ε1 := by
  refine ⟨⟨t.mt.len, t.mt.dat, fun i d h => ?_, t.mt.apart⟩, fun b d h n => ?_, t.kd⟩
  · obtain ⟨q, h1, h2⟩ := t.mt.cel i d h
    refine ⟨q, h1, ?_⟩
    rw [put_ne (fun z => ?_), h2]
    subst z
    obtain ⟨c2, hc⟩ := m.adr (t.kd.adr.mpr ⟨i, isC_of h, h1⟩)
    rw [hp] at hc; cases hc
  · rw [put_ne (fun z => by subst z; rw [hp] at h; cases h)]
    exact t.fr b d h n
section
variable {X : Cx} {pos : Pos} {tg iter a b c e elt : Expr} {fe fa fb : FT} {es ifs : List Expr} {fr : FTA} {wi : FTI} {body : List Stmt} {fB : FS} {gd : DTG} {gf : GF} {scope : Scope} {own : List (Str × Nat)} {g : TG} {vs : List Nat} {tt : FTT}
def fLcGo (gf : GF) (tt : FTT) (fe : FT) (vs : List Nat) : List PyData → List PyData → FSt → R (List PyData)
  | [], acc, ε => .ok acc ε
  | d :: ds, acc, ε => match gf d (wipeF ε vs) with
    | none => .no
    | some ε1 => (tt ε1).bind fun b ε2 => if b = true then (fe ε2).bind fun y ε3 => match y with
        | .val x => if acc.length < 1000000 then fLcGo gf tt fe vs ds (acc ++ [x]) (restF ε ε3 vs) else .no
        | _ => .no
      else fLcGo gf tt fe vs ds acc (restF ε ε2 vs)
def fLc (wi : FTI) (gf : GF) (tt : FTT) (fe : FT) (vs : List Nat) : FT := fun ε => (wi ε).bind fun ds ε1 => (fLcGo gf tt fe vs ds [] ε1).bind fun acc ε2 => .ok (.val (.list acc)) ε2
def fLcO (wi : FTI) (gf : GF) (tt : FTT) (fe : FT) (vs : List Nat) : FT := fun ε => (wi ε).bind fun ds ε1 => (fLcGo gf tt fe vs ds [] ε1).bind fun acc ε2 => .ok (.own (.lst acc)) ε2
def fYes : FTT := fun ε => .ok true ε
theorem lcGo_up (T : TGc vs gd gf) {δ : DSt} {μ : Mu} {ε : FSt} (m : Mt δ μ ε) {D : Addr} (hD : μ D = none) {fin : List PyData → Mu → Prop} : ∀ (ds acc : List PyData) {μc : Mu} {εc : FSt}, TrE δ μ ε μc εc → μc D = some (.lst acc) →
    (∃ acc' ε', fLcGo gf tt fe vs ds acc εc = .ok acc' ε' ∧ ∀ μ', TrE δ μ ε μ' ε' → μ' D = some (.lst acc') → fin acc' μ') → lcGo gd (upFT tt) (upF fe) (wipeD δ vs) D fin ds acc μc
  | [], acc, μc, εc, t, hd, ⟨acc', ε', e, h⟩ => by
    cases e
    exact h _ t hd
  | d :: ds, acc, μc, εc, t, hd, ⟨acc', ε', e, h⟩ => by
    unfold fLcGo at e
    unfold lcGo
    cases e1 : gf d (wipeF εc vs) with
    | none => simp only [e1] at e; cases e
    | some ε1 =>
      simp only [e1] at e
      obtain ⟨δ2, m2, o, hk⟩ := T.ok t.mt e1
      have nD : ¬ Adr δ2 ε1 D := fun ⟨j, h1, h2⟩ => by
        have hj : j ∉ vs := fun z => o.ins j z h1
        rw [(o.out j hj).1] at h2
        have : isC εc j := by
          have e : getC ε1 j = getC εc j := by unfold getC; rw [(o.out j hj).2]
          unfold isC at h1 ⊢
          rw [← e]; exact h1
        obtain ⟨c, hc⟩ := m.adr (t.kd.adr.mpr ⟨j, this, h2⟩)
        rw [hD] at hc; cases hc
      refine hk _ ⟨ε1, m2, ?_⟩
      cases e2 : tt ε1 with
      | no => rw [e2] at e; cases e
      | ex _ _ => rw [e2] at e; cases e
      | ok b ε2 =>
        rw [e2, R.bind_ok] at e
        intro b' μ3 t3 eb
        subst eb
        cases b' with
        | false =>
          rw [if_neg Bool.false_ne_true] at e ⊢
          exact ⟨t3.fr D _ hd nD, lcGo_up T m hD ds acc (o.back t t3) (t3.fr D _ hd nD) ⟨acc', ε', e, h⟩⟩
        | true =>
          rw [if_pos rfl] at e ⊢
          refine ⟨ε2, t3.mt, ?_⟩
          cases e4 : fe ε2 with
          | no => rw [e4] at e; cases e
          | ex _ _ => rw [e4] at e; cases e
          | ok y ε3 =>
            rw [e4, R.bind_ok] at e
            intro v μ4 t4 rf
            have t34 := t3.trans t4
            have h4 := t34.fr D _ hd nD
            cases y with
            | ref i => cases e
            | own c => cases e
            | val x =>
              cases (show v = .d x from rf)
              have e : (if acc.length < 1000000 then fLcGo gf tt fe vs ds (acc ++ [x]) (restF εc ε3 vs) else .no) = .ok acc' ε' := e
              split at e
              · next hl =>
                exact ⟨h4, hl, lcGo_up T m hD ds (acc ++ [x]) ((o.back t t34).over m hD) put_same ⟨acc', ε', e, h⟩⟩
              · cases e
theorem up_fLc (T : TGc vs gd gf) : ∀ δ μ Q, upF (fLc wi gf tt fe vs) δ μ Q → dLc (upFI wi) gd (upFT tt) (upF fe) vs δ μ Q := fun δ μ Q ⟨ε, m, h⟩ => by
  refine ⟨ε, m, ?_⟩
  unfold fLc at h
  cases e : wi ε with
  | no => rw [e] at h; exact h.elim
  | ex _ _ => rw [e] at h; exact h.elim
  | ok ds ε1 =>
    rw [e, R.bind_ok] at h
    intro v μ1 t p D hD
    subst p
    cases e2 : fLcGo gf tt fe vs v [] ε1 with
    | no => rw [e2] at h; exact h.elim
    | ex _ _ => rw [e2] at h; exact h.elim
    | ok acc ε2 =>
      rw [e2, R.bind_ok] at h
      have h0 : μ D = none := t.fresh m hD
      refine lcGo_up T m h0 v [] (t.over m h0) put_same ⟨acc, ε2, e2, fun μ' t' hd => ?_⟩
      exact h _ _ (t'.drop m h0) rfl
theorem up_fLcO (T : TGc vs gd gf) : ∀ δ μ Q, upF (fLcO wi gf tt fe vs) δ μ Q → dLcC (upFI wi) gd (upFT tt) (upF fe) vs δ μ Q := fun δ μ Q ⟨ε, m, h⟩ => by
  refine ⟨ε, m, ?_⟩
  unfold fLcO at h
  cases e : wi ε with
  | no => rw [e] at h; exact h.elim
  | ex _ _ => rw [e] at h; exact h.elim
  | ok ds ε1 =>
    rw [e, R.bind_ok] at h
    intro v μ1 t p D hD
    subst p
    cases e2 : fLcGo gf tt fe vs v [] ε1 with
    | no => rw [e2] at h; exact h.elim
    | ex _ _ => rw [e2] at h; exact h.elim
    | ok acc ε2 =>
      rw [e2, R.bind_ok] at h
      have h0 : μ D = none := t.fresh m hD
      refine lcGo_up T m h0 v [] (t.over m h0) put_same ⟨acc, ε2, e2, fun μ' t' hd => ?_⟩
      exact h _ _ t' ⟨D, rfl, hd, h0⟩
theorem ft_nil : DTs X [] (upFT fYes) := ⟨fun pins s σ H Q I ⟨δ, μ, Qd, rs, rm, ⟨ε, m, q⟩, w⟩ => (t_nil (X := X)).run pins s σ H Q I ⟨δ, μ, Qd, rs, rm, q true μ (.refl m) rfl, w⟩⟩
theorem ft_one {c : Expr} {t : FTT} (h : FC X c t) : DTs X [c] (upFT t) := t_one h
theorem f_lc {bb : Bool} (hc : X.calm = true) (hN : X.N.Nodup) (hi : FI bb X tg iter wi) (ok : BlkOk X.N X.env.scope scope own) (G : CompG bb X.K vs g gd) (T : TGc vs gd gf)
    (hg : ∀ (s : Shared) (H : Hp) (C : Addr) (cl : List (Str × Addr)) (fp : List Addr), PG (X.blk s H scope (compEnvC scope cl C X.env) fp) tg g)
    (ht : ∀ (s : Shared) (H : Hp) (C : Addr) (cl : List (Str × Addr)) (fp : List Addr), DTs (X.blk s H scope (compEnvC scope cl C X.env) fp) ifs (upFT tt))
    (he : ∀ (s : Shared) (H : Hp) (C : Addr) (cl : List (Str × Addr)) (fp : List Addr), FE (X.blk s H scope (compEnvC scope cl C X.env) fp) elt fe)
    (hv : own.map (·.2) = vs := by rfl) (hs : ∀ (x : Value), foldedSetIterable iter X.env x = pure x := by intro _; rfl) : FE X (.ListComp elt [⟨tg, iter, ifs, 0⟩] scope pos) (fLc wi gf tt fe vs) :=
  d_imp (d_lcV hc hN hi ok G hg ht he hv hs) (up_fLc T)
theorem f_lcO {bb : Bool} (hc : X.calm = true) (hN : X.N.Nodup) (hi : FI bb X tg iter wi) (ok : BlkOk X.N X.env.scope scope own) (G : CompG bb X.K vs g gd) (T : TGc vs gd gf)
    (hg : ∀ (s : Shared) (H : Hp) (C : Addr) (cl : List (Str × Addr)) (fp : List Addr), PG (X.blk s H scope (compEnvC scope cl C X.env) fp) tg g)
    (ht : ∀ (s : Shared) (H : Hp) (C : Addr) (cl : List (Str × Addr)) (fp : List Addr), DTs (X.blk s H scope (compEnvC scope cl C X.env) fp) ifs (upFT tt))
    (he : ∀ (s : Shared) (H : Hp) (C : Addr) (cl : List (Str × Addr)) (fp : List Addr), FE (X.blk s H scope (compEnvC scope cl C X.env) fp) elt fe)
    (hv : own.map (·.2) = vs := by rfl) (hs : ∀ (x : Value), foldedSetIterable iter X.env x = pure x := by intro _; rfl) : FE X (.ListComp elt [⟨tg, iter, ifs, 0⟩] scope pos) (fLcO wi gf tt fe vs) :=
  d_imp (d_lcCV hc hN hi ok G hg ht he hv hs) (up_fLcO T)
/-- y = [..], as data -/
theorem fs_setLc {bb : Bool} {i : Nat} {y : Str} {py spos : Pos} (hc : X.calm = true) (hN : X.N.Nodup) (hy : X.N[i]? = some y) (hyl : X.env.scope.names.lookup y = some .local) (hsw : swapsWith (.ListComp elt [⟨tg, iter, ifs, 0⟩] scope pos) (some (.Name y py)) spos.line X.env = pure true)
    (hi : FI bb X tg iter wi) (ok : BlkOk X.N X.env.scope scope own) (G : CompG bb X.K vs g gd) (T : TGc vs gd gf)
    (hg : ∀ (s : Shared) (H : Hp) (C : Addr) (cl : List (Str × Addr)) (fp : List Addr), PG (X.blk s H scope (compEnvC scope cl C X.env) fp) tg g)
    (ht : ∀ (s : Shared) (H : Hp) (C : Addr) (cl : List (Str × Addr)) (fp : List Addr), DTs (X.blk s H scope (compEnvC scope cl C X.env) fp) ifs (upFT tt))
    (he : ∀ (s : Shared) (H : Hp) (C : Addr) (cl : List (Str × Addr)) (fp : List Addr), FE (X.blk s H scope (compEnvC scope cl C X.env) fp) elt fe)
    (hv : own.map (·.2) = vs := by rfl) (hs : ∀ (x : Value), foldedSetIterable iter X.env x = pure x := by intro _; rfl) : FSt1 X (.Assign [.Name y py] (.ListComp elt [⟨tg, iter, ifs, 0⟩] scope pos) spos) (fsAsg i (fLc wi gf tt fe vs)) :=
  s_imp (s_setLcV hc hN hy hyl hsw hi ok G hg ht he hv hs) fun D δ μ ⟨ε, m, h⟩ => up_fLc T δ μ _ (useSE m h fun r ε1 v μ1 t p h1 => setR_fit m t p h1)
/-- y = [..], to be changed -/
theorem s_setLcCV {bb : Bool} {te : DT} {tt : DTT} {wi : DTI} {i : Nat} {y : Str} {py spos : Pos} (hc : X.calm = true) (hN : X.N.Nodup) (hy : X.N[i]? = some y) (hyl : X.env.scope.names.lookup y = some .local) (hsw : swapsWith (.ListComp elt [⟨tg, iter, ifs, 0⟩] scope pos) (some (.Name y py)) spos.line X.env = pure true)
    (hi : DI bb X tg iter wi) (ok : BlkOk X.N X.env.scope scope own) (G : CompG bb X.K vs g gd)
    (hg : ∀ (s : Shared) (H : Hp) (C : Addr) (cl : List (Str × Addr)) (fp : List Addr), PG (X.blk s H scope (compEnvC scope cl C X.env) fp) tg g)
    (ht : ∀ (s : Shared) (H : Hp) (C : Addr) (cl : List (Str × Addr)) (fp : List Addr), DTs (X.blk s H scope (compEnvC scope cl C X.env) fp) ifs tt)
    (he : ∀ (s : Shared) (H : Hp) (C : Addr) (cl : List (Str × Addr)) (fp : List Addr), DE (X.blk s H scope (compEnvC scope cl C X.env) fp) elt te)
    (hv : own.map (·.2) = vs := by rfl) (hs : ∀ (x : Value), foldedSetIterable iter X.env x = pure x := by intro _; rfl) : DS X (.Assign [.Name y py] (.ListComp elt [⟨tg, iter, ifs, 0⟩] scope pos) spos) (sAsg (dLcC wi gd tt te vs) (gdName i)) := by
  subst hv
  exact ps_imp (ps_setLc hc hN hy hyl hsw hi ok hg ht he hs) fun D' σ H ⟨δ, μ, Dd, rs, rm, q, w⟩ => ⟨δ, μ, _, rs, rm, q, fun ds μ1 H1 J e1 m1 wk q1 D hD => by
    refine lc_up (fin := fun acc μ' => Dd.nx (δ.set i (some (.cell D))) μ') (Q := fun v H' => D'.nx (σ.set i (some v)) H') G (rs.mono e1) m1 wk hD (q1 D (m1.free hD)) fun acc μ' H' e2 m2 hd qq => ?_
    have e3 := e1.trans e2
    exact w.nx _ μ' _ H' e3 m2 ((rs.mono e3).set (d := .cell D) rfl i) qq⟩
theorem fs_setLcO {bb : Bool} {i : Nat} {y : Str} {py spos : Pos} (hc : X.calm = true) (hN : X.N.Nodup) (hy : X.N[i]? = some y) (hyl : X.env.scope.names.lookup y = some .local) (hsw : swapsWith (.ListComp elt [⟨tg, iter, ifs, 0⟩] scope pos) (some (.Name y py)) spos.line X.env = pure true)
    (hi : FI bb X tg iter wi) (ok : BlkOk X.N X.env.scope scope own) (G : CompG bb X.K vs g gd) (T : TGc vs gd gf)
    (hg : ∀ (s : Shared) (H : Hp) (C : Addr) (cl : List (Str × Addr)) (fp : List Addr), PG (X.blk s H scope (compEnvC scope cl C X.env) fp) tg g)
    (ht : ∀ (s : Shared) (H : Hp) (C : Addr) (cl : List (Str × Addr)) (fp : List Addr), DTs (X.blk s H scope (compEnvC scope cl C X.env) fp) ifs (upFT tt))
    (he : ∀ (s : Shared) (H : Hp) (C : Addr) (cl : List (Str × Addr)) (fp : List Addr), FE (X.blk s H scope (compEnvC scope cl C X.env) fp) elt fe)
    (hv : own.map (·.2) = vs := by rfl) (hs : ∀ (x : Value), foldedSetIterable iter X.env x = pure x := by intro _; rfl) : FSt1 X (.Assign [.Name y py] (.ListComp elt [⟨tg, iter, ifs, 0⟩] scope pos) spos) (fsAsg i (fLcO wi gf tt fe vs)) :=
  s_imp (s_setLcCV hc hN hy hyl hsw hi ok G hg ht he hv hs) fun D δ μ ⟨ε, m, h⟩ => up_fLcO T δ μ _ (useSE m h fun r ε1 v μ1 t p h1 => setR_fit m t p h1)
/-! ### while -/
def fsWhN (tt : FTT) (fB : FS) : Nat → FS
  | 0 => fun _ => .no
  | n + 1 => fun ε => (tt ε).bind fun b ε1 => if b = true then (fB ε1).bind fun fl ε2 => match fl with
      | .nx => fsWhN tt fB n ε2
      | .ct => fsWhN tt fB n ε2
      | .bk => .ok .nx ε2
      | .rt r => .ok (.rt r) ε2
    else .ok .nx ε1
open Classical in
noncomputable def fsWhile (tt : FTT) (fB : FS) : FS := fun ε => if h : ∃ n, fsWhN tt fB n ε ≠ .no then fsWhN tt fB h.choose ε else .no
theorem bind_ne {α β : Type} {r : R α} {f : α → FSt → R β} (h : r.bind f ≠ .no) : (∃ a ε, r = .ok a ε ∧ f a ε ≠ .no) ∨ ∃ e ε, r = .ex e ε := by
  cases r with
  | no => exact (h rfl).elim
  | ok a ε => exact .inl ⟨a, ε, rfl, h⟩
  | ex e ε => exact .inr ⟨e, ε, rfl⟩
theorem fsWhN_up {tt : FTT} {fB : FS} : ∀ (n : Nat) (ε : FSt), fsWhN tt fB n ε ≠ .no → fsWhN tt fB (n + 1) ε = fsWhN tt fB n ε
  | 0, ε, h => (h rfl).elim
  | n + 1, ε, h => by
    unfold fsWhN at h
    rcases bind_ne h with ⟨b, ε1, e1, h1⟩ | ⟨x, ε1, e1⟩
    · rw [fsWhN, fsWhN.eq_def tt fB (n + 1)]
      simp only [e1, R.bind_ok]
      cases b with
      | false => rfl
      | true =>
        rw [if_pos rfl] at h1 ⊢
        rw [if_pos rfl]
        rcases bind_ne h1 with ⟨fl, ε2, e2, h2⟩ | ⟨x, ε2, e2⟩
        · simp only [e2, R.bind_ok]
          cases fl with
          | nx => exact fsWhN_up n ε2 h2
          | ct => exact fsWhN_up n ε2 h2
          | bk => rfl
          | rt r => rfl
        · simp only [e2, R.bind_ex]
    · rw [fsWhN, fsWhN.eq_def tt fB (n + 1)]
      simp only [e1, R.bind_ex]
theorem fsWhN_le {tt : FTT} {fB : FS} {n : Nat} {ε : FSt} (h : fsWhN tt fB n ε ≠ .no) : ∀ k, fsWhN tt fB (n + k) ε = fsWhN tt fB n ε
  | 0 => rfl
  | k + 1 => by
    have ih := fsWhN_le h k
    rw [← ih]
    exact fsWhN_up (n + k) ε (by rw [ih]; exact h)
theorem fsWhile_of {tt : FTT} {fB : FS} {n : Nat} {ε : FSt} (h : fsWhN tt fB n ε ≠ .no) : fsWhile tt fB ε = fsWhN tt fB n ε := by
  have ex : ∃ n, fsWhN tt fB n ε ≠ .no := ⟨n, h⟩
  unfold fsWhile
  rw [dif_pos ex]
  have h2 := ex.choose_spec
  rcases Nat.le_total n ex.choose with hl | hl
  · obtain ⟨k, hk⟩ := Nat.exists_eq_add_of_le hl
    rw [hk]; exact fsWhN_le h k
  · obtain ⟨k, hk⟩ := Nat.exists_eq_add_of_le hl
    have := fsWhN_le h2 k
    rw [← hk] at this
    exact this.symm
/-- one turn more -/
theorem fsWhile_turn {tt : FTT} {fB : FS} {ε : FSt} : fsWhile tt fB ε = (tt ε).bind fun b ε1 => if b = true then (fB ε1).bind fun fl ε2 => match fl with
      | .nx => fsWhile tt fB ε2
      | .ct => fsWhile tt fB ε2
      | .bk => .ok .nx ε2
      | .rt r => .ok (.rt r) ε2
    else .ok .nx ε1 := by
  by_cases ex : ∃ n, fsWhN tt fB n ε ≠ .no
  · obtain ⟨n, h⟩ := ex
    rw [fsWhile_of h]
    cases n with
    | zero => exact (h rfl).elim
    | succ n =>
      unfold fsWhN at h
      rw [fsWhN]
      rcases bind_ne h with ⟨b, ε1, e1, h1⟩ | ⟨x, ε1, e1⟩
      · simp only [e1, R.bind_ok]
        cases b with
        | false => rfl
        | true =>
          rw [if_pos rfl] at h1 ⊢
          rw [if_pos rfl]
          rcases bind_ne h1 with ⟨fl, ε2, e2, h2⟩ | ⟨x, ε2, e2⟩
          · simp only [e2, R.bind_ok]
            cases fl with
            | nx => exact (fsWhile_of h2).symm
            | ct => exact (fsWhile_of h2).symm
            | bk => rfl
            | rt r => rfl
          · simp only [e2, R.bind_ex]
      · simp only [e1, R.bind_ex]
  · have e0 : fsWhile tt fB ε = .no := by unfold fsWhile; rw [dif_neg ex]
    rw [e0]
    have no : ∀ n, fsWhN tt fB n ε = .no := fun n => Classical.byContradiction fun z => ex ⟨n, z⟩
    cases e1 : tt ε with
    | no => rfl
    | ex x ε1 => have := no 1; unfold fsWhN at this; rw [e1] at this; cases this
    | ok b ε1 =>
      cases b with
      | false => have := no 1; unfold fsWhN at this; rw [e1] at this; cases this
      | true =>
        rw [R.bind_ok, if_pos rfl]
        have key : ∀ n, ((fB ε1).bind fun fl ε2 => match fl with
          | .nx => fsWhN tt fB n ε2
          | .ct => fsWhN tt fB n ε2
          | .bk => .ok .nx ε2
          | .rt r => .ok (.rt r) ε2) = .no := fun n => by
          have := no (n + 1)
          unfold fsWhN at this
          rw [e1, R.bind_ok, if_pos rfl] at this
          exact this
        cases e2 : fB ε1 with
        | no => rfl
        | ex x ε2 => have := key 0; rw [e2] at this; cases this
        | ok fl ε2 =>
          rw [R.bind_ok]
          simp only [e2, R.bind_ok] at key
          cases fl with
          | nx => unfold fsWhile; rw [dif_neg (fun ⟨n, z⟩ => z (key n))]
          | ct => unfold fsWhile; rw [dif_neg (fun ⟨n, z⟩ => z (key n))]
          | bk => exact (key 0).symm
          | rt r => exact (key 0).symm
theorem fs_while (hp : PassesOwn (model X.prog X.w) X.A X.env X.xe) (hc : FC X c tt) (hb : FSts X body fB) : FSt1 X (.While c body [] pos) (fsWhile tt fB) :=
  ps_imp (ps_while hp hc hb) fun D σ H ⟨δ, μ, Dd, rs, rm, ⟨ε, m, h⟩, w⟩ => by
    have ex : ∃ n, fsWhN tt fB n ε ≠ .no := Classical.byContradiction fun z => by
      unfold fsWhile at h; rw [dif_neg z] at h; exact h
    obtain ⟨n, hn⟩ := ex
    rw [fsWhile_of hn] at h
    refine ⟨fun k σ' H' => ∃ δ' μ' ε', RS X.K μ' H' σ' δ' ∧ RM X.K μ' H' ∧ Mt δ' μ' ε' ∧ fitS Dd δ' μ' ε' (fsWhN tt fB k ε') ∧ EndsOk X.K μ' H' Dd D, ⟨n, δ, μ, ε, rs, rm, m, h, w⟩, ?_⟩
    rintro k σ' H' ⟨δ', μ', ε', rs', rm', m', h', w'⟩
    cases k with
    | zero => exact h'.elim
    | succ k =>
      unfold fsWhN at h'
      refine upT_use rs' rm' (useST (D := Dd) m' h' fun b ε1 μ1 t h1 => (?_ : (fun b μ1 => ∃ ε1, Mt δ' μ1 ε1 ∧ fitS Dd δ' μ1 ε1 (if b = true then (fB ε1).bind fun fl ε2 => match fl with
        | .nx => fsWhN tt fB k ε2
        | .ct => fsWhN tt fB k ε2
        | .bk => .ok .nx ε2
        | .rt r => .ok (.rt r) ε2
      else .ok .nx ε1)) b μ1)) fun b μ1 H1 e1 m1 ⟨ε1, mt1, h1⟩ => ?_
      · exact ⟨ε1, t.mt, fitS_step m' t.tr h1⟩
      · cases b with
        | false =>
          rw [if_neg Bool.false_ne_true] at h1 ⊢
          exact w'.nx δ' μ1 σ' H1 e1 m1 (rs'.mono e1) (h1 _ _ (.refl mt1))
        | true =>
          rw [if_pos rfl] at h1 ⊢
          refine ⟨fun σ2 H2 => ∃ δ2 μ2 ε2, RS X.K μ2 H2 σ2 δ2 ∧ RM X.K μ2 H2 ∧ Mt δ2 μ2 ε2 ∧ fitS Dd δ2 μ2 ε2 (fsWhN tt fB k ε2) ∧ EndsOk X.K μ2 H2 Dd D, fun σ2 H2 z => ⟨k, Nat.lt_succ_self k, z⟩, ?_⟩
          have w1 := w'.step e1
          refine ⟨δ', μ1, { Dd with nx := fun δ2 μ2 => ∃ ε2, Mt δ2 μ2 ε2 ∧ fitS Dd δ2 μ2 ε2 (fsWhN tt fB k ε2), ct := fun δ2 μ2 => ∃ ε2, Mt δ2 μ2 ε2 ∧ fitS Dd δ2 μ2 ε2 (fsWhN tt fB k ε2), bk := Dd.nx }, rs'.mono e1, m1, ⟨ε1, mt1, ?_⟩, ?_⟩
          · cases e2 : fB ε1 with
            | no => rw [e2] at h1; exact h1.elim
            | ex _ _ => rw [e2] at h1; exact h1.elim
            | ok fl ε2 =>
              rw [e2, R.bind_ok] at h1
              cases fl with
              | nx => exact fun δ2 μ2 t2 => ⟨ε2, t2.mt, fitS_step mt1 t2 h1⟩
              | ct => exact fun δ2 μ2 t2 => ⟨ε2, t2.mt, fitS_step mt1 t2 h1⟩
              | bk => exact h1
              | rt r => exact h1
          · exact ⟨fun δ2 μ2 σ2 H2 e2 m2 r2 ⟨ε2, mt2, q2⟩ => ⟨δ2, μ2, ε2, r2, m2, mt2, q2, w1.step e2⟩, w1.rt, w1.nx, fun δ2 μ2 σ2 H2 e2 m2 r2 ⟨ε2, mt2, q2⟩ => ⟨δ2, μ2, ε2, r2, m2, mt2, q2, w1.step e2⟩⟩
end
end FL

namespace FL
open PySem PySem.Spec PyProof.Rows L2 DL
/-! ### defs and calls -/
/-- what a call tells: a result, and the borrowed containers then -/
inductive FO where
  | no
  | ok (r : FR) (bs : List Cell)
  | ex (e : Exc) (bs : List Cell)
abbrev Fn := List FV → FO
/-- the borrowed ones among the first slots -/
def bors : List FV → FSt → Option (List Cell)
  | [], _ => some []
  | .d _ :: vs, _ :: ε => bors vs ε
  | .b _ :: vs, some (.b c) :: ε => (bors vs ε).map (c :: ·)
  | _, _ => none
def fin (vs : List FV) : R Flow → FO
  | .ok (.rt (.val x)) ε => match bors vs ε with
    | some bs => .ok (.val x) bs
    | none => .no
  | .ok (.rt (.own c)) ε => match bors vs ε with
    | some bs => .ok (.own c) bs
    | none => .no
  | .ok (.rt (.ref i)) ε => match ε[i]?, bors vs ε with
    | some (some (.c c)), some bs => .ok (.own c) bs
    | _, _ => .no
  | .ok .nx ε => match bors vs ε with
    | some bs => .ok (.val .none) bs
    | none => .no
  | _ => .no
def startF (n : Nat) (vs : List FV) : FSt := vs.map some ++ List.replicate (n - vs.length) none
def runF (n : Nat) (f : FS) : Fn := fun vs => fin vs (f (startF n vs))
def Arg1 (μ : Mu) (d : DV) : FV → Prop
  | .d x => d = .d x
  | .b c => ∃ p, d = .cell p ∧ μ p = some c
  | .c _ => False
def Back (μ' : Mu) : List DV → List Cell → Prop
  | [], _ => True
  | .d _ :: ds, bs => Back μ' ds bs
  | .cell p :: ds, b :: bs => μ' p = some b ∧ Back μ' ds bs
  | .cell _ :: _, [] => False
def Apart (ds : List DV) : Prop := ∀ (i j : Nat) (p : Addr), ds[i]? = some (DV.cell p) → ds[j]? = some (DV.cell p) → i = j
def OutR (μ μ' : Mu) : FR → DV → Prop
  | .val x, v => v = DV.d x
  | .own c, v => ∃ p, v = DV.cell p ∧ μ' p = some c ∧ μ p = none
  | .ref _, _ => False
structure Out (μ : Mu) (ds : List DV) (bs : List Cell) (μ' : Mu) (r : FR) (v : DV) : Prop where
  fr : ∀ b c, μ b = some c → (∀ i : Nat, ds[i]? ≠ some (DV.cell b)) → μ' b = some c
  bk : Back μ' ds bs
  rs : OutR μ μ' r v
def spR (μ : Mu) (ds : List DV) (Q : DK) : FO → Prop
  | .ok r bs => ∀ v μ', Out μ ds bs μ' r v → Q v μ'
  | _ => False
def spF (F : Fn) (n : Nat) : DSp := fun ds μ Q => ds.length = n ∧ ∃ vs, PySem.Paired (fun d v => Arg1 μ d v) ds vs ∧ Apart ds ∧ spR μ ds Q (F vs)
theorem startF_get {n : Nat} {vs : List FV} {i : Nat} {x : FV} (h : (startF n vs)[i]? = some (some x)) : vs[i]? = some x := by
  unfold startF at h
  by_cases hi : i < vs.length
  · rw [List.getElem?_append_left (by simpa using hi), List.getElem?_map, Option.map_eq_some_iff] at h
    obtain ⟨a, h1, h2⟩ := h
    cases h2; exact h1
  · rw [List.getElem?_append_right (by simpa using hi), List.getElem?_replicate] at h
    split at h <;> cases h
theorem startF_of {n : Nat} {vs : List FV} {i : Nat} {x : FV} (h : vs[i]? = some x) : (startF n vs)[i]? = some (some x) := by
  have hi := (List.getElem?_eq_some_iff.mp h).1
  unfold startF
  rw [List.getElem?_append_left (by simpa using hi), List.getElem?_map, h]; rfl
theorem dstart_of {n : Nat} {ds : List DV} {i : Nat} {x : DV} (h : ds[i]? = some x) : (dstart n ds)[i]? = some (some x) := by
  have hi := (List.getElem?_eq_some_iff.mp h).1
  unfold dstart
  rw [List.getElem?_append_left (by simpa using hi), List.getElem?_map, h]; rfl
theorem dstart_get {n : Nat} {ds : List DV} {i : Nat} {x : DV} (h : (dstart n ds)[i]? = some (some x)) : ds[i]? = some x := by
  unfold dstart at h
  by_cases hi : i < ds.length
  · rw [List.getElem?_append_left (by simpa using hi), List.getElem?_map, Option.map_eq_some_iff] at h
    obtain ⟨a, h1, h2⟩ := h
    cases h2; exact h1
  · rw [List.getElem?_append_right (by simpa using hi), List.getElem?_replicate] at h
    split at h <;> cases h
theorem paired_get {μ : Mu} : ∀ {ds : List DV} {vs : List FV}, PySem.Paired (fun d v => Arg1 μ d v) ds vs → ∀ {i : Nat} {v : FV}, vs[i]? = some v → ∃ d, ds[i]? = some d ∧ Arg1 μ d v
  | _, _, .nil, i, v, h => by simp at h
  | _, _, .cons h t, 0, v, e => by simp at e; subst e; exact ⟨_, rfl, h⟩
  | _, _, .cons h t, i + 1, v, e => by
    obtain ⟨d, h1, h2⟩ := paired_get t (i := i) (by simpa using e)
    exact ⟨d, by simpa using h1, h2⟩
theorem Mt.start {μ : Mu} {n : Nat} {ds : List DV} {vs : List FV} (h : PySem.Paired (fun d v => Arg1 μ d v) ds vs) (ap : Apart ds) : Mt (dstart n ds) μ (startF n vs) := by
  have hl : ds.length = vs.length := Paired.length h
  refine ⟨by simp [dstart, startF, hl], fun i x e => ?_, fun i c e => ?_, fun i j p hi hj h1 h2 => ap i j p (dstart_get h1) (dstart_get h2)⟩
  · obtain ⟨d, h1, h2⟩ := paired_get h (startF_get e)
    cases (show d = .d x from h2)
    exact dstart_of h1
  · rcases getC_some e with e | e
    · obtain ⟨d, h1, h2⟩ := paired_get h (startF_get e)
      exact h2.elim
    · obtain ⟨d, h1, p, rfl, h3⟩ := paired_get h (startF_get e)
      exact ⟨p, dstart_of h1, h3⟩
theorem bors_ok {μ μ' : Mu} : ∀ {vs : List FV} {ds : List DV} {ε : FSt} {bs : List Cell}, PySem.Paired (fun d v => Arg1 μ d v) ds vs → (∀ (i : Nat) (c : Cell), vs[i]? = some (.b c) → ∃ c' p, ε[i]? = some (some (.b c')) ∧ ds[i]? = some (.cell p) ∧ μ' p = some c') → bors vs ε = some bs → Back μ' ds bs
  | [], [], _, _, _, _, h => by trivial
  | [], _ :: _, _, _, h, _, _ => by cases h
  | _ :: _, [], _, _, h, _, _ => by cases h
  | .d x :: vs, d :: ds, ε, bs, .cons a t, w, h => by
    cases ε with
    | nil => cases h
    | cons e ε =>
      cases (show d = .d x from a)
      show Back μ' ds bs
      exact bors_ok (vs := vs) t (fun i c hc => by simpa using w (i + 1) c (by simpa using hc)) h
  | .c x :: vs, d :: ds, ε, bs, .cons a t, w, h => a.elim
  | .b x :: vs, d :: ds, ε, bs, .cons a t, w, h => by
    obtain ⟨c', p, h1, h2, h3⟩ := w 0 x rfl
    cases ε with
    | nil => cases h1
    | cons e ε =>
      simp only [List.getElem?_cons_zero, Option.some.injEq] at h1 h2
      subst h1 h2
      simp only [bors, Option.map_eq_some_iff] at h
      obtain ⟨bs', h4, rfl⟩ := h
      exact ⟨h3, bors_ok (vs := vs) t (fun i c hc => by simpa using w (i + 1) c (by simpa using hc)) h4⟩
theorem run_up {f : FS} {n k : Nat} : ∀ ds μ Q, spF (runF n f) k ds μ Q → upFS f { nx := fun _ μ' => Q (.d .none) μ', rt := Q } (dstart n ds) μ := fun ds μ Q ⟨hk, vs, pr, ap, h⟩ => by
  have m : Mt (dstart n ds) μ (startF n vs) := Mt.start pr ap
  refine ⟨startF n vs, m, ?_⟩
  unfold runF at h
  have out : ∀ {δ' μ' ε' bs r v}, Tr (dstart n ds) μ (startF n vs) δ' μ' ε' → bors vs ε' = some bs → OutR μ μ' r v → Out μ ds bs μ' r v := fun {δ' μ' ε' bs r v} t hb hr => by
    refine ⟨fun b c hb hn => t.fr b c hb fun ⟨i, _, z⟩ => hn i (dstart_get z), bors_ok pr (fun i c hc => ?_) hb, hr⟩
    obtain ⟨⟨c', h1⟩, h2⟩ := t.bo i c (startF_of hc)
    obtain ⟨d, h3, p, rfl, h4⟩ := paired_get pr hc
    obtain ⟨q, h5, h6⟩ := t.mt.cel i c' (getC_b h1)
    rw [h2, dstart_of h3] at h5
    cases h5
    exact ⟨c', p, h1, h3, h6⟩
  have nown : ∀ p, ¬ OwnA (dstart n ds) (startF n vs) p := fun p ⟨i, c, h1, h2⟩ => by
    obtain ⟨d, _, h3⟩ := paired_get pr (startF_get h1)
    exact h3
  cases e : f (startF n vs) with
  | no => rw [e] at h; exact h.elim
  | ex _ _ => rw [e] at h; exact h.elim
  | ok fl ε' =>
    rw [e] at h
    cases fl with
    | bk => exact h.elim
    | ct => exact h.elim
    | nx =>
      unfold fin at h
      intro δ' μ' t
      cases eb : bors vs ε' with
      | none => simp only [eb] at h; exact h.elim
      | some bs =>
        simp only [eb] at h
        exact h _ _ (out t eb rfl)
    | rt r =>
      intro δ' μ' v t rr
      cases r with
      | val x =>
        unfold fin at h
        cases eb : bors vs ε' with
        | none => simp only [eb] at h; exact h.elim
        | some bs =>
          simp only [eb] at h
          exact h _ _ (out t eb rr)
      | own c =>
        unfold fin at h
        cases eb : bors vs ε' with
        | none => simp only [eb] at h; exact h.elim
        | some bs =>
          simp only [eb] at h
          obtain ⟨p, h1, h2, h3⟩ := rr
          exact h _ _ (out t eb ⟨p, h1, h2, h3.resolve_right (nown p)⟩)
      | ref i =>
        unfold fin at h
        cases eb : bors vs ε' with
        | none =>
          simp only [eb] at h
          split at h
          · next h1 => cases h1
          · exact h.elim
        | some bs =>
          simp only [eb] at h
          split at h
          · next c bs' h2 h3 =>
            cases h3
            obtain ⟨hc, p, h4, h5⟩ := rr
            obtain ⟨q, h6, h7⟩ := t.mt.cel i c (getC_c h2)
            rw [h5] at h6
            cases h6
            refine h _ _ (out t eb ⟨p, h4, h7, ?_⟩)
            exact (t.nw p ⟨i, c, h2, h5⟩).resolve_left (nown p)
          · exact h.elim
/-! the call -/
def refsOf : List FR → List Nat
  | [] => []
  | .ref i :: rs => i :: refsOf rs
  | _ :: rs => refsOf rs
def argVs (ε : FSt) : List FR → Option (List FV)
  | [] => some []
  | .val x :: rs => (argVs ε rs).map (.d x :: ·)
  | .ref i :: rs => (getC ε i).bind fun c => (argVs ε rs).map (.b c :: ·)
  | .own _ :: _ => none
def putBack : List FR → List Cell → FSt → Option FSt
  | [], _, ε => some ε
  | .val _ :: rs, bs, ε => putBack rs bs ε
  | .ref i :: rs, b :: bs, ε => putBack rs bs (setC ε i b)
  | _, _, _ => none
def callR (F : Fn) (rs : List FR) (ε : FSt) : R FR := if (refsOf rs).Nodup then match argVs ε rs with
    | some vs => match F vs with
      | .ok r bs => match r, putBack rs bs ε with
        | .val x, some ε2 => .ok (.val x) ε2
        | .own c, some ε2 => .ok (.own c) ε2
        | _, _ => .no
      | _ => .no
    | none => .no
  else .no
def fCall (F : Fn) (fr : FTA) : FT := fun ε => (fr ε).bind (callR F)
def putsM : List FR → List DV → List Cell → Mu → Mu
  | .ref _ :: rs, .cell p :: ds, b :: bs, μ => putsM rs ds bs (put μ p b)
  | .val _ :: rs, _ :: ds, bs, μ => putsM rs ds bs μ
  | _, _, _, μ => μ
section
variable {δ : DSt} {μ μ1 : Mu} {ε ε1 : FSt}
theorem call_tr {μ0 : Mu} {ε0 : FSt} : ∀ {rs : List FR} {ds : List DV} {bs : List Cell} {μa : Mu} {εa ε2 : FSt}, TrE δ μ ε μa εa → PySem.Paired (fun r v => RF δ μ ε0 μ0 r v) rs ds → Kd ε0 εa → putBack rs bs εa = some ε2 → TrE δ μ ε (putsM rs ds bs μa) ε2
  | [], _, bs, μa, εa, ε2, t, .nil, k, h => by
    unfold putBack at h; cases h; unfold putsM; exact t
  | .val x :: rs, _, bs, μa, εa, ε2, t, .cons a p, k, h => by
    unfold putBack at h; unfold putsM; exact call_tr t p k h
  | .own x :: rs, _, bs, μa, εa, ε2, t, .cons a p, k, h => by
    cases bs <;> (unfold putBack at h; cases h)
  | .ref i :: rs, _, [], μa, εa, ε2, t, .cons a p, k, h => by
    unfold putBack at h; cases h
  | .ref i :: rs, _, b :: bs, μa, εa, ε2, t, .cons (b := d) a p, k, h => by
    unfold putBack at h
    obtain ⟨hc, q, rfl, hq⟩ := a
    unfold putsM
    obtain ⟨c, hcc⟩ := isC_some (k.isC.mp hc)
    have t2 := t.write (c' := b) hcc hq
    refine call_tr t2 p (k.trans ?_) h
    have t3 := (TrE.refl t.mt).write (c' := b) hcc hq
    exact t3.kd
theorem putsM_out : ∀ {rs : List FR} {ds : List DV} {bs : List Cell} {μa : Mu} {b : Addr}, (∀ i : Nat, ds[i]? ≠ some (DV.cell b)) → putsM rs ds bs μa b = μa b
  | [], ds, bs, μa, b, h => by cases ds <;> (try cases bs) <;> rfl
  | .val x :: rs, [], bs, μa, b, h => rfl
  | .val x :: rs, d :: ds, bs, μa, b, h => by unfold putsM; exact putsM_out fun i => h (i + 1)
  | .own x :: rs, ds, bs, μa, b, h => by cases ds <;> rfl
  | .ref i :: rs, [], bs, μa, b, h => rfl
  | .ref i :: rs, .d x :: ds, bs, μa, b, h => rfl
  | .ref i :: rs, .cell p :: ds, [], μa, b, h => rfl
  | .ref i :: rs, .cell p :: ds, c :: bs, μa, b, h => by
    unfold putsM
    rw [putsM_out fun i => h (i + 1)]
    exact put_ne fun e => h 0 (by rw [e]; rfl)
theorem putsM_in {μ' : Mu} : ∀ {rs : List FR} {ds : List DV} {bs : List Cell} {μa : Mu} {j : Nat} {b : Addr}, PySem.Paired (fun r v => match r with | .val x => v = .d x | .ref _ => ∃ p, v = .cell p | .own _ => False) rs ds → Apart ds → Back μ' ds bs → ds[j]? = some (.cell b) → putsM rs ds bs μa b = μ' b
  | [], _, _, _, j, b, .nil, ap, bk, h => by simp at h
  | .own x :: rs, _, _, _, j, b, .cons a p, ap, bk, h => a.elim
  | .val x :: rs, _, bs, _, j, b, .cons (b := d) a p, ap, bk, h => by
    cases (show d = .d x from a)
    unfold putsM
    cases j with
    | zero => simp at h
    | succ j => exact putsM_in p (fun i k q h1 h2 => by have := ap (i + 1) (k + 1) q h1 h2; omega) bk h
  | .ref i :: rs, _, bs, _, j, b, .cons (b := d) a p, ap, bk, h => by
    obtain ⟨q, rfl⟩ := a
    cases bs with
    | nil => exact bk.elim
    | cons c bs =>
      unfold putsM
      have ap' : Apart _ := fun i k q h1 h2 => by have := ap (i + 1) (k + 1) q h1 h2; omega
      cases j with
      | zero =>
        simp only [List.getElem?_cons_zero, Option.some.injEq, DV.cell.injEq] at h
        subst h
        rw [putsM_out fun i hi => by have := ap 0 (i + 1) q rfl hi; omega, put_same]
        exact bk.1.symm
      | succ j => exact putsM_in p ap' bk.2 h
theorem TrE.swap {μ' : Mu} (t : TrE δ μ ε μ1 ε1) (h1 : ∀ p, Adr δ ε1 p → μ' p = μ1 p) (h2 : ∀ b c, μ b = some c → ¬ Adr δ ε b → μ' b = some c) : TrE δ μ ε μ' ε1 :=
  ⟨⟨t.mt.len, t.mt.dat, fun i c h => by
    obtain ⟨p, h3, h4⟩ := t.mt.cel i c h
    exact ⟨p, h3, by rw [h1 p ⟨i, isC_of h, h3⟩]; exact h4⟩, t.mt.apart⟩, h2, t.kd⟩
theorem argVs_paired : ∀ {rs : List FR} {ds : List DV} {vs : List FV}, Mt δ μ1 ε1 → PySem.Paired (fun r v => RF δ μ ε1 μ1 r v) rs ds → argVs ε1 rs = some vs → PySem.Paired (fun d v => Arg1 μ1 d v) ds vs
  | [], _, _, m, .nil, h => by cases h; exact .nil
  | .own c :: rs, _, _, m, .cons a p, h => by cases h
  | .val x :: rs, _, _, m, .cons a p, h => by
    simp only [argVs, Option.map_eq_some_iff] at h
    obtain ⟨vs, h1, rfl⟩ := h
    exact .cons a (argVs_paired m p h1)
  | .ref i :: rs, _, _, m, .cons a p, h => by
    simp only [argVs, Option.bind_eq_some_iff, Option.map_eq_some_iff] at h
    obtain ⟨c, h0, vs, h1, rfl⟩ := h
    obtain ⟨hc, q, rfl, hq⟩ := a
    obtain ⟨q', h3, h4⟩ := m.cel i c h0
    rw [hq] at h3; cases h3
    exact .cons ⟨q, rfl, h4⟩ (argVs_paired m p h1)
theorem refs_mem : ∀ {rs : List FR} {j i : Nat}, rs[j]? = some (.ref i) → i ∈ refsOf rs
  | [], j, i, h => by simp at h
  | r :: rs, 0, i, h => by simp at h; subst h; simp [refsOf]
  | r :: rs, j + 1, i, h => by
    have := refs_mem (rs := rs) (j := j) (by simpa using h)
    cases r <;> simp [refsOf, this]
theorem refs_nodup : ∀ {rs : List FR} {j k i : Nat}, (refsOf rs).Nodup → rs[j]? = some (.ref i) → rs[k]? = some (.ref i) → j = k
  | [], j, k, i, n, h, g => by simp at h
  | r :: rs, 0, 0, i, n, h, g => rfl
  | r :: rs, 0, k + 1, i, n, h, g => by
    simp at h; subst h
    have := refs_mem (rs := rs) (j := k) (by simpa using g)
    simp [refsOf] at n
    exact (n.1 this).elim
  | r :: rs, j + 1, 0, i, n, h, g => by
    simp at g; subst g
    have := refs_mem (rs := rs) (j := j) (by simpa using h)
    simp [refsOf] at n
    exact (n.1 this).elim
  | r :: rs, j + 1, k + 1, i, n, h, g => by
    have n' : (refsOf rs).Nodup := by cases r <;> simp [refsOf] at n <;> first | exact n | exact n.2
    have := refs_nodup (rs := rs) (j := j) (k := k) n' (by simpa using h) (by simpa using g)
    omega
theorem paired_at {α β : Type} {F : α → β → Prop} : ∀ {l : List α} {r : List β}, PySem.Paired F l r → ∀ {i : Nat} {b : β}, r[i]? = some b → ∃ a, l[i]? = some a ∧ F a b
  | _, _, .nil, i, v, h => by simp at h
  | _, _, .cons h t, 0, v, e => by simp at e; subst e; exact ⟨_, rfl, h⟩
  | _, _, .cons h t, i + 1, v, e => by
    obtain ⟨d, h1, h2⟩ := paired_at t (i := i) (by simpa using e)
    exact ⟨d, by simpa using h1, h2⟩
theorem noown : ∀ {rs : List FR} {ds : List DV} {vs : List FV}, argVs ε1 rs = some vs → PySem.Paired (fun r v => RF δ μ ε1 μ1 r v) rs ds → PySem.Paired (fun r v => match r with | .val x => v = .d x | .ref _ => ∃ p, v = .cell p | .own _ => False) rs ds
  | [], _, _, h, .nil => .nil
  | .own c :: rs, _, _, h, .cons a p => by cases h
  | .val x :: rs, _, _, h, .cons a p => by
    simp only [argVs, Option.map_eq_some_iff] at h
    obtain ⟨vs, h1, rfl⟩ := h
    exact .cons a (noown h1 p)
  | .ref i :: rs, _, _, h, .cons a p => by
    simp only [argVs, Option.bind_eq_some_iff, Option.map_eq_some_iff] at h
    obtain ⟨c, h0, vs, h1, rfl⟩ := h
    obtain ⟨hc, q, rfl, hq⟩ := a
    exact .cons ⟨q, rfl⟩ (noown h1 p)
theorem call_core {F : Fn} {n : Nat} {rs : List FR} {ds : List DV} {Q : DV → Mu → Prop} (m : Mt δ μ ε) (t : TrE δ μ ε μ1 ε1) (rf : PySem.Paired (fun r v => RF δ μ ε1 μ1 r v) rs ds) (hn : rs.length = n) (h : fit (fun r v μ' ε' => RF δ μ ε' μ' r v) δ μ ε Q (callR F rs ε1)) : spF F n ds μ1 Q := by
  unfold callR at h
  split at h
  · next nd =>
    split at h
    · next vs ha =>
      have pr := argVs_paired t.mt rf ha
      have ap : Apart ds := fun i j p h1 h2 => by
        obtain ⟨r1, e1, f1⟩ := paired_at (noown ha rf) h1
        obtain ⟨r2, e2, f2⟩ := paired_at (noown ha rf) h2
        cases r1 with
        | val x => cases (show DV.cell p = .d x from f1)
        | own c => exact f1.elim
        | ref a =>
          cases r2 with
          | val x => cases (show DV.cell p = .d x from f2)
          | own c => exact f2.elim
          | ref b =>
            obtain ⟨r1', e1', g1⟩ := paired_at rf h1
            obtain ⟨r2', e2', g2⟩ := paired_at rf h2
            rw [e1] at e1'; cases e1'
            rw [e2] at e2'; cases e2'
            obtain ⟨c1, q1, k1, l1⟩ := g1
            obtain ⟨c2, q2, k2, l2⟩ := g2
            cases k1; cases k2
            have := t.mt.apart a b p c1 c2 l1 l2
            subst this
            exact refs_nodup nd e1 e2
      refine ⟨by rw [← Paired.length rf]; exact hn, vs, pr, ap, ?_⟩
      split at h
      · next r bs hF =>
        rw [hF]
        intro v μ' o
        have core : ∀ ε2, putBack rs bs ε1 = some ε2 → TrE δ μ ε μ' ε2 := fun ε2 h2 => by
          have t2 := call_tr t rf (.refl ε1) h2
          refine t2.swap (fun p hp => ?_) fun b c hb hn => ?_
          · by_cases hx : ∃ i : Nat, ds[i]? = some (DV.cell p)
            · obtain ⟨i, hi⟩ := hx
              exact (putsM_in (noown ha rf) ap o.bk hi).symm
            · have hx : ∀ i : Nat, ds[i]? ≠ some (DV.cell p) := fun i hi => hx ⟨i, hi⟩
              rw [putsM_out hx]
              obtain ⟨c, hc⟩ := t.mt.adr (p := p) (t.kd.adr.mp (t2.kd.adr.mpr hp))
              rw [hc]
              exact o.fr p c hc hx
          · refine o.fr b c (t.fr b c hb hn) fun i hi => hn ?_
            obtain ⟨r1, e1, f1⟩ := paired_at rf hi
            cases r1 with
            | val x => cases (show DV.cell b = .d x from f1)
            | own c =>
              obtain ⟨_, _, g⟩ := paired_at (noown ha rf) hi
              obtain ⟨r2, e2, f2⟩ := paired_at (noown ha rf) hi
              rw [e1] at e2; cases e2
              exact f2.elim
            | ref a =>
              obtain ⟨c1, q1, k1, l1⟩ := f1
              cases k1
              exact t.kd.adr.mpr ⟨a, c1, l1⟩
        have old : ∀ p, μ1 p = none → μ p = none := fun p hp => t.fresh m hp
        split at h
        · next x ε2 h2 => exact h _ _ (core ε2 h2) o.rs
        · next c ε2 h2 =>
          obtain ⟨p, k1, k2, k3⟩ := o.rs
          exact h _ _ (core ε2 h2) ⟨p, k1, k2, old p k3⟩
        · exact h.elim
      · exact h.elim
    · exact h.elim
  · exact h.elim
end
section
variable {X : Cx} {k n : Nat} {ps : List Str} {F : Fn} {x : Str} {p pos : Pos} {e : Expr} {es : List Expr} {fr : FTA} {st : Stmt}
/-- the length of the arguments told -/
structure ALen (fr : FTA) (n : Nat) : Prop where
  len : ∀ ε rs ε', fr ε = .ok rs ε' → rs.length = n
theorem alen_nil : ALen faNil 0 := ⟨fun ε rs ε' h => by cases h; rfl⟩
theorem alen_cons {fa : FT} {fr : FTA} {n : Nat} (h : ALen fr n) : ALen (faCons fa fr) (n + 1) := ⟨fun ε rs ε' e => by
  unfold faCons at e
  cases e1 : fa ε with
  | no => rw [e1] at e; cases e
  | ex _ _ => rw [e1] at e; cases e
  | ok a ε1 =>
    rw [e1, R.bind_ok] at e
    cases e2 : fr ε1 with
    | no => rw [e2] at e; cases e
    | ex _ _ => rw [e2] at e; cases e
    | ok as ε2 =>
      rw [e2, R.bind_ok] at e
      cases e
      rw [List.length_cons, h.len _ _ _ e2]⟩
theorem up_fCall (hn : ALen fr n) : ∀ δ μ Q, upF (fCall F fr) δ μ Q → dCallF (spF F n) (upFA fr) δ μ Q := fun δ μ Q ⟨ε, m, h⟩ => useA m h fun rs ε1 vs μ1 e t rf h1 => call_core m t rf (hn.len _ _ _ e) h1
theorem f_call (C : Cal X.prog X.w X.K X.mg X.base k x st ps (spF F n)) (hr : RoomG k X.A) (hg : Gl X x) (hb : ∀ f fd, Fun X.K x x st f fd → Binds X.K fd ps []) (ha : FA X (e :: es) fr) (hn : ALen fr n)
    (hdb : (x == ("__debug__" : Str)) = false := by decide) (he : starEach (e :: es) X.env = (false, eval e X.env) :: starEach es X.env := by rfl) (hpl : (backTo pos (starEach es X.env)).any (·.1) = false := by rfl) :
    FE X (.Call (.Name x p) (e :: es) [] pos) (fCall F fr) := d_imp (d_callC C hr hg hb ha hdb he hpl) (up_fCall hn)
theorem Cal.ofF {P : Program} {w : World} {K : PySem.W.Frag} {mg : Str → Option Value} {base : Heap} {N : List Str} {f : FS} (D : DefM K mg x st) (S : FnScope N ps (defScope st)) (hl : ps.length = n)
    (der : ∀ (g : Addr) (cdv : Value) (A : Around) (outer : List Env) (s : Shared) (H : Hp), RoomG k (A.deeper (envOfC x (defScope st) s.heap.objs.size g cdv)) → FSts (cxD P w K mg base N x (defScope st) g cdv A outer s H) (defBody st) f) : Cal P w K mg base (k + 1) x st ps (spF (runF N.length f) n) :=
  Cal.of D S (fun ds μ Q h => h.1.trans hl.symm) der fun ds μ Q h => run_up ds μ Q h
/-! keywords -/
abbrev FKw (X : Cx) (kws : List Keyword) (f : FTA) : Prop := DKw X kws (upFA f)
theorem dk_imp {kws : List Keyword} {t t' : DTA} (h : DKw X kws t) (w : ∀ δ μ Q, t' δ μ Q → t δ μ Q) : DKw X kws t' := pk_imp h fun σ H Q ⟨δ, μ, Qd, rs, rm, q, z⟩ => ⟨δ, μ, Qd, rs, rm, w _ _ _ q, z⟩
theorem fk_nil : FKw X [] faNil := dk_imp k_nil fun δ μ Q ⟨ε, m, h⟩ => h _ _ (.refl m) .nil
variable {nm : Option Str} {kpos : Pos} {kws : List Keyword} {fe : FT}
theorem fk_cons (ha : FE X e fe) (hr : FKw X kws fr) : FKw X (⟨nm, e, kpos⟩ :: kws) (faCons fe fr) := dk_imp (k_cons ha hr) up_faCons
def fCallK (F : Fn) (g : {α : Type} → List α → List α) (fr : FTA) : FT := fun ε => (fr ε).bind fun rs ε1 => callR F (g rs) ε1
/-- a reordering of keywords -/
structure Perm (g : {α : Type} → List α → List α) (n : Nat) : Prop where
  len : ∀ {α : Type} (l : List α), l.length = n → (g l).length = n
  rel : ∀ {α β : Type} {R : α → β → Prop} {l : List α} {r : List β}, l.length = n → PySem.Paired R l r → PySem.Paired R (g l) (g r)
theorem f_callK {ks : List Str} {g : {α : Type} → List α → List α} (C : Cal X.prog X.w X.K X.mg X.base k x st ps (spF F n)) (hr : RoomG k X.A) (hg : Gl X x) (hb : ∀ f fd, Fun X.K x x st f fd → KB X.K fd ps ks g) (P : Perm g n) (ha : FKw X kws fr) (hn : ALen fr n) (hks : ks.length = n := by rfl)
    (hall : (backToKw pos (keywordEach kws X.env)).all (·.1.isSome) = true := by rfl) (hkn : (backToKw pos (keywordEach kws X.env)).filterMap (·.1) = ks := by rfl) (hdb : (x == ("__debug__" : Str)) = false := by decide)
    (hpl : ((backTo pos (starEach [] X.env)).any (·.1) || (backToKw pos (keywordEach kws X.env)).any (·.1.isNone)) = false := by rfl) :
    FE X (.Call (.Name x p) [] kws pos) (fCallK F g fr) := d_imp (d_callCK C hr hg hb ha hall hkn hdb hpl) fun δ μ Q ⟨ε, m, h⟩ => useA m h fun rs ε1 vs μ1 e t rf h1 => by
  have hl := hn.len _ _ _ e
  exact ⟨by rw [← Paired.length rf, hl, hks], call_core m t (P.rel hl rf) (P.len rs hl) h1⟩
end
/-! ### the law's end -/
def Law (F : Fn) : Prop := ∀ ns : List Int, ns.length ≤ 63 → (∀ z ∈ ns, Builtin.Int.intBits z ≤ 1048576) → F [.d (.list (ns.map .int))] = .ok (.val (.bool true)) []
theorem law_sp {F : Fn} (h : Law F) : ∀ ns : List Int, ns.length ≤ 63 → (∀ z ∈ ns, Builtin.Int.intBits z ≤ 1048576) → spF F 1 [.d (.list (ns.map .int))] (fun _ => none) (fun d _ => d = .d (.bool true)) := fun ns h1 h2 =>
  ⟨rfl, [.d (.list (ns.map .int))], .cons rfl .nil, fun i j p e _ => by
    cases i with
    | zero => simp at e
    | succ i => simp at e, by rw [h ns h1 h2]; exact fun v μ' o => o.rs⟩
end FL

namespace FL
open PySem PySem.Spec PyProof.Rows L2 DL
/-! ### dicts with ints and texts as keys -/
inductive PD (K : PySem.W.Frag) (H : Hp) : List (Key × V) → List (Key × PyData) → Prop
  | nil : PD K H [] []
  | cons {k : Key} {v : V} {d : PyData} {ks : List (Key × V)} {kvs : List (Key × PyData)} : Da K H v d → PD K H ks kvs → PD K H ((k, v) :: ks) ((k, d) :: kvs)
abbrev KVs := List (Key × PyData)
def valD (kvs : KVs) (k : Key) : Option PyData := (kvs.find? fun kv => decide (kv.1 = k)).map (·.2)
def putD (kvs : KVs) (k : Key) (d : PyData) : KVs := if (kvs.any fun kv => decide (kv.1 = k)) = true then kvs.map (fun kv => if kv.1 = k then (kv.1, d) else kv) else kvs ++ [(k, d)]
def mergeD (kvs more : KVs) : KVs := more.foldl (fun acc kv => putD acc kv.1 kv.2) kvs
def keyOf : PyData → Option Key
  | .int i => some (.inl i)
  | .str x => some (.inr x)
  | _ => none
def kvsL : List (PyData × PyData) → Option KVs
  | [] => some []
  | (k, v) :: r => (keyOf k).bind fun k => (kvsL r).map ((k, v) :: ·)
def kvsOf : PyData → Option KVs
  | .dict ps => kvsL ps
  | _ => none
theorem keyOf_kD (k : Key) : keyOf (kD k) = some k := by cases k <;> rfl
theorem kvsL_map : ∀ (kvs : KVs), kvsL (kvs.map fun p => (kD p.1, p.2)) = some kvs
  | [] => rfl
  | (k, v) :: r => by simp only [List.map_cons, kvsL, keyOf_kD, Option.bind_some, kvsL_map r, Option.map_some]
theorem kvsOf_cell (kvs : KVs) : kvsOf (cellD (.dct kvs)) = some kvs := kvsL_map kvs
section
variable {K : PySem.W.Frag} {H : Hp}
theorem pd_of : ∀ {ks : List (Key × V)} {kvs : KVs}, ks.map (·.1) = kvs.map (·.1) → DaAll K H (ks.map (·.2)) (kvs.map (·.2)) → PD K H ks kvs
  | [], [], _, _ => .nil
  | [], _ :: _, e, _ => by cases e
  | _ :: _, [], e, _ => by cases e
  | (k, v) :: ks, (k', d) :: kvs, e, h => by
    simp only [List.map_cons, List.cons.injEq] at e h
    obtain ⟨e1, e2⟩ := e
    subst e1
    cases h with
    | cons a t => exact .cons a (pd_of e2 t)
theorem PD.keys : ∀ {ks : List (Key × V)} {kvs : KVs}, PD K H ks kvs → ks.map (·.1) = kvs.map (·.1)
  | _, _, .nil => rfl
  | _, _, .cons _ t => by rw [List.map_cons, List.map_cons, t.keys]
theorem PD.das : ∀ {ks : List (Key × V)} {kvs : KVs}, PD K H ks kvs → DaAll K H (ks.map (·.2)) (kvs.map (·.2))
  | _, _, .nil => .nil
  | _, _, .cons a t => .cons a t.das
theorem PD.len : ∀ {ks : List (Key × V)} {kvs : KVs}, PD K H ks kvs → ks.length = kvs.length
  | _, _, .nil => rfl
  | _, _, .cons _ t => by rw [List.length_cons, List.length_cons, t.len]
theorem PD.mono {H' : Hp} (e : Same H H') : ∀ {ks : List (Key × V)} {kvs : KVs}, PD K H ks kvs → PD K H' ks kvs
  | _, _, .nil => .nil
  | _, _, .cons a t => .cons (a.mono e) (t.mono e)
theorem PD.val (k : Key) : ∀ {ks : List (Key × V)} {kvs : KVs}, PD K H ks kvs → (valV ks k = none ∧ valD kvs k = none) ∨ ∃ v d, valV ks k = some v ∧ valD kvs k = some d ∧ Da K H v d
  | _, _, .nil => .inl ⟨rfl, rfl⟩
  | _, _, .cons (k := k') (v := v) (d := d) a t => by
    by_cases e : k' = k
    · subst e
      exact .inr ⟨v, d, by simp [valV], by simp [valD], a⟩
    · rcases t.val k with ⟨h1, h2⟩ | ⟨v', d', h1, h2, h3⟩
      · exact .inl ⟨by rw [valV_neg (p := (k', v)) e]; exact h1, by unfold valD at h2 ⊢; rw [List.find?_cons, decide_eq_false e]; exact h2⟩
      · exact .inr ⟨v', d', by rw [valV_neg (p := (k', v)) e]; exact h1, by unfold valD at h2 ⊢; rw [List.find?_cons, decide_eq_false e]; exact h2, h3⟩
theorem PD.anyk (k : Key) : ∀ {ks : List (Key × V)} {kvs : KVs}, PD K H ks kvs → (ks.any fun kv => decide (kv.1 = k)) = kvs.any fun kv => decide (kv.1 = k)
  | _, _, .nil => rfl
  | _, _, .cons _ t => by rw [List.any_cons, List.any_cons, t.anyk k]
theorem PD.mapk {k : Key} {v : V} {d : PyData} (h : Da K H v d) : ∀ {ks : List (Key × V)} {kvs : KVs}, PD K H ks kvs → PD K H (ks.map fun kv => if kv.1 = k then (kv.1, v) else kv) (kvs.map fun kv => if kv.1 = k then (kv.1, d) else kv)
  | _, _, .nil => .nil
  | _, _, .cons (k := k') a t => by
    rw [List.map_cons, List.map_cons]
    by_cases e : k' = k
    · simp only [e, if_true]; exact .cons h (by simpa using t.mapk h)
    · simp only [e, if_false]; exact .cons a (by simpa using t.mapk h)
theorem PD.app : ∀ {ks ls : List (Key × V)} {kvs lvs : KVs}, PD K H ks kvs → PD K H ls lvs → PD K H (ks ++ ls) (kvs ++ lvs)
  | _, _, _, _, .nil, h => h
  | _, _, _, _, .cons a t, h => .cons a (t.app h)
theorem PD.put {ks : List (Key × V)} {kvs : KVs} (p : PD K H ks kvs) {k : Key} {v : V} {d : PyData} (h : Da K H v d) : PD K H (putK ks k v) (putD kvs k d) := by
  unfold putK putD
  rw [p.anyk k]
  split
  · exact p.mapk h
  · exact p.app (.cons h .nil)
theorem PD.merge : ∀ {ms : List (Key × V)} {mvs : KVs} {ks : List (Key × V)} {kvs : KVs}, PD K H ms mvs → PD K H ks kvs → PD K H (mergeK ks ms) (mergeD kvs mvs)
  | _, _, _, _, .nil, p => p
  | _, _, _, _, .cons (k := k) a t, p => by
    unfold mergeK mergeD
    rw [List.foldl_cons, List.foldl_cons]
    exact t.merge (p.put a)
theorem kvsL_zip : ∀ {ks : List (Key × V)} {ds : List PyData} {kvs : KVs}, DaAll K H (ks.map (·.2)) ds → kvsL ((ks.map fun p => kD p.1).zip ds) = some kvs → PD K H ks kvs
  | [], _, _, h, e => by cases h; cases e; exact .nil
  | (k, v) :: ks, _, _, h, e => by
    cases h with
    | cons a t =>
      simp only [List.map_cons, List.zip_cons_cons, kvsL, keyOf_kD, Option.bind_some, Option.map_eq_some_iff] at e
      obtain ⟨r, e1, rfl⟩ := e
      exact .cons a (kvsL_zip t e1)
theorem look_dict {μ : Mu} {x : DV} {v : V} {a : PyData} {kvs : KVs} (m : RM K μ H) (r : RV K μ H v x) (h : look μ x = some a) (e : kvsOf a = some kvs) : ∃ p ks, v = .ref p ∧ H p = some (.dK ks) ∧ PD K (hid μ H) ks kvs := by
  cases x with
  | d y =>
    cases (show y = a from Option.some.inj h)
    unfold kvsOf at e
    split at e
    · next ps =>
      generalize hq : PyData.dict ps = q at r
      cases (show Da K (hid μ H) v q from r) with
      | @dct p ks ds s t =>
        cases hq
        exact ⟨p, ks, rfl, (hid_some s).1, kvsL_zip t e⟩
      | _ => cases hq
    · cases e
  | cell p =>
    have h : (μ p).map cellD = some _ := h
    cases e2 : μ p with
    | none => rw [e2] at h; cases h
    | some c =>
      rw [e2] at h
      cases (show cellD c = a from Option.some.inj h)
      cases c with
      | lst ds => cases e
      | dct kvs' =>
        rw [kvsOf_cell] at e
        cases e
        obtain ⟨ks, h1, h2, h3⟩ := m p _ e2
        exact ⟨p, ks, r, h1, pd_of h2 h3⟩
theorem kV_of {μ : Mu} {x : DV} {v : V} {a : PyData} {k : Key} (r : RV K μ H v x) (h : look μ x = some a) (e : keyOf a = some k) : v = kV k := by
  unfold keyOf at e
  split at e
  · cases e; exact look_int r h
  · cases e; exact look_str r h
  · cases e
end
section
variable {X : Cx} {pos apos cpos tpos : Pos} {o e f b i : Expr} {fo fe ff fi : FT} {to te tf ti : DT} {es : List Expr} {fr : FTA}
/-! d.get(k, z) -/
def dGetP (to ti td : DT) : DT := fun δ μ Q => to δ μ fun x μ1 => (∃ a kvs, look μ1 x = some a ∧ kvsOf a = some kvs) ∧ ti δ μ1 fun y μ2 => td δ μ2 fun z μ3 => ∃ a kvs b k c, look μ3 x = some a ∧ kvsOf a = some kvs ∧ look μ3 y = some b ∧ keyOf b = some k ∧ z = .d c ∧ Q (.d ((valD kvs k).getD c)) μ3
theorem d_getP (hu : X.A.units + 64 < cLine) (ho : DE X o to) (he : DE X e te) (hf : DE X f tf) (m : M2 X o "get" apos e f cpos := by exact ⟨rfl, rfl, rfl, rfl⟩) : DE X (.Call (.Attribute o "get" apos) [e, f] [] cpos) (dGetP to te tf) :=
  pe_imp (pe_dget2 (by omega) ho he hf m) fun σ H Q ⟨δ, μ, Qd, rs, rm, q, w⟩ => up_use rs rm q fun x μ1 v H1 e1 m1 r1 ⟨⟨a, kvs, ha, hk⟩, q1⟩ => by
    obtain ⟨p, ks, rfl, h1, h2⟩ := look_dict m1 r1 ha hk
    refine ⟨p, rfl, .inl ⟨ks, .inl h1⟩, up_use (rs.mono e1) m1 q1 fun y μ2 u H2 e2 m2 r2 q2 => up_use ((rs.mono e1).mono e2) m2 q2 fun z μ3 u3 H3 e3 m3 r3 ⟨a', kvs', b, k, c, g1, g2, g3, g4, g5, q3⟩ => ?_⟩
    subst g5
    obtain ⟨p', ks', e4, h3, h4⟩ := look_dict m3 ((r1.mono e2).mono e3) g1 g2
    cases e4
    have ek := kV_of (r2.mono e3) g3 g4
    subst ek
    refine ⟨_, DGet.k (k := k) h3, ?_⟩
    refine w _ _ _ _ (e1.trans (e2.trans e3)) m3 ?_ q3
    rcases h4.val k with ⟨k1, k2⟩ | ⟨v', d', k1, k2, k3⟩
    · rw [k1, k2]; exact r3
    · rw [k1, k2]; exact k3
def fGet (fo fi fd : FT) : FT := fun ε => (fo ε).bind fun x ε1 => match (see ε1 x).bind kvsOf with
  | none => .no
  | some _ => (fi ε1).bind fun y ε2 => (fd ε2).bind fun z ε3 => match (see ε3 x).bind kvsOf, (see ε3 y).bind keyOf, seeV z with
    | some kvs, some k, some c => .ok (.val ((valD kvs k).getD c)) ε3
    | _, _, _ => .no
theorem f_get (hu : X.A.units + 64 < cLine) (ho : FE X o fo) (he : FE X e fe) (hf : FE X f ff) (m : M2 X o "get" apos e f cpos := by exact ⟨rfl, rfl, rfl, rfl⟩) : FE X (.Call (.Attribute o "get" apos) [e, f] [] cpos) (fGet fo fe ff) :=
  d_imp (d_getP hu ho he hf m) fun δ μ Q ⟨ε, m, h⟩ => use1 m h fun r ε1 v μ1 e t rf h1 => by
    cases ho : (see ε1 r).bind kvsOf with
    | none => simp only [ho] at h1; exact h1.elim
    | some kvs =>
      simp only [ho] at h1
      simp only [Option.bind_eq_some_iff] at ho
      obtain ⟨a, h2, h3⟩ := ho
      refine ⟨⟨a, kvs, see_look t.mt rf h2, h3⟩, ?_⟩
      refine use1 (P := fun r v μ' ε' => RF δ μ ε' μ' r v) t.mt (fit_step t h1 fun _ _ _ _ _ p => p) fun r2 ε2 v2 μ2 e2 t2 rf2 h4 => ?_
      refine use1 (P := fun r v μ' ε' => RF δ μ ε' μ' r v) t2.mt (fit_step t2 h4 fun _ _ _ _ _ p => p) fun r3 ε3 v3 μ3 e3 t3 rf3 h5 => ?_
      have rfk := RF.keep t m (t2.trans t3) rf
      have rf2' := RF.keep (t.trans t2) m t3 (RF.back m t t2 rf2)
      split at h5
      · next kvs' k c g1 g2 g3 =>
        simp only [Option.bind_eq_some_iff] at g1 g2
        obtain ⟨a', g4, g5⟩ := g1
        obtain ⟨b, g6, g7⟩ := g2
        refine ⟨a', kvs', b, k, c, see_look t3.mt rfk g4, g5, see_look t3.mt rf2' g6, g7, ?_, h5 _ _ t3 rfl⟩
        cases r3 with
        | val y => cases g3; exact rf3
        | ref _ => cases g3
        | own _ => cases g3
      · exact h5.elim
/-! d[k] -/
noncomputable def gIxD (a b : PyData) : Option PyData := (kvsOf a).bind fun kvs => (keyOf b).bind fun k => valD kvs k
theorem d_ixP (hu : X.A.units + 64 < cLine) (ho : DE X o to) (hi : DE X i ti) (hs : NoSl i := by exact fun _ _ => rfl) : DE X (.Subscript o i pos) (dOp (rdP2 gIxD) to ti) :=
  pe_imp (pe_dget (by omega) ho hi hs) fun σ H Q ⟨δ, μ, Qd, rs, rm, q, w⟩ => up_use rs rm q fun x μ1 v H1 e1 m1 r1 q1 => up_use (rs.mono e1) m1 q1 fun y μ2 u H2 e2 m2 r2 ⟨a, b, z, ea, eb, ez, q2⟩ => by
    simp only [gIxD, Option.bind_eq_some_iff] at ez
    obtain ⟨kvs, hk, k, hb, hz⟩ := ez
    obtain ⟨p, ks, rfl, h1, h2⟩ := look_dict m2 (r1.mono e2) ea hk
    have ek := kV_of r2 eb hb
    subst ek
    rcases h2.val k with ⟨k1, k2⟩ | ⟨v', d', k1, k2, k3⟩
    · rw [k2] at hz; cases hz
    · rw [k2] at hz; cases hz
      have g := DGet.k (k := k) h1
      rw [k1] at g
      exact ⟨p, v', rfl, g, w (.d z) μ2 _ H2 (e1.trans e2) m2 k3 q2⟩
theorem f_ixD (hu : X.A.units + 64 < cLine) (ho : FE X o fo) (hi : FE X i fi) (hs : NoSl i := by exact fun _ _ => rfl) : FE X (.Subscript o i pos) (fOp gIxD fo fi) := d_imp (d_ixP hu ho hi hs) up_fOp
/-! k in d -/
noncomputable def gInD (b a : PyData) : Option PyData := (kvsOf a).bind fun kvs => (keyOf b).map fun k => .bool (valD kvs k).isSome
/-! d[k] = v -/
def rdSetK : DV → DV → DV → Mu → (Mu → Prop) → Prop := fun o i v μ Q => ∃ p kvs k x, o = .cell p ∧ μ p = some (.dct kvs) ∧ (∃ b, look μ i = some b ∧ keyOf b = some k) ∧ v = .d x ∧ kvs.length < 900000 ∧ Q (put μ p (.dct (putD kvs k x)))
theorem g_subK (hu : X.A.units + 64 < cLine) (ho : DE X o to) (hi : DE X b ti)
    (ha : ∀ v, assign (.Subscript o b pos) X.env v = (do
      let ov ← holding [v] (eval o X.env)
      let iv ← holding [v, ov] (eval b X.env)
      standAt pos
      holding [v, ov, iv] (setItem ov iv v)
      release [v, ov, iv] []) := by intro _; rfl) : DG true X (.Subscript o b pos) (gdSub to ti rdSetK) :=
  pg_imp (pg_sub ho hi (set_dict (by omega)) ha) fun v σ H Q ⟨δ, μ, d, Qd, rs, rm, r, q, w⟩ =>
    up_use rs rm q fun x μ1 ov H1 e1 m1 r1 q1 => up_use (rs.mono e1) m1 q1 fun y μ2 iv H2 e2 m2 r2 ⟨p, kvs, k, z, ex, hm, ⟨b, hb, hk⟩, ev, hl, q2⟩ => by
      subst ex ev
      cases (show ov = .ref p from r1)
      have ek := kV_of r2 hb hk
      subst ek
      obtain ⟨ks, h1, h2, h3⟩ := m2 p _ hm
      have pd := pd_of h2 h3
      refine ⟨p, _, rfl, DPut.k (k := k) (v := v) h1 (by rw [pd.len]; exact Nat.lt_of_lt_of_le hl (by decide)), ?_⟩
      have pd2 := pd.put (k := k) ((show Da X.K (hid μ H) v z from r).mono (e1.trans e2))
      have e12 := e1.trans (e2.trans (ext_write (p := p) (o := .dK (putK ks k v)) (c := .dct (putD kvs k z)) hm))
      refine w δ _ σ _ e12 (m2.write hm ⟨_, upd_same, pd2.keys, pd2.das.mono (ext_write hm)⟩) (rs.mono e12) q2
noncomputable def setK (o : FR) (k : Option PyData) (r : FR) (ε : FSt) : R Flow := match r, o, k.bind keyOf with
  | .val x, .ref i, some n => match getC ε i with
    | some (.dct kvs) => if kvs.length < 900000 then .ok .nx (setC ε i (.dct (putD kvs n x))) else .no
    | _ => .no
  | _, _, _ => .no
noncomputable def fsSetK (fo fi fe : FT) : FS := fun ε => (fe ε).bind fun r ε1 => (fo ε1).bind fun o ε2 => (fi ε2).bind fun k ε3 => setK o (see ε3 k) r ε3
theorem fs_setK (hu : X.A.units + 64 < cLine) (ho : FE X o fo) (hi : FE X b fi) (he : FE X e fe)
    (ha : ∀ v, assign (.Subscript o b tpos) X.env v = (do
      let ov ← holding [v] (eval o X.env)
      let iv ← holding [v, ov] (eval b X.env)
      standAt tpos
      holding [v, ov, iv] (setItem ov iv v)
      release [v, ov, iv] []) := by intro _; rfl)
    (hs : swapsWithSole [.Subscript o b tpos] e pos.line X.env = pure false := by rfl) (hw : swappedStores [.Subscript o b tpos] e X.env = pure none := by rfl)
    (h1 : (assignEach [.Subscript o b tpos] X.env).map (·.2) = [assign (.Subscript o b tpos) X.env] := by rfl) : FSt1 X (.Assign [.Subscript o b tpos] e pos) (fsSetK fo fi fe) :=
  s_imp (s_asg he (g_subK hu ho hi ha) hs hw h1) fun D δ μ ⟨ε, m, h⟩ => useSE m h fun r ε1 v μ1 t p h1 =>
    useSE t.mt (fitS_step m t.tr h1) fun o ε2 ov μ2 t2 p2 h2 => useSE (δ := δ) t2.mt (fitS_step t.mt t2.tr h2) fun k ε3 kv μ3 t3 p3 h3 => by
      unfold setK at h3
      split at h3
      · next x i n ek =>
        cases (show v = .d x from p)
        obtain ⟨hc, q, rfl, hq⟩ := p2
        simp only [Option.bind_eq_some_iff] at ek
        obtain ⟨b, hb, hk⟩ := ek
        split at h3
        · next kvs ec =>
          split at h3
          · next hl =>
            obtain ⟨q', k1, k2⟩ := t3.mt.cel i _ ec
            rw [hq] at k1; cases k1
            exact ⟨q, kvs, n, x, rfl, k2, ⟨b, see_look t3.mt p3 hb, hk⟩, rfl, hl, h3 _ _ (t3.write ec hq).tr⟩
          · exact h3.elim
        · exact h3.elim
      · exact h3.elim
end
/-! ### sorted(d), d of ints -/
def intKeys : KVs → Option (List Int)
  | [] => some []
  | (.inl i, _) :: r => (intKeys r).map (i :: ·)
  | _ :: _ => none
theorem intKeys_some : ∀ {kvs : KVs} {ns : List Int}, intKeys kvs = some ns → kvs.map (·.1) = ns.map Sum.inl
  | [], _, h => by cases h; rfl
  | (.inl i, d) :: r, _, h => by
    simp only [intKeys, Option.map_eq_some_iff] at h
    obtain ⟨ns, h1, rfl⟩ := h
    rw [List.map_cons, List.map_cons, intKeys_some h1]
  | (.inr i, d) :: r, _, h => by cases h
/-- ascending -/
def insI (x : Int) : List Int → List Int
  | [] => [x]
  | y :: r => if x ≤ y then x :: y :: r else y :: insI x r
def sortI (xs : List Int) : List Int := xs.foldr insI []
theorem insI_perm (x : Int) : ∀ l : List Int, (insI x l).Perm (x :: l)
  | [] => .refl _
  | y :: r => by
    unfold insI
    split
    · exact .refl _
    · exact ((insI_perm x r).cons y).trans (.swap x y r)
theorem sortI_perm : ∀ l : List Int, (sortI l).Perm l
  | [] => .refl _
  | x :: l => (insI_perm x (sortI l)).trans ((sortI_perm l).cons x)
theorem insI_sorted (x : Int) : ∀ {l : List Int}, l.Pairwise (· ≤ ·) → (insI x l).Pairwise (· ≤ ·)
  | [], _ => by simp [insI]
  | y :: r, h => by
    unfold insI
    rw [List.pairwise_cons] at h
    split
    · next hxy =>
      rw [List.pairwise_cons, List.pairwise_cons]
      exact ⟨fun z hz => by rcases List.mem_cons.mp hz with rfl | hz; exact hxy; exact Int.le_trans hxy (h.1 z hz), h⟩
    · next hxy =>
      rw [List.pairwise_cons]
      refine ⟨fun z hz => ?_, insI_sorted x h.2⟩
      rcases List.mem_cons.mp ((insI_perm x r).mem_iff.mp hz) with rfl | hz
      · omega
      · exact h.1 z hz
theorem sortI_sorted : ∀ l : List Int, (sortI l).Pairwise (· ≤ ·)
  | [] => .nil
  | x :: l => insI_sorted x (sortI_sorted l)
theorem sorted_uniq : ∀ {l r : List Int}, l.Perm r → l.Pairwise (· ≤ ·) → r.Pairwise (· ≤ ·) → l = r := by
  intro l
  induction l with
  | nil => intro r p _ _; exact p.nil_eq
  | cons x l ih =>
    intro r p h1 h2
    cases r with
    | nil => exact absurd p.length_eq (by simp)
    | cons y r =>
      rw [List.pairwise_cons] at h1 h2
      have exy : x = y := by
        have hx : x ∈ y :: r := p.mem_iff.mp List.mem_cons_self
        have hy : y ∈ x :: l := p.mem_iff.mpr List.mem_cons_self
        rcases List.mem_cons.mp hx with e | hx
        · exact e
        · rcases List.mem_cons.mp hy with e | hy
          · exact e.symm
          · exact Int.le_antisymm (h1.1 y hy) (h2.1 x hx)
      subst exy
      rw [ih (List.Perm.cons_inv p) h1.2 h2.2]
noncomputable def gSortD : List PyData → Option PyData
  | [a] => (kvsOf a).bind fun kvs => (intKeys kvs).bind fun ns => req (ns.length ≤ 900000) (some (.list ((sortI ns).map .int)))
  | _ => none
theorem p_sortD {K : PySem.W.Frag} : UpA K (rdPA gSortD) (fun xs H Q => ∃ (a : Addr) (kvs : List (Key × V)) (ks : List Int), xs = [.ref a] ∧ Rd H a (.dK kvs) ∧ kvs.map (·.1) = ks.map Sum.inl ∧ ks.length ≤ sizeLine ∧
    ∀ (ys : List Int) (p : Addr), ys.Perm ks → ys.Pairwise (· ≤ ·) → H p = none → Q (.ref p) (upd H p (.lst (ys.map V.int)))) := upA_1 (fun as z h => by unfold gSortD at h; split at h <;> first | exact ⟨_, rfl⟩ | cases h) fun x a z v μ Qd H Q m r e ez q w => by
  simp only [gSortD, Option.bind_eq_some_iff] at ez
  obtain ⟨kvs, h1, ns, h2, h3⟩ := ez
  obtain ⟨h4, h5⟩ := req_some h3
  cases h5
  obtain ⟨p, ks, rfl, g1, g2⟩ := look_dict m r e h1
  refine ⟨p, ks, ns, rfl, .inl g1, by rw [g2.keys, intKeys_some h2], Nat.le_trans h4 (by decide), fun ys a hp hs ha => ?_⟩
  obtain rfl : sortI ns = ys := sorted_uniq ((sortI_perm ns).trans hp.symm) (sortI_sorted ns) hs
  exact w (.d (.list ((sortI ns).map .int))) μ _ _ (ext_new ha) (m.new ha) (.lst (.of (by rw [hid_new m ha])) (DaAll.ints (sortI ns))) q
/-! ### sorted(set(xs)) -/
def dedI : List Int → List Int
  | [] => []
  | x :: r => if x ∈ r then dedI r else x :: dedI r
theorem dedI_mem : ∀ (l : List Int) (k : Int), k ∈ dedI l ↔ k ∈ l
  | [], k => by simp [dedI]
  | x :: r, k => by
    unfold dedI
    split
    · next h => rw [dedI_mem r k, List.mem_cons]; exact ⟨.inr, fun z => z.elim (fun e => e ▸ h) id⟩
    · rw [List.mem_cons, List.mem_cons, dedI_mem r k]
theorem dedI_nodup : ∀ l : List Int, (dedI l).Nodup
  | [] => .nil
  | x :: r => by
    unfold dedI
    split
    · exact dedI_nodup r
    · next h => exact List.nodup_cons.mpr ⟨fun z => h ((dedI_mem r x).mp z), dedI_nodup r⟩
def setI' (l : List Int) : List Int := sortI (dedI l)
theorem setI_lt (l : List Int) : (setI' l).Pairwise (· < ·) := by
  have h1 := sortI_sorted (dedI l)
  have h2 : (sortI (dedI l)).Nodup := (sortI_perm (dedI l)).nodup_iff.mpr (dedI_nodup l)
  exact (h1.and h2).imp fun ⟨a, b⟩ => by omega
theorem setI_mem (l : List Int) (k : Int) : k ∈ setI' l ↔ k ∈ l := by
  unfold setI'
  rw [(sortI_perm (dedI l)).mem_iff, dedI_mem]
theorem lt_uniq {l r : List Int} (h1 : l.Pairwise (· < ·)) (h2 : r.Pairwise (· < ·)) (h : ∀ k, k ∈ l ↔ k ∈ r) : l = r := by
  have n1 : l.Nodup := h1.imp fun h => Int.ne_of_lt h
  have n2 : r.Nodup := h2.imp fun h => Int.ne_of_lt h
  exact sorted_uniq ((List.perm_ext_iff_of_nodup n1 n2).mpr h) (h1.imp fun h => Int.le_of_lt h) (h2.imp fun h => Int.le_of_lt h)
noncomputable def gSortSet (a : PyData) : Option PyData := match a with
  | .list xs => (intsOf xs).bind fun ns => req (ns.length ≤ 4000) (some (.list ((setI' ns).map .int)))
  | _ => none
section
variable {X : Cx} {pos p p2 pos2 : Pos} {e : Expr} {fe : FT}
theorem f_sortSet (hc : X.calm = true) (hg : Gl X "sorted") (hm : X.mg "sorted" = none) (hg2 : Gl X "set") (hm2 : X.mg "set" = none) (he : FE X e fe)
    (h1 : starEach [e] X.env = (false, eval e X.env) :: starEach [] X.env := by rfl) (h2 : (backTo pos2 (starEach [] X.env)).any (·.1) = false := by rfl)
    (h3 : starEach [.Call (.Name "set" p2) [e] [] pos2] X.env = (false, eval (.Call (.Name "set" p2) [e] [] pos2) X.env) :: starEach [] X.env := by rfl) (h4 : (backTo pos (starEach [] X.env)).any (·.1) = false := by rfl) :
    FE X (.Call (.Name "sorted" p) [.Call (.Name "set" p2) [e] [] pos2] [] pos) (fUnV gSortSet fe) := d_imp (d_sortSet hc hg hm hg2 hm2 he h1 h2 h3 h4) fun δ μ Q ⟨ε, m, h⟩ => use1 m h fun r ε1 v μ1 e t rf h1 => by
  obtain ⟨z, ez, q⟩ := fit_ofO t h1
  simp only [Option.bind_eq_some_iff] at ez
  obtain ⟨a, e1, e2⟩ := ez
  cases r with
  | ref _ => cases e1
  | own _ => cases e1
  | val x =>
    cases e1
    cases (show v = .d a from rf)
    unfold gSortSet at e2
    split at e2
    · next xs =>
      simp only [Option.bind_eq_some_iff] at e2
      obtain ⟨ns, e3, e4⟩ := e2
      obtain ⟨e5, e6⟩ := req_some e4
      cases e6
      refine ⟨ns, intsOf_some e3, e5, fun ys hy hm => ?_⟩
      obtain rfl : setI' ns = ys := lt_uniq (setI_lt ns) hy fun k => (setI_mem ns k).trans (hm k).symm
      exact q
    · cases e2
end
end FL

namespace FL
open PySem PySem.Spec PyProof.Rows L2 DL
/-! ### dict(a tuple, a list, of pairs) -/
theorem call_dictTP {X : Cx} (hcalm : X.calm = true) : CallR X (.type "dict") (fun xs H Q => ∃ (a : Addr) (ps : List Addr) (kvs : List (Key × V)), xs = [.ref a] ∧ SqP X.K H a (ps.map V.ref) ∧ Paired (fun p kv => SqT X.K H p [kV kv.1, kv.2]) ps kvs ∧
    ∀ p, H p = none → Q (.ref p) (upd H p (.dK (mergeK [] kvs)))) := by
  intro pins s σ H xs us Q I r q
  obtain ⟨a, ps, kvs, ex, hq, hp, q⟩ := q
  subst ex
  obtain ⟨u, eu, rx⟩ := vals1 r
  subst eu
  cases rx
  obtain ⟨its, rv, ht, hz⟩ := I.tuple hq.t
  have ei := refs_at rv
  subst ei
  rw [List.length_map] at hz
  obtain ⟨prs, rel, hl, hpr⟩ := pairs_of I hp
  have pl : PySem.PlainSeq "tuple" s.heap a (ps.map Value.ref).toArray := by
    obtain ⟨o, ho, hc, n, hdat⟩ := ht
    rcases hq with ⟨o', e', t⟩ | ⟨o', its', n', e', t, _⟩
    · obtain ⟨g1, _⟩ := I.hok a _ e'
      rw [ho] at g1; cases g1
      exact ⟨o, n, ho, hc, t.nd, hdat⟩
    · have g1 := I.kIn _ _ e'
      rw [ho] at g1; cases g1
      exact ⟨o, n, ho, hc, t.nd, hdat⟩
  have hlen : ps.length = prs.length := hl.symm
  have hval : ∀ j (q' : Key × Value), prs[j]? = some q' → ∃ (b : Addr) (u : Value), ps[j]? = some b ∧ IsTup s.heap b #[u, q'.2] ∧ keyIs q'.1 u = true := hpr
  -- the pairs by their values
  have key : ∃ pvs : List (Value × Value), pvs.length = ps.length ∧ ∀ (j : Nat) (k v : Value), pvs[j]? = some (k, v) → ∃ (b : Addr) (kk : Key), ps[j]? = some b ∧ IsTup s.heap b #[k, v] ∧ prs[j]? = some (kk, v) ∧ keyIs kk k = true := by
    have gen : ∀ (qs : List (Key × Value)) (n : Nat), (∀ j (q' : Key × Value), qs[j]? = some q' → ∃ (b : Addr) (u : Value), ps[n + j]? = some b ∧ IsTup s.heap b #[u, q'.2] ∧ keyIs q'.1 u = true) →
        ∃ pvs : List (Value × Value), pvs.length = qs.length ∧ ∀ (j : Nat) (k v : Value), pvs[j]? = some (k, v) → ∃ (b : Addr) (kk : Key), ps[n + j]? = some b ∧ IsTup s.heap b #[k, v] ∧ qs[j]? = some (kk, v) ∧ keyIs kk k = true := by
      intro qs
      induction qs with
      | nil => intro n _; exact ⟨[], rfl, fun j k v e => by simp at e⟩
      | cons q0 qs ih =>
        intro n h
        obtain ⟨pvs, e1, e2⟩ := ih (n + 1) (fun j q' e => by have := h (j + 1) q' (by simpa using e); rwa [show n + 1 + j = n + (j + 1) by omega])
        obtain ⟨b, u, f1, f2, f3⟩ := h 0 q0 rfl
        refine ⟨(u, q0.2) :: pvs, by simp [e1], fun j k v e => ?_⟩
        cases j with
        | zero =>
          simp at e
          obtain ⟨rfl, rfl⟩ := e
          exact ⟨b, q0.1, f1, f2, rfl, f3⟩
        | succ j =>
          obtain ⟨b', kk, g1, g2, g3, g4⟩ := e2 j k v (by simpa using e)
          exact ⟨b', kk, by rwa [show n + (j + 1) = n + 1 + j by omega], g2, by simpa using g3, g4⟩
    obtain ⟨pvs, e1, e2⟩ := gen prs 0 (fun j q' e => by simpa using hval j q' e)
    exact ⟨pvs, by rw [e1, hl], fun j k v e => by simpa using e2 j k v e⟩
  obtain ⟨pvs, e1, e2⟩ := key
  refine PySem.call_dict_pairs (knd := mixKind X.prog X.w) (kvs := prs) (PySem.PairArg.tuple a (ps.map Value.ref).toArray (fun j => (ps[j]?).getD 0) pvs) (I.ok.hd hcalm) ⟨pl, by simp [e1], fun j k v e => ?_⟩ ⟨by rw [e1, hl], fun i k v e => ?_⟩ (by rw [e1]; exact hz) fun h' tk hd' k => ?_
  · obtain ⟨b, kk, g1, g2, g3, g4⟩ := e2 j k v e
    refine ⟨by simp [g1], ?_⟩
    simp only [g1, Option.getD_some]
    exact .inl g2
  · obtain ⟨b, kk, g1, g2, g3, g4⟩ := e2 i k v e
    exact ⟨kk, g3, g4⟩
  · have hm : (s.heap.objs.size == sysModules) = false := beq_eq_false_iff_ne.mpr (Nat.ne_of_gt I.big)
    have hlen : (mergeK [] kvs).length ≤ sizeLine := by
      refine Nat.le_trans (length_mergeK kvs []) ?_
      rw [List.length_nil, Nat.zero_add, rel.length, hl]
      exact hz
    exact ⟨.ref s.heap.objs.size, upd H s.heap.objs.size (.dK (mergeK [] kvs)), I.laid (t' := tk) (fun b o e => k b o (by simp) e) (Nat.le_refl _) (show ObjOk X.prog X.w _ _ _ (.dK (mergeK [] kvs)) from ⟨hlen, hm, merged [] prs, KV.merge rel .nil, hd'⟩), rfl, q _ (I.hok.fresh (Nat.le_refl _))⟩
def pairsK : List PyData → Option KVs
  | [] => some []
  | .tuple [k, v] :: r => (keyOf k).bind fun k => (pairsK r).map ((k, v) :: ·)
  | _ :: _ => none
theorem pairsK_da {K : PySem.W.Frag} {H : Hp} : ∀ {ds : List PyData} {vs : List V} {kvs : KVs}, DaAll K H vs ds → pairsK ds = some kvs → ∃ (ps : List Addr) (ks : List (Key × V)), vs = ps.map V.ref ∧ Paired (fun p kv => SqT K H p [kV kv.1, kv.2]) ps ks ∧ PD K H ks kvs
  | [], _, _, .nil, h => by cases h; exact ⟨[], [], rfl, .nil, .nil⟩
  | d :: ds, _, _, .cons a t, h => by
    unfold pairsK at h
    split at h
    · next he => cases he
    · next k v r he =>
      cases he
      simp only [Option.bind_eq_some_iff, Option.map_eq_some_iff] at h
      obtain ⟨kk, hk, rest, hr, rfl⟩ := h
      obtain ⟨ps, ks, rfl, h1, h2⟩ := pairsK_da t hr
      cases a with
      | @tup p vs _ s t' =>
        cases t' with
        | @cons v1 _ _ _ a1 t1 => cases t1 with
          | @cons v2 _ _ _ a2 t2 =>
            cases t2
            have e : v1 = kV kk := by
              unfold keyOf at hk
              split at hk
              · cases hk; cases a1; rfl
              · cases hk; cases a1; rfl
              · cases hk
            subst e
            exact ⟨p :: ps, (kk, v2) :: ks, rfl, .cons s.t h1, .cons a2 h2⟩
    · cases h
section
variable {X : Cx} {pos p : Pos} {a b e : Expr} {fa fb fe : FT} {es : List Expr} {fr : FTA}
def gDictO (a : PyData) : Option Cell := match a with
  | .tuple xs => (pairsK xs).map fun kvs => .dct (mergeD [] kvs)
  | _ => none
def dDictT (te : DT) : DT := fun δ μ Q => te δ μ fun x μ1 => ∃ a c, x = .d a ∧ gDictO a = some c ∧ ∀ p, μ1 p = none → Q (.cell p) (put μ1 p c)
theorem d_dictT' {te : DT} (hc : X.calm = true) (hg : Gl X "dict") (hm : X.mg "dict" = none) (he : DE X e te) (h1 : starEach [e] X.env = (false, eval e X.env) :: starEach [] X.env := by rfl) (h2 : (backTo pos (starEach [] X.env)).any (·.1) = false := by rfl) :
    DE X (.Call (.Name "dict" p) [e] [] pos) (dDictT te) :=
  pe_imp (pe_callTy (call_dictTP hc) hg hm (by decide +kernel) (pa_cons he pa_nil h1) (by decide) (by decide) h1 h2) fun σ H Q ⟨δ, μ, Qd, rs, rm, q, w⟩ => up_use rs rm q fun x μ1 v H1 e1 m1 r1 ⟨a, c, ex, hg', q1⟩ => by
    subst ex
    cases a with
    | tuple xs =>
      simp only [gDictO, Option.map_eq_some_iff] at hg'
      obtain ⟨kvs, hk, rfl⟩ := hg'
      cases (show Da X.K (hid μ1 H1) v (.tuple xs) from r1) with
      | @tup p vs _ s t =>
        obtain ⟨ps, ks, rfl, h3, h4⟩ := pairsK_da t hk
        refine ⟨p, ps, ks, rfl, s.mono unhid, L2.Paired.mapP h3 fun _ _ z => same_seqW unhid z, fun r hr => ?_⟩
        have pd := h4.merge (PD.nil (K := X.K) (H := hid μ1 H1))
        exact w (.cell r) (put μ1 r (.dct (mergeD [] kvs))) _ _ (e1.trans (ext_cell hr)) (m1.cell (c := .dct (mergeD [] kvs)) hr ⟨_, upd_same, pd.keys, pd.das.mono (ext_cell hr)⟩) rfl (q1 r (m1.free hr))
    | _ => cases hg'
def fDict (fe : FT) : FT := fun ε => (fe ε).bind fun r ε1 => match (seeV r).bind gDictO with
  | some c => .ok (.own c) ε1
  | none => .no
theorem f_dict (hc : X.calm = true) (hg : Gl X "dict") (hm : X.mg "dict" = none) (he : FE X e fe) (h1 : starEach [e] X.env = (false, eval e X.env) :: starEach [] X.env := by rfl) (h2 : (backTo pos (starEach [] X.env)).any (·.1) = false := by rfl) :
    FE X (.Call (.Name "dict" p) [e] [] pos) (fDict fe) := d_imp (d_dictT' hc hg hm he h1 h2) fun δ μ Q ⟨ε, m, h⟩ => use1 m h fun r ε1 v μ1 e t rf h1 => by
  cases ho : (seeV r).bind gDictO with
  | none => rw [ho] at h1; exact h1.elim
  | some c =>
    rw [ho] at h1
    simp only [Option.bind_eq_some_iff] at ho
    obtain ⟨a, e1, e2⟩ := ho
    cases r with
    | ref _ => cases e1
    | own _ => cases e1
    | val x =>
      cases e1
      cases (show v = .d a from rf)
      exact ⟨a, c, rfl, e2, fun p hp => h1 _ _ (t.new hp) ⟨p, rfl, put_same, t.fresh m hp⟩⟩
/-! ### isinstance -/
def fIsi (T : String) (fe : FT) : FT := fUnV (fun d => some (.bool ((kitB (kindOf d) T).getD false))) fe
theorem f_isi {T : String} {xi xt : Str} {p pt : Pos} (hT : ∀ t ∈ ["NoneType", "bool", "int", "str", "list", "tuple", "dict"], (kitB t T).isSome = true) (hg : Gl X xi) (hm : X.mg xi = none) (hv : bootBuiltins xi = some (.builtin "isinstance"))
    (hgt : Gl X xt) (hmt : X.mg xt = none) (hvt : bootBuiltins xt = some (.type T)) (ha : FE X a fa) (hn : xi ≠ "__name__" := by decide) (hdb : (xi == ("__debug__" : Str)) = false := by decide) (hnt : xt ≠ "__name__" := by decide) (hdbt : (xt == ("__debug__" : Str)) = false := by decide)
    (he : starEach [a, .Name xt pt] X.env = (false, eval a X.env) :: starEach [.Name xt pt] X.env := by rfl) (hpl : (backTo pos (starEach [.Name xt pt] X.env)).any (·.1) = false := by rfl) (hs1 : starEach [.Name xt pt] X.env = (false, eval (.Name xt pt) X.env) :: starEach [] X.env := by rfl) :
    FE X (.Call (.Name xi p) [a, .Name xt pt] [] pos) (fIsi T fa) := d_imp (d_isi hT hg hm hv hgt hmt hvt ha hn hdb hnt hdbt he hpl hs1) fun δ μ Q ⟨ε, m, h⟩ => use1 m h fun r ε1 v μ1 e t rf h1 => by
  obtain ⟨z, ez, q⟩ := fit_ofO t h1
  simp only [Option.bind_eq_some_iff] at ez
  obtain ⟨a, e1, e2⟩ := ez
  cases r with
  | ref _ => cases e1
  | own _ => cases e1
  | val x =>
    cases e1
    cases (show v = .d a from rf)
    cases e2
    exact q
/-! ### dicts of the module -/
def gInK (ks : List Int) : PyData → Option PyData
  | .int i => some (.bool (decide (i ∈ ks)))
  | _ => none
theorem f_inK {x : Str} {p : Pos} {ks : List Int} (D : KName X.K X.mg x ks) (hg : Gl X x) (ha : FE X a fa) (hm : behindInMarks .In (.Name x p) = false := by rfl) (hdb : (x == ("__debug__" : Str)) = false := by decide) : FE X (.Compare a [.In] [.Name x p] pos) (fUnV (gInK ks) fa) :=
  d_imp (d_inK D hg ha hm hdb) fun δ μ Q ⟨ε, m, h⟩ => use1 m h fun r ε1 v μ1 e t rf h1 => by
    obtain ⟨z, ez, q⟩ := fit_ofO t h1
    simp only [Option.bind_eq_some_iff] at ez
    obtain ⟨a, e1, e2⟩ := ez
    cases r with
    | ref _ => cases e1
    | own _ => cases e1
    | val x =>
      cases e1
      cases (show v = .d a from rf)
      unfold gInK at e2
      split at e2
      · cases e2; exact q
      · cases e2
def gIxK (t : List (Int × List Int)) : PyData → Option PyData
  | .int k => (lkp t k).map fun ns => .tuple (ns.map .int)
  | _ => none
theorem f_ixK {i : Expr} {fi : FT} {x : Str} {p pos : Pos} {t : List (Int × List Int)} (D : KTup X.K X.mg x t) (hg : Gl X x) (hi : FE X i fi) (hs : NoSl i := by exact fun _ _ => rfl) (hdb : (x == ("__debug__" : Str)) = false := by decide) :
    FE X (.Subscript (.Name x p) i pos) (fUnV (gIxK t) fi) := d_imp (d_ixK D hg hi hs hdb) fun δ μ Q ⟨ε, m, h⟩ => use1 m h fun r ε1 v μ1 e t rf h1 => by
  obtain ⟨z, ez, q⟩ := fit_ofO t h1
  simp only [Option.bind_eq_some_iff] at ez
  obtain ⟨a, e1, e2⟩ := ez
  cases r with
  | ref _ => cases e1
  | own _ => cases e1
  | val x =>
    cases e1
    cases (show v = .d a from rf)
    unfold gIxK at e2
    split at e2
    · simp only [Option.map_eq_some_iff] at e2
      obtain ⟨ns, e3, rfl⟩ := e2
      simp only [e3]
      exact q
    · cases e2
/-! ### products, bit_length -/
noncomputable def gMul := gI Bits fun i j => PyData.int (i * j)
theorem f_mul (ha : FE X a fa) (hb : FE X b fb) : FE X (.BinOp a .Mult b pos) (fOp gMul fa fb) := d_imp (d_op op_mulB (upP_I fun _ _ _ => .int _) ha hb) up_fOp
/-- a list, written, so many times -/
def lstOf (ε : FSt) : FR → Option (List PyData)
  | .own (.lst xs) => some xs
  | .ref i => match getC ε i with
    | some (.lst xs) => some xs
    | _ => none
  | _ => none
noncomputable def repR (o : Option (List PyData)) (k : Option PyData) (ε : FSt) : R FR := match o, k with
  | some xs, some (.int k) => if -(2 ^ 63) ≤ k ∧ k < 2 ^ 63 ∧ xs.length * k.toNat ≤ 900000 then .ok (.own (.lst (List.replicate k.toNat xs).flatten)) ε else .no
  | _, _ => .no
noncomputable def fRep (fa fb : FT) : FT := fun ε => (fa ε).bind fun x ε1 => (fb ε1).bind fun y ε2 => repR (lstOf ε2 x) (see ε2 y) ε2
theorem f_rep (ha : FE X a fa) (hb : FE X b fb) : FE X (.BinOp a .Mult b pos) (fRep fa fb) := d_imp (d_repC ha hb) fun δ μ Q ⟨ε, m, h⟩ =>
  use1 m h fun r ε1 v μ1 e t rf h1 => use1 (P := fun r v μ' ε' => RF δ μ ε' μ' r v) t.mt (fit_step t h1 fun _ _ _ _ _ p => p) fun r2 ε2 v2 μ2 e2 t2 rf2 h2 => by
    have rfk := RF.keep t m t2 rf
    have h3 : fit (fun r v μ' ε' => RF δ μ ε' μ' r v) δ μ1 ε1 Q (repR (lstOf ε2 r) (see ε2 r2) ε2) := h2
    unfold repR at h3
    split at h3
    · next xs k g1 g2 =>
      split at h3
      · next hb =>
        cases look_int' (see_look t2.mt rf2 g2)
        have fin : ∀ q, μ2 q = none → Q (.cell q) (put μ2 q (.lst (List.replicate k.toNat xs).flatten)) := fun q hq => h3 _ _ (t2.new hq) ⟨q, rfl, put_same, (t.trans t2).fresh m hq⟩
        cases r with
        | val x => cases g1
        | own c =>
          cases c with
          | dct _ => cases g1
          | lst ys =>
            cases g1
            obtain ⟨p, rfl, h5, h6⟩ := rfk
            exact ⟨_, h5, hb.1, hb.2.1, hb.2.2, fin⟩
        | ref i =>
          obtain ⟨hc, p, rfl, hp⟩ := rfk
          simp only [lstOf] at g1
          split at g1
          · next ys hys =>
            cases g1
            obtain ⟨p', h5, h6⟩ := t2.mt.cel i _ hys
            rw [hp] at h5; cases h5
            exact ⟨_, h6, hb.1, hb.2.1, hb.2.2, fin⟩
          · cases g1
      · exact h3.elim
    · exact h3.elim
def gBitl := gU fun i => .int (Builtin.Int.intBits i : Nat)
theorem f_bitl {o : Expr} {fo : FT} {apos : Pos} (ho : FE X o fo) (hbase : attributeBase o "bit_length" X.env (eval o X.env) = eval o X.env := by rfl) (hline : (apos.endLine == pos.line) = true := by rfl) : FE X (.Call (.Attribute o "bit_length" apos) [] [] pos) (fUn gBitl fo) :=
  d_imp (d_bitl ho hbase hline) fun δ μ Q ⟨ε, m, h⟩ => use1 m h fun r ε1 v μ1 e t rf h1 => by
    obtain ⟨z, ez, q⟩ := fit_ofO t h1
    simp only [Option.bind_eq_some_iff] at ez
    obtain ⟨a, e1, e2⟩ := ez
    unfold gBitl gU at e2
    split at e2
    · next i =>
      cases e2
      cases look_int' (see_look t.mt rf e1)
      exact q
    · cases e2
/-! ### list(..) to be changed; statements -/
noncomputable def fListO (fe : FT) : FT := fun ε => (fe ε).bind fun r ε1 => match (seeV r).bind itemsOf with
  | some xs => .ok (.own (.lst xs)) ε1
  | none => .no
theorem f_listO {p : Pos} (hg : Gl X "list") (hm : X.mg "list" = none) (he : FE X e fe) (h1 : starEach [e] X.env = (false, eval e X.env) :: starEach [] X.env := by rfl) (hpl : (backTo pos (starEach [] X.env)).any (·.1) = false := by rfl) :
    FE X (.Call (.Name "list" p) [e] [] pos) (fListO fe) := d_imp (d_callTy call_list_of u_listC hg hm (by decide +kernel) (a_cons he a_nil h1) (by decide) (by decide) h1 hpl) fun δ μ Q ⟨ε, m, h⟩ => by
  refine use1 m h fun r ε1 v μ1 e t rf h1 => ?_
  cases ho : (seeV r).bind itemsOf with
  | none => rw [ho] at h1; exact h1.elim
  | some xs =>
    rw [ho] at h1
    simp only [Option.bind_eq_some_iff] at ho
    obtain ⟨a, e1, e2⟩ := ho
    cases r with
    | ref _ => cases e1
    | own _ => cases e1
    | val x =>
      cases e1
      cases (show v = .d a from rf)
      have fin : ∀ p, μ1 p = none → Q (.cell p) (put μ1 p (.lst xs)) := fun p hp => h1 _ _ (t.new hp) ⟨p, rfl, put_same, t.fresh m hp⟩
      unfold itemsOf at e2
      split at e2
      · cases e2; exact fin
      · cases e2; exact fin
      · cases e2
def fsNever : FS := fun _ => .no
theorem fs_never {st : Stmt} : FSt1 X st fsNever := s_imp s_never fun D δ μ ⟨ε, m, h⟩ => h.elim
end
section
variable {δ : DSt} {μ μ1 : Mu} {ε ε1 : FSt} {D : DEnds}
theorem useSA {fr : FTA} {k : List FR → FSt → R Flow} {Q' : List DV → Mu → Prop} (m : Mt δ μ ε) (h : fitS D δ μ ε ((fr ε).bind k))
    (w : ∀ rs ε1 vs μ1, TrE δ μ ε μ1 ε1 → PySem.Paired (fun r v => RF δ μ ε1 μ1 r v) rs vs → fitS D δ μ ε (k rs ε1) → Q' vs μ1) : upFA fr δ μ Q' := by
  refine ⟨ε, m, ?_⟩
  cases e : fr ε with
  | no => rw [e] at h; exact h.elim
  | ex _ _ => rw [e] at h; exact h.elim
  | ok r ε1 => rw [e] at h; exact fun v μ1 t p => w r ε1 v μ1 t p h
/-- a further slot gets data -/
theorem Tr.setD2 (m : Mt δ μ ε) {δ1 : DSt} (t : Tr δ μ ε δ1 μ1 ε1) {i : Nat} {x : PyData} (hb : isBb ε1 i = false) : Tr δ μ ε (δ1.set i (some (.d x))) μ1 (ε1.set i (some (.d x))) := t.trans m (Tr.setD t.mt hb)
def setR2 (i j : Nat) (x y : FR) (ε : FSt) : R Flow := match x, y with
  | .val a, .val b => if isBb ε i = false ∧ isBb ε j = false then .ok .nx ((ε.set i (some (.d a))).set j (some (.d b))) else .no
  | .own c, .val b => if isBb ε i = false ∧ isBb ε j = false then .ok .nx ((ε.set i (some (.c c))).set j (some (.d b))) else .no
  | .val a, .own c => if isBb ε i = false ∧ isBb ε j = false then .ok .nx ((ε.set i (some (.d a))).set j (some (.c c))) else .no
  | _, _ => .no
theorem isBb_set {ε : FSt} {i j : Nat} {x : FV} (hb : isBb ε j = false) (hx : ∀ c, x ≠ .b c) : isBb (ε.set i (some x)) j = false := by
  unfold isBb at hb ⊢
  by_cases e : i = j
  · subst e
    by_cases hl : i < ε.length
    · rw [List.getElem?_set_self hl]
      cases x with
      | b c => exact (hx c rfl).elim
      | _ => rfl
    · rw [List.getElem?_eq_none (by simpa using hl)]
  · rw [List.getElem?_set_ne e]; exact hb
theorem setR2_fit {i j : Nat} (hij : i ≠ j) {x y : FR} {v u : DV} (m : Mt δ μ ε) (t : TrE δ μ ε μ1 ε1) (rx : RF δ μ ε1 μ1 x v) (ry : RF δ μ ε1 μ1 y u) (h : fitS D δ μ ε (setR2 i j x y ε1)) : D.nx ((δ.set i (some v)).set j (some u)) μ1 := by
  unfold setR2 at h
  split at h
  · next a b =>
    split at h
    · next hb =>
      cases (show v = .d a from rx)
      cases (show u = .d b from ry)
      exact h _ _ (Tr.setD2 m (t.setS m (r := .val a) rfl hb.1 rfl) (isBb_set hb.2 (fun c e => by cases e)))
    · exact h.elim
  · next c b =>
    split at h
    · next hb =>
      cases (show u = .d b from ry)
      exact h _ _ (Tr.setD2 m (t.setS m (r := .own c) rx hb.1 rfl) (isBb_set hb.2 (fun c e => by cases e)))
    · exact h.elim
  · next a c =>
    split at h
    · next hb =>
      cases (show v = .d a from rx)
      have t1 := Tr.setD2 m (t.setS m (r := .own c) ry hb.2 rfl) (i := i) (x := a) (isBb_set hb.1 (fun c e => by cases e))
      rw [List.set_comm _ _ (Ne.symm hij)] at t1
      rw [List.set_comm _ _ (Ne.symm hij)] at t1
      exact h _ _ t1
    · exact h.elim
  · exact h.elim
end
section
variable {X : Cx} {pos p : Pos} {a b e : Expr} {fa fb fe : FT} {es : List Expr} {fr : FTA}
/-- a, b = x, y -/
def fsPar (i j : Nat) (fr : FTA) : FS := fun ε => (fr ε).bind fun rs ε1 => match rs with
  | [x, y] => setR2 i j x y ε1
  | _ => .no
theorem fs_par {i j : Nat} {x y : Str} {px py pt : Pos} {kt k2 pt2} (hc : X.calm = true) (hN : X.N.Nodup) (hi : X.N[i]? = some x) (hj : X.N[j]? = some y) (hij : i ≠ j)
    (hx : X.env.scope.names.lookup x = some .local) (hy : X.env.scope.names.lookup y = some .local) (ha : FA X [a, b] fr)
    (hw : swappedStores [.Tuple [.Name x px, .Name y py] kt pt] (.Tuple [a, b] k2 pt2) X.env = pure (some [x, y]))
    (hs : swapsWithSole [.Tuple [.Name x px, .Name y py] kt pt] (.Tuple [a, b] k2 pt2) pos.line X.env = pure false := by rfl) :
    FSt1 X (.Assign [.Tuple [.Name x px, .Name y py] kt pt] (.Tuple [a, b] k2 pt2) pos) (fsPar i j fr) := s_imp (s_par hc hN hi hj hij hx hy ha hw hs) fun D δ μ ⟨ε, m, h⟩ => useSA m h fun rs ε1 vs μ1 t rf h1 => by
  split at h1
  · next x y =>
    cases rf with
    | cons r1 t1 => cases t1 with
      | cons r2 t2 =>
        cases t2
        exact setR2_fit hij m t r1 r2 h1
  · exact h1.elim
/-- a, b, .. = e, e data -/
def fsAsgT (is : List Nat) (fe : FT) : FS := fun ε => (fe ε).bind fun r ε1 => match (seeV r).bind fun d => tgT is d ε1 with
  | some ε2 => .ok .nx ε2
  | none => .no
theorem fs_asgT {tg : Expr} {is : List Nat} (he : FE X e fe) (hg : DG true X tg (gdTup is)) (hs : swapsWithSole [tg] e pos.line X.env = pure false := by rfl) (hw : swappedStores [tg] e X.env = pure none := by rfl)
    (h1 : (assignEach [tg] X.env).map (·.2) = [assign tg X.env] := by rfl) : FSt1 X (.Assign [tg] e pos) (fsAsgT is fe) := s_imp (s_asg he hg hs hw h1) fun D δ μ ⟨ε, m, h⟩ => useSE m h fun r ε1 v μ1 t p h1 => by
  cases r with
  | ref _ => exact h1.elim
  | own _ => exact h1.elim
  | val d =>
    cases (show v = .d d from p)
    cases ho : tgT is d ε1 with
    | none => simp only [seeV, Option.bind_some, ho] at h1; exact h1.elim
    | some ε2 =>
      simp only [seeV, Option.bind_some, ho] at h1
      unfold tgT at ho
      split at ho
      · next xs =>
        split at ho
        · next hl => exact ⟨hl, h1 _ _ (t.tr.trans m (setAllF_tr t.mt ho))⟩
        · cases ho
      · cases ho
end
end FL

namespace FL
open PySem PySem.Spec PyProof.Rows L2 DL
section
variable {X : Cx} {pos apos cpos : Pos} {e o : Expr} {fe fo : FT} {es : List Expr} {fr : FTA}
theorem f_append (ho : FE X o fo) (ha : FA X [e] fr)
    (hbase : attributeBase o "append" X.env (eval o X.env) = eval o X.env := by rfl)
    (hfew : ((backTo cpos (starEach [e] X.env)).all (fun x => !x.1) && (backToKw cpos (keywordEach [] X.env)).all (fun x => x.1.isSome)
      && decide ([e].length + ([] : List Keyword).length + (if ([] : List Keyword).isEmpty then 0 else 1) < 30)) = true := by rfl)
    (hline : (apos.endLine == cpos.line) = true := by rfl) (hs : starEach [e] X.env = (false, eval e X.env) :: starEach [] X.env := by rfl) (hplain : (backTo cpos (starEach [] X.env)).any (·.1) = false := by rfl) :
    FE X (.Call (.Attribute o "append" apos) [e] [] cpos) (fMut gAppend fo fr) := f_mut m_append PySem.F.plainAttrs_list PySem.F.slot_list_append PySem.F.type_list_append mt_append ho ha hbase hfew hline hs hplain
theorem f_pop (ho : FE X o fo) (hbase : attributeBase o "pop" X.env (eval o X.env) = eval o X.env := by rfl) (hline : (apos.endLine == cpos.line) = true := by rfl) :
    FE X (.Call (.Attribute o "pop" apos) [] [] cpos) (fMut gPop fo faNil) := f_mut0 m_pop PySem.F.plainAttrs_list PySem.F.slot_list_pop PySem.F.type_list_pop mt_pop ho hbase hline
theorem f_popAt (ho : FE X o fo) (ha : FA X [e] fr)
    (hbase : attributeBase o "pop" X.env (eval o X.env) = eval o X.env := by rfl)
    (hfew : ((backTo cpos (starEach [e] X.env)).all (fun x => !x.1) && (backToKw cpos (keywordEach [] X.env)).all (fun x => x.1.isSome)
      && decide ([e].length + ([] : List Keyword).length + (if ([] : List Keyword).isEmpty then 0 else 1) < 30)) = true := by rfl)
    (hline : (apos.endLine == cpos.line) = true := by rfl) (hs : starEach [e] X.env = (false, eval e X.env) :: starEach [] X.env := by rfl) (hplain : (backTo cpos (starEach [] X.env)).any (·.1) = false := by rfl) :
    FE X (.Call (.Attribute o "pop" apos) [e] [] cpos) (fMut gPopAt fo fr) := f_mut m_popAt PySem.F.plainAttrs_list PySem.F.slot_list_pop PySem.F.type_list_pop mt_popAt ho ha hbase hfew hline hs hplain
end
theorem call_tuple_of2 {X : Cx} : CallR X (.type "tuple") (fun xs H Q => ∃ p ys, xs = [.ref p] ∧ ((SqL X.K H p ys ∧ NewT H ys Q) ∨ (SqT X.K H p ys ∧ Q (.ref p) H))) := callT_tuple
theorem primes_mk {K : PySem.W.Frag} {h : Heap} {mg : Str → Option Value} {ad n : Nat} {h2 h3 h5 h6 h7 h10 h11 h13 h14 h15 : Int} {t2 t3 t5 t6 t7 t10 t11 t13 t14 t15 u20 u30 u50 u60 u61 u70 u100 u101 u110 u130 u140 u141 u150 u151 : Tok} {b2 b3 b5 b6 b7 b10 b11 b13 b14 b15 : Addr} {n2 n3 n5 n6 n7 n10 n11 n13 n14 n15 : Nat} {s2 s3 s5 s6 s7 s10 s11 s13 s14 s15 : Array (Option Value)} (X : K.In h) (G : h.Ns mainGlobals mg) (a : PySem.W.nsIn K mainGlobals "PRIMES" = some (some (.ref ad)))
    (l : K.lookup ad = some ⟨.type "dict", none, .dict #[⟨h2, .int 2 t2, .ref b2⟩, ⟨h3, .int 3 t3, .ref b3⟩, ⟨h5, .int 5 t5, .ref b5⟩, ⟨h6, .int 6 t6, .ref b6⟩, ⟨h7, .int 7 t7, .ref b7⟩, ⟨h10, .int 10 t10, .ref b10⟩, ⟨h11, .int 11 t11, .ref b11⟩, ⟨h13, .int 13 t13, .ref b13⟩, ⟨h14, .int 14 t14, .ref b14⟩, ⟨h15, .int 15 t15, .ref b15⟩] n, #[]⟩) (e : h2 = hashInt 2 ∧ h3 = hashInt 3 ∧ h5 = hashInt 5 ∧ h6 = hashInt 6 ∧ h7 = hashInt 7 ∧ h10 = hashInt 10 ∧ h11 = hashInt 11 ∧ h13 = hashInt 13 ∧ h14 = hashInt 14 ∧ h15 = hashInt 15 ∧ (ad == sysModules) = false)
    (l2 : K.lookup b2 = some ⟨.type "tuple", none, .seq #[.int 2 u20] n2, s2⟩) (l3 : K.lookup b3 = some ⟨.type "tuple", none, .seq #[.int 3 u30] n3, s3⟩) (l5 : K.lookup b5 = some ⟨.type "tuple", none, .seq #[.int 5 u50] n5, s5⟩) (l6 : K.lookup b6 = some ⟨.type "tuple", none, .seq #[.int 2 u60, .int 3 u61] n6, s6⟩) (l7 : K.lookup b7 = some ⟨.type "tuple", none, .seq #[.int 7 u70] n7, s7⟩) (l10 : K.lookup b10 = some ⟨.type "tuple", none, .seq #[.int 2 u100, .int 5 u101] n10, s10⟩) (l11 : K.lookup b11 = some ⟨.type "tuple", none, .seq #[.int 11 u110] n11, s11⟩) (l13 : K.lookup b13 = some ⟨.type "tuple", none, .seq #[.int 13 u130] n13, s13⟩) (l14 : K.lookup b14 = some ⟨.type "tuple", none, .seq #[.int 2 u140, .int 7 u141] n14, s14⟩) (l15 : K.lookup b15 = some ⟨.type "tuple", none, .seq #[.int 3 u150, .int 5 u151] n15, s15⟩) : KTup K mg "PRIMES" [(2, [2]), (3, [3]), (5, [5]), (6, [2, 3]), (7, [7]), (10, [2, 5]), (11, [11]), (13, [13]), (14, [2, 7]), (15, [3, 5])] := by
  obtain ⟨e2, e3, e5, e6, e7, e10, e11, e13, e14, e15, eo⟩ := e
  exact ⟨⟨ad, _, n, PySem.W.mg_of X G a, l, (.cons e2 l2 ⟨rfl, rfl⟩ rfl (by simp) (.cons _ _ .nil) (.cons e3 l3 ⟨rfl, rfl⟩ rfl (by simp) (.cons _ _ .nil) (.cons e5 l5 ⟨rfl, rfl⟩ rfl (by simp) (.cons _ _ .nil) (.cons e6 l6 ⟨rfl, rfl⟩ rfl (by simp) (.cons _ _ (.cons _ _ .nil)) (.cons e7 l7 ⟨rfl, rfl⟩ rfl (by simp) (.cons _ _ .nil) (.cons e10 l10 ⟨rfl, rfl⟩ rfl (by simp) (.cons _ _ (.cons _ _ .nil)) (.cons e11 l11 ⟨rfl, rfl⟩ rfl (by simp) (.cons _ _ .nil) (.cons e13 l13 ⟨rfl, rfl⟩ rfl (by simp) (.cons _ _ .nil) (.cons e14 l14 ⟨rfl, rfl⟩ rfl (by simp) (.cons _ _ (.cons _ _ .nil)) (.cons e15 l15 ⟨rfl, rfl⟩ rfl (by simp) (.cons _ _ (.cons _ _ .nil)) .nil)))))))))), by decide, eo⟩⟩
end FL

namespace DL
open PySem PySem.Spec PyProof.Rows L2
section
variable {X : Cx} {pos : Pos} {a b c : Expr}
def setV : List Nat → List DV → DSt → DSt
  | i :: is, v :: vs, δ => setV is vs (δ.set i (some v))
  | _, _, δ => δ
/-- a, b, .. = x, y, .. (plain locals) -/
def sParN (is : List Nat) (ta : DTA) : DTS := fun D δ μ => ta δ μ fun ds μ1 => ds.length = is.length ∧ D.nx (setV is ds δ) μ1
theorem s_parN2 {i j : Nat} {x y : Str} {tA : DTA} {px py pt : Pos} {kt k2 pt2} (hc : X.calm = true) (hN : X.N.Nodup) (hi : X.N[i]? = some x) (hj : X.N[j]? = some y) (hij : i ≠ j)
    (hx : X.env.scope.names.lookup x = some .local) (hy : X.env.scope.names.lookup y = some .local) (ha : DA X [a, b] tA)
    (hw : swappedStores [.Tuple [.Name x px, .Name y py] kt pt] (.Tuple [a, b] k2 pt2) X.env = pure (some [x, y]))
    (hs : swapsWithSole [.Tuple [.Name x px, .Name y py] kt pt] (.Tuple [a, b] k2 pt2) pos.line X.env = pure false := by rfl) :
    DS X (.Assign [.Tuple [.Name x px, .Name y py] kt pt] (.Tuple [a, b] k2 pt2) pos) (sParN [i, j] tA) := ps_imp (ps_par hc hN hi hj hij hx hy ha hw hs) fun D σ H ⟨δ, μ, Dd, rs, rm, q, w⟩ =>
  upA_use rs rm q fun ds μ1 vs H1 e1 m1 r1 ⟨hl, q1⟩ => by
    match ds, hl with
    | [x, y], _ =>
      cases r1 with
      | cons r t => cases t with
        | cons r' t =>
          cases t
          exact ⟨_, _, rfl, w.nx _ μ1 _ H1 e1 m1 (((rs.mono e1).set r i).set r' j) q1⟩
theorem s_parN3 {i j l : Nat} {x y z : Str} {tA : DTA} {px py pz pt : Pos} {kt k2 pt2} (hc : X.calm = true) (hN : X.N.Nodup) (hi : X.N[i]? = some x) (hj : X.N[j]? = some y) (hl : X.N[l]? = some z) (hij : i ≠ j) (hil : i ≠ l) (hjl : j ≠ l)
    (hx : X.env.scope.names.lookup x = some .local) (hy : X.env.scope.names.lookup y = some .local) (hz : X.env.scope.names.lookup z = some .local) (ha : DA X [a, b, c] tA)
    (hw : swappedStores [.Tuple [.Name x px, .Name y py, .Name z pz] kt pt] (.Tuple [a, b, c] k2 pt2) X.env = pure (some [x, y, z]))
    (hs : swapsWithSole [.Tuple [.Name x px, .Name y py, .Name z pz] kt pt] (.Tuple [a, b, c] k2 pt2) pos.line X.env = pure false := by rfl) :
    DS X (.Assign [.Tuple [.Name x px, .Name y py, .Name z pz] kt pt] (.Tuple [a, b, c] k2 pt2) pos) (sParN [i, j, l] tA) := ps_imp (ps_par3 hc hN hi hj hl hij hil hjl hx hy hz ha hw hs) fun D σ H ⟨δ, μ, Dd, rs, rm, q, w⟩ =>
  upA_use rs rm q fun ds μ1 vs H1 e1 m1 r1 ⟨hl, q1⟩ => by
    match ds, hl with
    | [x, y, z], _ =>
      cases r1 with
      | cons r t => cases t with
        | cons r' t => cases t with
          | cons r2 t =>
            cases t
            exact ⟨_, _, _, rfl, w.nx _ μ1 _ H1 e1 m1 ((((rs.mono e1).set r i).set r' j).set r2 l) q1⟩
theorem gNames_useV {K : PySem.W.Frag} : ∀ {is : List Nat} {vs : List V} {ds : List DV} {μ : Mu} {H : Hp} {σ : L2.St} {δ : DSt} {Q : L2.St → Hp → Prop}, PySem.Paired (RV K μ H) vs ds → ds.length = is.length → RS K μ H σ δ → (∀ σ', RS K μ H σ' (setV is ds δ) → Q σ' H) → gNames is vs σ H Q
  | [], _, _, _, _, _, _, _, r, hl, rs, q => by
    cases r with
    | nil => exact ⟨rfl, q _ rs⟩
    | cons _ _ => simp at hl
  | i :: is, _, _, _, _, _, _, _, r, hl, rs, q => by
    cases r with
    | nil => simp at hl
    | @cons v d vs ds a t => exact ⟨v, vs, rfl, gNames_useV t (by simpa using hl) (rs.set a i) q⟩
/-- a, b, .. = x, y, .. by way of a tuple (any names) -/
theorem s_parT {es as : List Expr} {is : List Nat} {tA : DTA} {k : Nat} {k2 pt pt2} (hc : X.calm = true) (h : PGs X es (gNames is)) (ha : DA X as tA) (h8 : is.length ≤ 8 := by decide)
    (hn : (assignEach es X.env).length = is.length := by rfl) (hst : (assignEach es X.env).findIdx? (·.1) = none := by rfl)
    (hs : swapsWithSole [.Tuple es k pt] (.Tuple as k2 pt2) pos.line X.env = pure false := by rfl) (hw : swappedStores [.Tuple es k pt] (.Tuple as k2 pt2) X.env = pure none := by rfl)
    (h1 : (assignEach [.Tuple es k pt] X.env).map (·.2) = [assign (.Tuple es k pt) X.env] := by rfl) :
    DS X (.Assign [.Tuple es k pt] (.Tuple as k2 pt2) pos) (sParN is tA) := ps_imp (ps_asg (pt_tup ha) (pg_tup hc h hn hst) hs hw h1) fun D σ H ⟨δ, μ, Dd, rs, rm, q, w⟩ =>
  upA_use rs rm q fun ds μ1 vs H1 e1 m1 r1 ⟨hl, q1⟩ => by
    have hlen : vs.length = is.length := (PySem.Paired.length r1).trans hl
    refine ⟨small_line (by rw [hlen]; omega), fun t o ht ho => ⟨t, vs, rfl, .inl (.inr ⟨o, upd_same⟩), hlen, gNames_useV (L2.Paired.mapP r1 fun _ _ p => p.mono (ext_new ht)) hl ((rs.mono e1).mono (ext_new ht)) fun σ' rs' => w.nx _ μ1 _ _ (e1.trans (ext_new ht)) (m1.new ht) rs' q1⟩⟩
end
end DL
namespace FL
open PySem PySem.Spec PyProof.Rows L2 DL
section
variable {δ δ1 : DSt} {μ μ1 : Mu} {ε ε1 : FSt}
/-- a new container's slot -/
theorem Tr.setO (t : Tr δ μ ε δ1 μ1 ε1) {i : Nat} {q : Addr} {c : Cell} (h0 : μ q = none) (h1 : μ1 q = some c) (hn : ¬ Adr δ1 ε1 q) (hb : isBb ε1 i = false) : Tr δ μ ε (δ1.set i (some (.cell q))) μ1 (ε1.set i (some (.c c))) := by
  have hl := t.mt.len
  refine ⟨⟨by simp [hl], fun j y h => ?_, fun j d h => ?_, fun j k p hj hk g1 g2 => ?_⟩, t.fr, fun j d h => ?_, fun j d h => ?_, fun p h => ?_, by simp [t.ln]⟩
  · by_cases e : i = j
    · subst e
      obtain ⟨a, b⟩ := get_set h
      cases a
    · rw [List.getElem?_set_ne e] at h ⊢
      exact t.mt.dat j y h
  · by_cases e : i = j
    · subst e
      obtain ⟨a, b⟩ := getC_same h
      rcases a with a | a
      · cases a
        exact ⟨q, by rw [List.getElem?_set_self (by omega)], h1⟩
      · cases a
    · rw [getC_ne e] at h
      rw [List.getElem?_set_ne e]
      exact t.mt.cel j d h
  · by_cases e : i = j
    · subst e
      by_cases e2 : i = k
      · exact e2
      · obtain ⟨d, hc⟩ := isC_some hj
        obtain ⟨a, b⟩ := getC_same hc
        rw [List.getElem?_set_self (by omega)] at g1
        cases g1
        rw [List.getElem?_set_ne e2] at g2
        unfold isC at hk
        rw [getC_ne e2] at hk
        exact (hn ⟨k, hk, g2⟩).elim
    · by_cases e2 : i = k
      · subst e2
        obtain ⟨d, hc⟩ := isC_some hk
        obtain ⟨a, b⟩ := getC_same hc
        rw [List.getElem?_set_self (by omega)] at g2
        cases g2
        rw [List.getElem?_set_ne e] at g1
        unfold isC at hj
        rw [getC_ne e] at hj
        exact (hn ⟨j, hj, g1⟩).elim
      · unfold isC at hj hk
        rw [getC_ne e] at hj
        rw [getC_ne e2] at hk
        rw [List.getElem?_set_ne e] at g1
        rw [List.getElem?_set_ne e2] at g2
        exact t.mt.apart j k p hj hk g1 g2
  · obtain ⟨⟨c1, g1⟩, g2⟩ := t.bo j d h
    have e : i ≠ j := fun e => by subst e; exact isBb_false hb g1
    rw [List.getElem?_set_ne e, List.getElem?_set_ne e]
    exact ⟨⟨c1, g1⟩, g2⟩
  · by_cases e : i = j
    · subst e
      obtain ⟨a, b⟩ := get_set h
      cases a
    · rw [List.getElem?_set_ne e] at h
      exact t.bn j d h
  · obtain ⟨j, d, g1, g2⟩ := h
    by_cases e : i = j
    · subst e
      obtain ⟨a, b⟩ := get_set g1
      rw [List.getElem?_set_self (by omega)] at g2
      cases g2
      exact .inr h0
    · rw [List.getElem?_set_ne e] at g1 g2
      exact t.nw p ⟨j, d, g1, g2⟩
/-- new containers stand apart -/
def FarO (v : DV) : List FR → List DV → Prop
  | .own _ :: rs, u :: vs => v ≠ u ∧ FarO v rs vs
  | .val _ :: rs, _ :: vs => FarO v rs vs
  | .ref _ :: rs, _ :: vs => FarO v rs vs
  | _, _ => True
def SepO : List FR → List DV → Prop
  | .own _ :: rs, v :: vs => FarO v rs vs ∧ SepO rs vs
  | .val _ :: rs, _ :: vs => SepO rs vs
  | .ref _ :: rs, _ :: vs => SepO rs vs
  | _, _ => True
def upFB (f : FTA) : DTA := fun δ μ Q => ∃ ε, Mt δ μ ε ∧ fit (fun rs vs μ' ε' => PySem.Paired (fun r v => RF δ μ ε' μ' r v) rs vs ∧ SepO rs vs) δ μ ε Q (f ε)
abbrev FAB (X : Cx) (es : List Expr) (f : FTA) : Prop := DA X es (upFB f)
theorem far_of {p : Addr} {c : Cell} {μ2 : Mu} {ε2 : FSt} (hp : μ1 p = some c) : ∀ {rs : List FR} {vs : List DV}, PySem.Paired (fun r v => RF δ μ1 ε2 μ2 r v) rs vs → FarO (.cell p) rs vs
  | _, _, .nil => trivial
  | .own _ :: _, _ :: _, .cons h t => by
    refine ⟨fun e => ?_, far_of hp t⟩
    obtain ⟨q, e1, _, e3⟩ := h
    rw [← e] at e1
    cases e1
    rw [hp] at e3
    cases e3
  | .val _ :: rs, _ :: _, .cons h t => by
    have := far_of hp t
    exact this
  | .ref _ :: rs, _ :: _, .cons h t => by
    have := far_of hp t
    exact this
theorem useB {f : FTA} {α β : Type} {g : List FR → FSt → R α} {P : α → β → Mu → FSt → Prop} {Q : β → Mu → Prop} {Q' : List DV → Mu → Prop} (m : Mt δ μ ε) (h : fit P δ μ ε Q ((f ε).bind g))
    (k : ∀ rs ε1 vs μ1, f ε = .ok rs ε1 → TrE δ μ ε μ1 ε1 → PySem.Paired (fun r v => RF δ μ ε1 μ1 r v) rs vs → SepO rs vs → fit P δ μ ε Q (g rs ε1) → Q' vs μ1) : upFB f δ μ Q' := by
  refine ⟨ε, m, ?_⟩
  cases e : f ε with
  | no => rw [e] at h; exact h.elim
  | ex _ _ => rw [e] at h; exact h.elim
  | ok r ε1 =>
    rw [e] at h
    exact fun v μ1 t ⟨p, s⟩ => k r ε1 v μ1 e t p s h
end
section
variable {X : Cx} {pos : Pos} {a b c e : Expr} {fe fa : FT} {es : List Expr} {fr : FTA}
theorem fb_nil : FAB X [] faNil := a_imp a_nil fun δ μ Q ⟨ε, m, h⟩ => h _ _ (.refl m) ⟨.nil, trivial⟩
theorem fb_cons (ha : FE X e fe) (hr : FAB X es fr) (hs : starEach (e :: es) X.env = (false, eval e X.env) :: starEach es X.env := by rfl) : FAB X (e :: es) (faCons fe fr) := a_imp (a_cons ha hr hs) fun δ μ Q ⟨ε, m, h⟩ =>
  use1 m h fun r ε1 v μ1 e t rf h1 => useB (P := fun rs vs μ' ε' => PySem.Paired (fun r v => RF δ μ ε' μ' r v) rs vs ∧ SepO rs vs) t.mt (fit_step t h1 fun _ _ _ _ _ p => p) fun rs ε2 vs μ2 e2 t2 rf2 sp h2 => by
    refine h2 _ _ t2 ⟨.cons (RF.keep t m t2 rf) (L2.Paired.mapP rf2 fun _ _ p => RF.back m t t2 p), ?_⟩
    cases r with
    | val _ => exact sp
    | ref _ => exact sp
    | own c =>
      obtain ⟨p, rfl, h3, h4⟩ := rf
      exact ⟨far_of h3 rf2, sp⟩
def setAllR : List Nat → List FR → FSt → Option FSt
  | i :: is, r :: rs, ε => if isBb ε i = true then none else (frV r).bind fun x => setAllR is rs (ε.set i (some x))
  | _, _, ε => some ε
def fsParN (is : List Nat) (fr : FTA) : FS := fun ε => (fr ε).bind fun rs ε1 => if rs.length = is.length then match setAllR is rs ε1 with
  | some ε2 => .ok .nx ε2
  | none => .no else .no
theorem setAllR_tr {δ : DSt} {μ μ1 : Mu} {ε : FSt} (m : Mt δ μ ε) : ∀ {is : List Nat} {rs : List FR} {vs : List DV} {δ1 : DSt} {ε1 ε2 εr : FSt}, Tr δ μ ε δ1 μ1 ε1 → PySem.Paired (fun r v => RF δ μ εr μ1 r v) rs vs → SepO rs vs →
    (∀ p, Adr δ1 ε1 p → FarO (.cell p) rs vs) → setAllR is rs ε1 = some ε2 → Tr δ μ ε (setV is vs δ1) μ1 ε2
  | [], _, _, _, _, _, _, t, _, _, _, h => by cases h; exact t
  | _ :: _, [], _, _, _, _, _, t, rf, _, _, h => by cases rf; cases h; exact t
  | i :: is, r :: rs, v :: vs, δ1, ε1, ε2, εr, t, .cons r1 r2, sp, far, h => by
    unfold setAllR at h
    split at h
    · cases h
    · next hb =>
      have hb : isBb ε1 i = false := by simpa using hb
      cases r with
      | ref _ => cases h
      | val x =>
        cases (show v = .d x from r1)
        have t1 := t.trans m (Tr.setD t.mt (x := x) hb)
        show Tr δ μ ε (setV is vs (δ1.set i (some (.d x)))) μ1 ε2
        refine setAllR_tr m t1 r2 sp (fun p hp => far p ?_) h
        obtain ⟨j, g1, g2⟩ := hp
        by_cases e : i = j
        · subst e
          obtain ⟨d, hd⟩ := isC_some g1
          obtain ⟨a, b⟩ := getC_same hd
          rcases a with a | a <;> cases a
        · unfold isC at g1
          rw [getC_ne e] at g1
          rw [List.getElem?_set_ne e] at g2
          exact ⟨j, g1, g2⟩
      | own c =>
        obtain ⟨q, rfl, h1, h0⟩ := r1
        have hn : ¬ Adr δ1 ε1 q := fun z => (far q z).1 rfl
        show Tr δ μ ε (setV is vs (δ1.set i (some (.cell q)))) μ1 ε2
        refine setAllR_tr m (t.setO h0 h1 hn hb) r2 sp.2 (fun p hp => ?_) h
        obtain ⟨j, g1, g2⟩ := hp
        by_cases e : i = j
        · subst e
          have hl := t.mt.len
          obtain ⟨d, hd⟩ := isC_some g1
          obtain ⟨a, b⟩ := getC_same hd
          rw [List.getElem?_set_self (by omega)] at g2
          cases g2
          exact sp.1
        · unfold isC at g1
          rw [getC_ne e] at g1
          rw [List.getElem?_set_ne e] at g2
          exact (far p ⟨j, g1, g2⟩).2
theorem fsParN_use {is : List Nat} {D : DEnds} {δ : DSt} {μ : Mu} (h : ∃ ε, Mt δ μ ε ∧ fitS D δ μ ε (fsParN is fr ε)) : sParN is (upFB fr) D δ μ := by
  obtain ⟨ε, m, h⟩ := h
  refine ⟨ε, m, ?_⟩
  unfold fsParN at h
  cases e : fr ε with
  | no => rw [e] at h; exact h.elim
  | ex _ _ => rw [e] at h; exact h.elim
  | ok rs ε1 =>
    rw [e] at h
    refine fun vs μ1 t ⟨p, s⟩ => ?_
    simp only [R.bind_ok] at h
    split at h
    · next hl =>
      split at h
      · next ε2 e2 =>
        refine ⟨by rw [← hl]; exact (PySem.Paired.length p).symm, ?_⟩
        refine h _ _ (setAllR_tr m t.tr p s (fun a ha => ?_) e2)
        obtain ⟨d, hd⟩ := m.adr (t.kd.adr.mpr ha)
        exact far_of hd p
      · exact h.elim
    · exact h.elim
theorem fs_parN2 {i j : Nat} {x y : Str} {px py pt : Pos} {kt k2 pt2} (hc : X.calm = true) (hN : X.N.Nodup) (hi : X.N[i]? = some x) (hj : X.N[j]? = some y) (hij : i ≠ j)
    (hx : X.env.scope.names.lookup x = some .local) (hy : X.env.scope.names.lookup y = some .local) (ha : FAB X [a, b] fr)
    (hw : swappedStores [.Tuple [.Name x px, .Name y py] kt pt] (.Tuple [a, b] k2 pt2) X.env = pure (some [x, y]))
    (hs : swapsWithSole [.Tuple [.Name x px, .Name y py] kt pt] (.Tuple [a, b] k2 pt2) pos.line X.env = pure false := by rfl) :
    FSt1 X (.Assign [.Tuple [.Name x px, .Name y py] kt pt] (.Tuple [a, b] k2 pt2) pos) (fsParN [i, j] fr) := s_imp (s_parN2 hc hN hi hj hij hx hy ha hw hs) fun D δ μ h => fsParN_use h
theorem fs_parN3 {i j l : Nat} {x y z : Str} {px py pz pt : Pos} {kt k2 pt2} (hc : X.calm = true) (hN : X.N.Nodup) (hi : X.N[i]? = some x) (hj : X.N[j]? = some y) (hl : X.N[l]? = some z) (hij : i ≠ j) (hil : i ≠ l) (hjl : j ≠ l)
    (hx : X.env.scope.names.lookup x = some .local) (hy : X.env.scope.names.lookup y = some .local) (hz : X.env.scope.names.lookup z = some .local) (ha : FAB X [a, b, c] fr)
    (hw : swappedStores [.Tuple [.Name x px, .Name y py, .Name z pz] kt pt] (.Tuple [a, b, c] k2 pt2) X.env = pure (some [x, y, z]))
    (hs : swapsWithSole [.Tuple [.Name x px, .Name y py, .Name z pz] kt pt] (.Tuple [a, b, c] k2 pt2) pos.line X.env = pure false := by rfl) :
    FSt1 X (.Assign [.Tuple [.Name x px, .Name y py, .Name z pz] kt pt] (.Tuple [a, b, c] k2 pt2) pos) (fsParN [i, j, l] fr) := s_imp (s_parN3 hc hN hi hj hl hij hil hjl hx hy hz ha hw hs) fun D δ μ h => fsParN_use h
theorem fs_parT {es as : List Expr} {is : List Nat} {k : Nat} {k2 pt pt2} (hc : X.calm = true) (h : PGs X es (gNames is)) (ha : FAB X as fr) (h8 : is.length ≤ 8 := by decide)
    (hn : (assignEach es X.env).length = is.length := by rfl) (hst : (assignEach es X.env).findIdx? (·.1) = none := by rfl)
    (hs : swapsWithSole [.Tuple es k pt] (.Tuple as k2 pt2) pos.line X.env = pure false := by rfl) (hw : swappedStores [.Tuple es k pt] (.Tuple as k2 pt2) X.env = pure none := by rfl)
    (h1 : (assignEach [.Tuple es k pt] X.env).map (·.2) = [assign (.Tuple es k pt) X.env] := by rfl) :
    FSt1 X (.Assign [.Tuple es k pt] (.Tuple as k2 pt2) pos) (fsParN is fr) := s_imp (s_parT hc h ha h8 hn hst hs hw h1) fun D δ μ h => fsParN_use h
end
end FL

namespace FL
open PySem PySem.Spec PyProof.Rows L2 DL
section
variable {X : Cx} {pos : Pos} {tg a b c e : Expr} {fr : FTA}
/-! ### range with a step -/
def turnsC (i j c : Int) : Nat := (Builtin.Range.rangeSize i j c).toNat
noncomputable def gRangeC : List PyData → Option (List PyData)
  | [.int i, .int j, .int c] => req (RgC i j c (turnsC i j c)) (some (stepD i c (turnsC i j c)))
  | _ => none
theorem fi_rangeC {p : Pos} (hg : Gl X "range") (hm : X.mg "range" = none) (ha : FA X [a, b, c] fr) (hs : starEach [a, b, c] X.env = (false, eval a X.env) :: starEach [b, c] X.env := by rfl) (hs2 : (backTo pos (starEach [b, c] X.env)).any (·.1) = false := by rfl) : FI true X tg (.Call (.Name "range" p) [a, b, c] [] pos) (fiArgs gRangeC fr) :=
  di_imp (i_range3 hg hm ha hs hs2) (useI fun ds as xs μ Q h1 h2 q => by
    unfold gRangeC at h2
    split at h2
    · obtain ⟨h3, e⟩ := req_some h2; cases e; rw [allD3 h1]; exact ⟨_, h3, q⟩
    · cases h2)
theorem rgC_pos {i j c : Int} (h0 : 0 < c) (h1 : c < 2 ^ 30) (hi : -(2 ^ 62) ≤ i ∧ i < 2 ^ 62) (hj : -(2 ^ 62) ≤ j ∧ j < 2 ^ 62) : RgC i j c (turnsC i j c) := by
  have e0 : 0 ≤ Builtin.Range.rangeSize i j c ∧ Builtin.Range.rangeSize i j c < 2 ^ 63 := by
    unfold Builtin.Range.rangeSize
    rw [if_pos h0]
    split
    · have h2 : 0 ≤ (j - i - 1) / c := Int.ediv_nonneg (by omega) (by omega)
      have h3 : (j - i - 1) / c ≤ j - i - 1 := Int.ediv_le_self _ (by omega)
      omega
    · omega
  refine ⟨by omega, by omega, ?_, by unfold turnsC; omega⟩
  unfold Builtin.Range.small
  have fl : ∀ x : Int, -(2 ^ 63) ≤ x → x < 2 ^ 63 → Builtin.Range.rangeFitsLong x = true := fun x h2 h3 => by
    unfold Builtin.Range.rangeFitsLong
    simp only [Bool.and_eq_true, decide_eq_true_eq]
    omega
  simp only [Bool.and_eq_true, Bool.or_eq_true, fl i (by omega) (by omega), fl j (by omega) (by omega), fl c (by omega) (by omega), fl _ (by omega : -(2 ^ 63) ≤ Builtin.Range.rangeSize i j c) e0.2, true_and, if_pos h0, and_self]
  exact .inr (fl _ (by omega) (by omega))
theorem rangeC_pos {i j c : Int} (h0 : 0 < c) (h1 : c < 2 ^ 30) (hi : -(2 ^ 62) ≤ i ∧ i < 2 ^ 62) (hj : -(2 ^ 62) ≤ j ∧ j < 2 ^ 62) : gRangeC [.int i, .int j, .int c] = some (stepD i c (turnsC i j c)) := req_pos (rgC_pos h0 h1 hi hj)
end
/-! ### the greatest and the least of a list, a sorted list -/
def mxI : Int → List Int → Int
  | m, [] => m
  | m, y :: r => mxI (if m < y then y else m) r
def mnI : Int → List Int → Int
  | m, [] => m
  | m, y :: r => mnI (if y < m then y else m) r
theorem mxI_ge : ∀ (r : List Int) (m : Int), m ≤ mxI m r ∧ ∀ y ∈ r, y ≤ mxI m r
  | [], m => ⟨Int.le_refl _, fun y h => by cases h⟩
  | x :: r, m => by
    obtain ⟨h1, h2⟩ := mxI_ge r (if m < x then x else m)
    unfold mxI
    have h3 : m ≤ (if m < x then x else m) ∧ x ≤ (if m < x then x else m) := by split <;> omega
    refine ⟨by omega, fun y h => ?_⟩
    rcases List.mem_cons.mp h with rfl | h
    · omega
    · exact h2 y h
theorem mxI_mem : ∀ (r : List Int) (m : Int), mxI m r ∈ m :: r
  | [], m => by simp [mxI]
  | x :: r, m => by
    unfold mxI
    have := mxI_mem r (if m < x then x else m)
    rcases List.mem_cons.mp this with e | e
    · rw [e]
      split <;> simp
    · exact List.mem_cons_of_mem _ (List.mem_cons_of_mem _ e)
theorem mnI_le : ∀ (r : List Int) (m : Int), mnI m r ≤ m ∧ ∀ y ∈ r, mnI m r ≤ y
  | [], m => ⟨Int.le_refl _, fun y h => by cases h⟩
  | x :: r, m => by
    obtain ⟨h1, h2⟩ := mnI_le r (if x < m then x else m)
    unfold mnI
    have h3 : (if x < m then x else m) ≤ m ∧ (if x < m then x else m) ≤ x := by split <;> omega
    refine ⟨by omega, fun y h => ?_⟩
    rcases List.mem_cons.mp h with rfl | h
    · omega
    · exact h2 y h
theorem mnI_mem : ∀ (r : List Int) (m : Int), mnI m r ∈ m :: r
  | [], m => by simp [mnI]
  | x :: r, m => by
    unfold mnI
    have := mnI_mem r (if x < m then x else m)
    rcases List.mem_cons.mp this with e | e
    · rw [e]
      split <;> simp
    · exact List.mem_cons_of_mem _ (List.mem_cons_of_mem _ e)
def gMax1 : List PyData → Option PyData
  | [.list xs] => (intsOf xs).bind fun ns => match ns with
    | [] => none
    | n :: r => some (.int (mxI n r))
  | _ => none
def gMin1 : List PyData → Option PyData
  | [.list xs] => (intsOf xs).bind fun ns => match ns with
    | [] => none
    | n :: r => some (.int (mnI n r))
  | _ => none
theorem p_max1 {K : PySem.W.Frag} : UpA K (rdPA gMax1) (rMax K) := upA_1 (fun as z h => by unfold gMax1 at h; split at h <;> first | exact ⟨_, rfl⟩ | cases h) fun x a z v μ Qd H Q m r e ez q w => by
  unfold gMax1 at ez
  split at ez
  · next xs ea =>
    cases ea
    simp only [Option.bind_eq_some_iff] at ez
    obtain ⟨ns, e1, e3⟩ := ez
    have e2 := intsOf_some e1
    subst e2
    obtain ⟨p, vs, rfl, s, t⟩ := look_list m r e
    have e4 := t.ints_inv
    subst e4
    cases ns with
    | nil => cases e3
    | cons n r =>
      cases e3
      refine ⟨p, n :: r, rfl, s, by simp, fun k hk hle => ?_⟩
      have h1 := mxI_ge r n
      have h2 := hle _ (mxI_mem r n)
      have h3 : k ≤ mxI n r := by
        rcases List.mem_cons.mp hk with rfl | h
        · exact h1.1
        · exact h1.2 k h
      obtain rfl : k = mxI n r := by omega
      exact w (.d (.int _)) μ _ H (.refl _ _) m (Da.int _) q
  · cases ez
theorem p_min1 {K : PySem.W.Frag} : UpA K (rdPA gMin1) (rMin K) := upA_1 (fun as z h => by unfold gMin1 at h; split at h <;> first | exact ⟨_, rfl⟩ | cases h) fun x a z v μ Qd H Q m r e ez q w => by
  unfold gMin1 at ez
  split at ez
  · next xs ea =>
    cases ea
    simp only [Option.bind_eq_some_iff] at ez
    obtain ⟨ns, e1, e3⟩ := ez
    have e2 := intsOf_some e1
    subst e2
    obtain ⟨p, vs, rfl, s, t⟩ := look_list m r e
    have e4 := t.ints_inv
    subst e4
    cases ns with
    | nil => cases e3
    | cons n r =>
      cases e3
      refine ⟨p, n :: r, rfl, s, by simp, fun k hk hle => ?_⟩
      have h1 := mnI_le r n
      have h2 := hle _ (mnI_mem r n)
      have h3 : mnI n r ≤ k := by
        rcases List.mem_cons.mp hk with rfl | h
        · exact h1.1
        · exact h1.2 k h
      obtain rfl : k = mnI n r := by omega
      exact w (.d (.int _)) μ _ H (.refl _ _) m (Da.int _) q
  · cases ez
noncomputable def gSortL : List PyData → Option PyData
  | [.list xs] => (intsOf xs).bind fun ns => req (ns.length ≤ 900000) (some (.list ((sortI ns).map .int)))
  | _ => none
theorem p_sortL {K : PySem.W.Frag} : UpA K (rdPA gSortL) (rSortedI K) := upA_1 (fun as z h => by unfold gSortL at h; split at h <;> first | exact ⟨_, rfl⟩ | cases h) fun x a z v μ Qd H Q m r e ez q w => by
  unfold gSortL at ez
  split at ez
  · next xs ea =>
    cases ea
    simp only [Option.bind_eq_some_iff] at ez
    obtain ⟨ns, e1, e3⟩ := ez
    obtain ⟨h4, h5⟩ := req_some e3
    cases h5
    have e2 := intsOf_some e1
    subst e2
    obtain ⟨p, vs, rfl, s, t⟩ := look_list m r e
    have e4 := t.ints_inv
    subst e4
    refine ⟨p, ns, rfl, s, fun ys l hp hs hl => ?_⟩
    obtain rfl : sortI ns = ys := sorted_uniq ((sortI_perm ns).trans hp.symm) (sortI_sorted ns) hs
    exact w (.d (.list ((sortI ns).map .int))) μ _ _ (ext_new hl) (m.new hl) (.lst (.of (by rw [hid_new m hl])) (DaAll.ints (sortI ns))) q
  · cases ez
/-! ### a new container as the one argument, to be changed -/
def call1O (F : Fn) : FR → FSt → R FR
  | .own c, ε => match F [.b c] with
    | .ok (.val x) [_] => .ok (.val x) ε
    | .ok (.own c') [_] => .ok (.own c') ε
    | _ => .no
  | _, _ => .no
def fCall1O (F : Fn) (fa : FT) : FT := fun ε => (fa ε).bind (call1O F)
theorem call1O_core {δ : DSt} {μ μ1 : Mu} {ε ε1 : FSt} {F : Fn} {r : FR} {v : DV} {Q : DV → Mu → Prop} (m : Mt δ μ ε) (t : TrE δ μ ε μ1 ε1) (rf : RF δ μ ε1 μ1 r v) (h : fit (fun r v μ' ε' => RF δ μ ε' μ' r v) δ μ ε Q (call1O F r ε1)) : spF F 1 [v] μ1 Q := by
  cases r with
  | val _ => exact h.elim
  | ref _ => exact h.elim
  | own c =>
    obtain ⟨p, rfl, h1, h0⟩ := rf
    refine ⟨rfl, [.b c], .cons ⟨p, rfl, h1⟩ .nil, fun i j q e1 e2 => ?_, ?_⟩
    · cases i with
      | succ i => simp at e1
      | zero => cases j with
        | succ j => simp at e2
        | zero => rfl
    · unfold call1O at h
      have go : ∀ {bs : List Cell} {r' : FR} {u : DV} {μ' : Mu}, Out μ1 [.cell p] bs μ' r' u → TrE δ μ ε μ' ε1 := fun {bs r' u μ'} o => by
        refine t.swap (fun q hq => ?_) fun b d hb hn => ?_
        · obtain ⟨d, hd⟩ := t.mt.adr hq
          rw [hd]
          refine o.fr q d hd fun i e => ?_
          cases i with
          | succ i => simp at e
          | zero =>
            simp at e
            subst e
            obtain ⟨d', hd'⟩ := m.adr (t.kd.adr.mpr hq)
            rw [h0] at hd'; cases hd'
        · refine o.fr b d (t.fr b d hb hn) fun i e => ?_
          cases i with
          | succ i => simp at e
          | zero =>
            simp at e
            subst e
            rw [h0] at hb; cases hb
      dsimp only at h
      split at h
      · next x b e =>
        rw [e]
        intro u μ' o
        exact h _ _ (go o) o.rs
      · next c' b e =>
        rw [e]
        intro u μ' o
        obtain ⟨q, k1, k2, k3⟩ := o.rs
        exact h _ _ (go o) ⟨q, k1, k2, t.fresh m k3⟩
      · exact h.elim
section
variable {X : Cx} {k : Nat} {ps : List Str} {F : Fn} {x : Str} {p pos : Pos} {e : Expr} {fa : FT} {st : Stmt}
theorem f_call1O (C : Cal X.prog X.w X.K X.mg X.base k x st ps (spF F 1)) (hr : RoomG k X.A) (hg : Gl X x) (hb : ∀ f fd, Fun X.K x x st f fd → Binds X.K fd ps []) (ha : FE X e fa)
    (hdb : (x == ("__debug__" : Str)) = false := by decide) (hs : starEach [e] X.env = (false, eval e X.env) :: starEach [] X.env := by rfl) (hpl : (backTo pos (starEach [] X.env)).any (·.1) = false := by rfl) :
    FE X (.Call (.Name x p) [e] [] pos) (fCall1O F fa) := d_imp (d_callC C hr hg hb (fa_cons ha fa_nil hs) hdb hs hpl) fun δ μ Q ⟨ε, m, h⟩ => by
  have h2 : fit (fun r v μ' ε' => RF δ μ ε' μ' r v) δ μ ε Q ((faCons fa faNil ε).bind fun rs ε1 => match rs with
      | [r] => call1O F r ε1
      | _ => .no) := by
    unfold fCall1O at h
    unfold faCons faNil
    cases e : fa ε with
    | no => rw [e] at h; exact h
    | ex _ _ => rw [e] at h; exact h
    | ok r ε1 => rw [e] at h; exact h
  exact useA m h2 fun rs ε1 vs μ1 e t rf h1 => by
    split at h1
    · next r =>
      cases rf with
      | cons a b => cases b; exact call1O_core m t a h1
    · exact h1.elim
end
end FL

namespace FL
open PySem PySem.Spec PyProof.Rows L2 DL
/-! ### a look: containers as data, while one expression runs -/
mutual
/-- no list and no dict within -/
def flatT : PyData → Bool
  | .none => true
  | .bool _ => true
  | .int _ => true
  | .str _ => true
  | .tuple xs => flatTs xs
  | _ => false
def flatTs : List PyData → Bool
  | [] => true
  | x :: xs => flatT x && flatTs xs
end
def frzV : Option FV → Option FV
  | some (.c c) => some (.d (cellD c))
  | some (.b c) => some (.d (cellD c))
  | v => v
def frzAll (ε : FSt) : FSt := ε.map frzV
def fView (f : FT) : FT := fun ε => match f (frzAll ε) with
  | .ok (.val x) _ => if flatT x = true then .ok (.val x) ε else .no
  | _ => .no
def mu0 : Mu := fun _ => none
theorem hid0 {H : Hp} : hid mu0 H = H := by
  funext b
  exact hid_of rfl
def frzD (v : Option FV) (d : Option DV) : Option DV := match v with
  | some (.c c) => some (.d (cellD c))
  | some (.b c) => some (.d (cellD c))
  | _ => d
def frzDs : FSt → DSt → DSt
  | v :: ε, d :: δ => frzD v d :: frzDs ε δ
  | _, δ => δ
theorem frzDs_len : ∀ (ε : FSt) (δ : DSt), (frzDs ε δ).length = δ.length
  | [], δ => by cases δ <;> rfl
  | v :: ε, [] => rfl
  | v :: ε, d :: δ => by simp [frzDs, frzDs_len ε δ]
theorem frzDs_get : ∀ (ε : FSt) (δ : DSt) (i : Nat) (d : DV), (frzDs ε δ)[i]? = some (some d) → (∃ c, getC ε i = some c ∧ d = .d (cellD c)) ∨ δ[i]? = some (some d)
  | [], δ, i, d, h => by
    have : frzDs [] δ = δ := by cases δ <;> rfl
    rw [this] at h
    exact .inr h
  | v :: ε, [], i, d, h => by simp [frzDs] at h
  | v :: ε, e :: δ, 0, d, h => by
    simp only [frzDs, List.getElem?_cons_zero, Option.some.injEq] at h
    unfold frzD at h
    split at h
    · next c => cases h; exact .inl ⟨c, rfl, rfl⟩
    · next c => cases h; exact .inl ⟨c, rfl, rfl⟩
    · exact .inr (by simpa using h)
  | v :: ε, e :: δ, i + 1, d, h => by
    have := frzDs_get ε δ i d (by simpa [frzDs] using h)
    rcases this with ⟨c, h1, h2⟩ | h1
    · exact .inl ⟨c, by unfold getC at h1 ⊢; simpa using h1, h2⟩
    · exact .inr (by simpa using h1)
theorem frzDs_of : ∀ (ε : FSt) (δ : DSt), δ.length = ε.length → ∀ (i : Nat) (x : PyData), (∀ y, ε[i]? = some (some (.d y)) → δ[i]? = some (some (.d y))) → (frzAll ε)[i]? = some (some (.d x)) → (frzDs ε δ)[i]? = some (some (.d x))
  | [], δ, hl, i, x, hd, h => by simp [frzAll] at h
  | v :: ε, [], hl, i, x, hd, h => by simp at hl
  | v :: ε, e :: δ, hl, 0, x, hd, h => by
    simp only [frzAll, List.map_cons, List.getElem?_cons_zero, Option.some.injEq] at h
    simp only [frzDs, List.getElem?_cons_zero, Option.some.injEq]
    unfold frzV at h
    unfold frzD
    split at h
    · cases h; rfl
    · cases h; rfl
    · next v' h1 h2 =>
      subst h
      have := hd x rfl
      simpa using this
  | v :: ε, e :: δ, hl, i + 1, x, hd, h => by
    have := frzDs_of ε δ (by simpa using hl) i x (fun y hy => by simpa using hd y (by simpa using hy)) (by simpa [frzAll] using h)
    simpa [frzDs] using this
theorem frzV_c {v : Option FV} {c : Cell} : frzV v ≠ some (.c c) ∧ frzV v ≠ some (.b c) := by
  unfold frzV
  split
  · exact ⟨by simp, by simp⟩
  · exact ⟨by simp, by simp⟩
  · next h1 h2 => exact ⟨fun e => h1 c e, fun e => h2 c e⟩
theorem frzAll_getC {ε : FSt} {i : Nat} : getC (frzAll ε) i = none := by
  cases e : getC (frzAll ε) i with
  | none => rfl
  | some c =>
    rcases getC_some e with h | h
    · simp only [frzAll, List.getElem?_map, Option.map_eq_some_iff] at h
      obtain ⟨v, _, hv⟩ := h
      exact (frzV_c.1 hv).elim
    · simp only [frzAll, List.getElem?_map, Option.map_eq_some_iff] at h
      obtain ⟨v, _, hv⟩ := h
      exact (frzV_c.2 hv).elim
mutual
theorem Da.flat {K : PySem.W.Frag} {H H' : Hp} (hs : ∀ a o xs, H a = some (.frz o (.tup xs)) → H' a = some (.frz o (.tup xs))) : ∀ {v : V} {d : PyData}, Da K H v d → flatT d = true → Da K H' v d
  | _, _, .non, _ => .non
  | _, _, .bl b, _ => .bl b
  | _, _, .int i, _ => .int i
  | _, _, .str x, _ => .str x
  | _, _, .lst h a, f => by simp [flatT] at f
  | _, _, .tup h a, f => .tup (by
      rcases h with ⟨o, h1, h2⟩ | h
      · exact .inl ⟨o, hs _ _ _ h1, h2⟩
      · exact .inr h) (DaAll.flat hs a (by simpa [flatT] using f))
  | _, _, .dct h a, f => by simp [flatT] at f
theorem DaAll.flat {K : PySem.W.Frag} {H H' : Hp} (hs : ∀ a o xs, H a = some (.frz o (.tup xs)) → H' a = some (.frz o (.tup xs))) : ∀ {vs : List V} {ds : List PyData}, DaAll K H vs ds → flatTs ds = true → DaAll K H' vs ds
  | _, _, .nil, _ => .nil
  | _, _, .cons h t, f => by
    simp only [flatTs, Bool.and_eq_true] at f
    exact .cons (Da.flat hs h f.1) (DaAll.flat hs t f.2)
end
section
variable {X : Cx} {e : Expr} {f : FT}
theorem f_view (h : FE X e f) : FE X e (fView f) := pe_imp h fun σ H Q ⟨δ, μ, Qd, rs, rm, ⟨ε, m, q⟩, w⟩ => by
  have m0 : Mt (frzDs ε δ) mu0 (frzAll ε) := by
    refine ⟨by rw [frzDs_len]; simp [frzAll, m.len], fun i x hx => frzDs_of ε δ m.len i x (fun y hy => m.dat i y hy) hx, fun i c hc => ?_, fun i j p hi => ?_⟩
    · rw [frzAll_getC] at hc; cases hc
    · obtain ⟨c, hc⟩ := isC_some hi
      rw [frzAll_getC] at hc; cases hc
  have rs0 : RS X.K mu0 H σ (frzDs ε δ) := ⟨by rw [frzDs_len]; exact rs.1, fun i d hd => by
    rcases frzDs_get ε δ i d hd with ⟨c, h1, rfl⟩ | h1
    · obtain ⟨p, h2, h3⟩ := m.cel i c h1
      obtain ⟨v, h4, h5⟩ := rs.2 i _ h2
      refine ⟨v, h4, ?_⟩
      show Da X.K (hid mu0 H) v (cellD c)
      rw [hid0]
      exact look_da rm h5 (by show (μ p).map cellD = _; rw [h3]; rfl)
    · obtain ⟨v, h4, h5⟩ := rs.2 i _ h1
      refine ⟨v, h4, ?_⟩
      cases d with
      | cell p => exact h5
      | d x =>
        show Da X.K (hid mu0 H) v x
        rw [hid0]
        exact Da.mono unhid h5⟩
  have rm0 : RM X.K mu0 H := fun a c e => by cases e
  unfold fView at q
  cases e : f (frzAll ε) with
  | no => simp only [e] at q; exact q.elim
  | ex _ _ => simp only [e] at q; exact q.elim
  | ok r ε' =>
    cases r with
    | ref _ => simp only [e] at q; exact q.elim
    | own _ => simp only [e] at q; exact q.elim
    | val x =>
      simp only [e] at q
      split at q
      · next fx =>
        have qx : Qd (.d x) μ := q _ _ (.refl m) rfl
        refine ⟨frzDs ε δ, mu0, fun d _ => d = .d x, rs0, rm0, ⟨frzAll ε, m0, ?_⟩, fun d μ2 v H2 ex rm2 rv hd => ?_⟩
        · rw [e]
          exact fun v μ' t p => p
        · subst hd
          have hk : ∀ b u, H b = some u → H2 b = some u := fun b u hb => (hid_some (ex b u (by rw [hid0]; exact hb))).1
          have hk2 : ∀ b u, H b = some u → μ2 b = none := fun b u hb => (hid_some (ex b u (by rw [hid0]; exact hb))).2
          have ex2 : Ext μ H μ H2 := fun b u hb => by
            obtain ⟨h1, h2⟩ := hid_some hb
            rw [hid_of h2]
            exact hk b u h1
          have rm3 : RM X.K μ H2 := fun a c hc => by
            have ok := rm a c hc
            refine ok.mono ex2 ?_
            cases c with
            | lst ds => obtain ⟨xs, h1, _⟩ := ok; rw [h1]; exact hk _ _ h1
            | dct kvs => obtain ⟨ks, h1, _⟩ := ok; rw [h1]; exact hk _ _ h1
          refine w (.d x) μ v H2 ex2 rm3 ?_ qx
          show Da X.K (hid μ H2) v x
          refine Da.flat (fun a o xs ha => ?_) (show Da X.K (hid μ2 H2) v x from rv) fx
          obtain ⟨h1, h2⟩ := hid_some ha
          have h3 : μ a = none := by
            cases hm : μ a with
            | none => rfl
            | some c =>
              have ok := rm3 a c hm
              cases c with
              | lst ds => obtain ⟨ys, h4, _⟩ := ok; rw [h1] at h4; cases h4
              | dct kvs => obtain ⟨ks, h4, _⟩ := ok; rw [h1] at h4; cases h4
          rw [hid_of h3]
          exact h1
      · exact q.elim
end
end FL

namespace FL
open PySem PySem.Spec PyProof.Rows L2 DL
/-! ### a tuple, so many times -/
theorem tuple_mul1W (l : Addr) (items : Array Value) (n : Nat) (dd : Option Addr) (sl : Array (Option Value)) (u : Tok) (c1 : (items.isEmpty || (1 : Int) == 1) = true) :
    Meets (Builtin.«tuple.__mul__» ⟨[.ref l, .int 1 u], []⟩) (fun _ R s => s.heap.get? l = some { cls := .type "tuple", dict := dd, data := .seq items n, slots := sl } ∧ R (.ok (.ret (Value.ref l))) s) :=
  .of_wp fun prog w A R s h => by
    obtain ⟨hp, g, d, tk, os⟩ := s
    obtain ⟨hl, h⟩ := h
    have f1 := AutoSeq1.idx_int
    wp_walk using wpAny_loadPart' hl
    repeat (first
      | (refine wpAny_ite_false (decide_eq_false (by decide)) ?_; wp_walk using wpAny_loadPart' hl)
      | (refine wpAny_ite_true (decide_eq_true (by rw [c1])) ?_; wp_walk using wpAny_loadPart' hl))
    exact ⟨_, rfl, h⟩
def rRepT1 (K : PySem.W.Frag) : R2 := fun x y H Q => ∃ l xs, x = .ref l ∧ y = .int 1 ∧ SqT K H l xs ∧ Q (.ref l) H
section
variable {X : Cx} {pos : Pos} {a b : Expr} {fa fb : FT}
theorem op_repT1 : OpR X (binaryOp .Mult) (rRepT1 X.K) := by
  intro pins s σ H x y v u Q I rx ry h
  obtain ⟨l, xs, rfl, rfl, hT, q⟩ := h
  cases rx
  obtain ⟨t, rfl⟩ := ry
  obtain ⟨its, r, ⟨⟨cls, dd, data, sl⟩, ho, hc, n, hd⟩, hs⟩ := I.tuple hT
  simp only at hc hd
  subst hc hd
  refine wpAny_binaryOp_repeat_ref (T := "tuple") (U := "int") (by decide) ⟨_, ho, rfl⟩ (fun s' => typeIs_int s' 1 t) noFill_tuple_mul F.fills_int_mul F.slot_int_rmul repeat_tuple F.slot_int_index.lookup
    (call_meets F.slot_int_rmul (typeIs_int s 1 t) F.entry_int_rmul (F.args_int_rmul_2 _ _) (int_rmul_tuple 1 t l its.toArray n dd sl)
      ⟨ho, rfl, ⟨_, ho, rfl⟩, call_meets F.slot_tuple_mul ⟨_, ho, rfl⟩ F.entry_tuple_mul (F.args_tuple_mul_2 _ _) (tuple_mul1W l its.toArray n dd sl t (by rw [Bool.or_comm]; rfl)) ⟨ho, ?_⟩⟩)
  exact ⟨.ref l, H, I, rfl, q⟩
def rRepT2 (K : PySem.W.Frag) : R2 := fun x y H Q => ∃ l k xs, x = .ref l ∧ y = .int k ∧ SqT K H l xs ∧ xs ≠ [] ∧ 2 ≤ k ∧ k ≤ 1000 ∧ xs.length ≤ 1000 ∧ xs.length * k.toNat ≤ 900000 ∧ NewT H (List.replicate k.toNat xs).flatten Q
theorem op_repT2 : OpR X (binaryOp .Mult) (rRepT2 X.K) := by
  intro pins s σ H x y v u Q I rx ry h
  obtain ⟨l, k, xs, rfl, rfl, hT, hne, h1, h2, hz, hz2, q⟩ := h
  cases rx
  obtain ⟨t, rfl⟩ := ry
  obtain ⟨its, r, ⟨⟨cls, dd, data, sl⟩, ho, hc, n, hd⟩, hs⟩ := I.tuple hT
  simp only at hc hd
  subst hc hd
  have hle : its.length = xs.length := r.length.symm
  have hn : its ≠ [] := fun e => hne (by
    rw [e] at hle
    exact List.eq_nil_of_length_eq_zero hle.symm)
  have hi : its.toArray.isEmpty = false := by
    cases its with
    | nil => exact absurd rfl hn
    | cons a b => rfl
  have hsz0 : its.toArray.size = xs.length := by rw [List.size_toArray, hle]
  have hm : ((its.toArray.size : Nat) : Int) * k ≤ 1000000 := by
    rw [hsz0]
    have a1 : ((xs.length : Nat) : Int) * k ≤ 1000 * k := Int.mul_le_mul_of_nonneg_right (by omega) (by omega)
    omega
  have flen : (List.replicate k.toNat its).flatten.length ≤ sizeLine := by
    rw [PyProof.Rows.lm_len_rep_flat, hle, sizeLine_eq]
    have a1 : k.toNat * xs.length ≤ 1000 * 1000 := Nat.mul_le_mul (by omega) hz
    omega
  have c0 : (decide (k < -(2 ^ 63)) || decide (k ≥ 2 ^ 63)) = false := by
    rw [decide_eq_false (by omega), decide_eq_false (by omega)] <;> rfl
  have c1 : (its.toArray.isEmpty || k == 1) = false := by
    rw [hi, Bool.false_or]
    exact beq_eq_false_iff_ne.mpr (by omega)
  have c2 : (decide (k ≤ 0) || its.toArray.isEmpty) = false := by
    rw [hi, Bool.or_false]
    exact decide_eq_false (by omega)
  have c4 : Builtin.Tuple.tupleTooMany (((its.toArray.size : Nat) : Int) * k) = false := by
    unfold Builtin.Tuple.tupleTooMany
    rw [sizeLine_eq]
    exact decide_eq_false (by omega)
  refine wpAny_binaryOp_repeat_ref (T := "tuple") (U := "int") (by decide) ⟨_, ho, rfl⟩ (fun s' => typeIs_int s' k t) noFill_tuple_mul F.fills_int_mul F.slot_int_rmul repeat_tuple F.slot_int_index.lookup
    (call_meets F.slot_int_rmul (typeIs_int s k t) F.entry_int_rmul (F.args_int_rmul_2 _ _) (int_rmul_tuple k t l its.toArray n dd sl)
      ⟨ho, rfl, ⟨_, ho, rfl⟩, call_meets F.slot_tuple_mul ⟨_, ho, rfl⟩ F.entry_tuple_mul (F.args_tuple_mul_2 _ _) (tuple_mulW l its.toArray n dd sl k t c0 c1 c2 (by omega) c4 (by rw [size_rep, List.size_toArray]; exact flen)) ⟨ho, ?_⟩⟩)
  rw [size_rep]
  exact lay_tup I (by rw [PyProof.Rows.lm_len_rep_flat, Nat.mul_comm]; exact Nat.le_trans hz2 (by decide)) (r.rep k.toNat) q
noncomputable def gMulT : PyData → PyData → Option PyData
  | .tuple xs, .int k => req (xs ≠ [] ∧ 1 ≤ k ∧ k ≤ 1000 ∧ xs.length ≤ 900) (some (.tuple (List.replicate k.toNat xs).flatten))
  | _, _ => none
theorem p_mulT {K : PySem.W.Frag} : Up2 K (rdP2 gMulT) (fun x y H Q => rRepT2 K x y H Q ∨ rRepT1 K x y H Q) := fun x y μ Qd v u H Q m rx ry ⟨a, b, z, ea, eb, ez, q⟩ w => by
  unfold gMulT at ez
  split at ez
  · next xs k =>
    obtain ⟨⟨hn, h1, h2, h3⟩, e⟩ := req_some ez
    cases e
    obtain ⟨rfl, p, vs, rfl, s, t⟩ := look_tup rx ea
    have l1 := t.length
    rw [look_int ry eb]
    by_cases hk : k = 1
    · subst hk
      refine .inr ⟨p, vs, rfl, rfl, same_seqT unhid s, ?_⟩
      have e1 : (List.replicate (1 : Int).toNat xs).flatten = xs := by simp
      rw [e1] at q
      exact w (.d (.tuple xs)) μ _ H (.refl _ _) m (.tup s t) q
    · refine .inl ⟨p, k, vs, rfl, rfl, same_seqT unhid s, fun z => hn ?_, by omega, h2, by omega, ?_, wk_tup w m (da_rep t _) q⟩
      · subst z
        cases t; rfl
      · have : vs.length * k.toNat ≤ 900 * 1000 := Nat.mul_le_mul (by omega) (by omega)
        omega
  · cases ez
theorem f_mulT (ha : FE X a fa) (hb : FE X b fb) : FE X (.BinOp a .Mult b pos) (fOp gMulT fa fb) := d_imp (d_op (op_repT2.or op_repT1) p_mulT ha hb) up_fOp
end
end FL
namespace FL
open PySem PySem.Spec PyProof.Rows L2 DL
/-! ### any of ints, a tuple -/
theorem truth_ints {prog : Program} {w : World} {A : Around} : ∀ {ns : List Int} {its : List Value}, IntsAre its ns →
    TruthOf prog w A (fun i v => its.toArray[i]? = some v) (fun i => (ns.map fun n => n != 0).getD i false) := by
  intro ns its h i v s Q E hv hq
  have hv' : its[i]? = some v := by simpa using hv
  have key : ∀ {ns : List Int} {its : List Value}, IntsAre its ns → ∀ i : Nat, its[i]? = some v → ∃ n t, v = .int n t ∧ ns[i]? = some n := by
    intro ns its h
    induction h with
    | nil => intro i e; simp at e
    | cons n t _ ih =>
      intro i e
      cases i with
      | zero => simp at e; exact ⟨n, t, e.symm, rfl⟩
      | succ i => simp at e; obtain ⟨n', t', h1, h2⟩ := ih i e; exact ⟨n', t', h1, by simpa using h2⟩
  obtain ⟨n, t, rfl, hn⟩ := key h i hv'
  have hg : (ns.map fun n => n != 0).getD i false = (n != 0) := by rw [List.getD_eq_getElem?_getD, List.getElem?_map, hn] <;> rfl
  have hq' : Q ((ns.map fun n => n != 0).getD i false) s := hq
  rw [hg] at hq'
  exact PyProof.Rows.truthy_int hq'
def rAnyT (K : PySem.W.Frag) : List V → Hp → VK → Prop := fun vs H Q => ∃ (a : Addr) (ns : List Int), vs = [V.ref a] ∧ SqT K H a (ns.map V.int) ∧ Q (.bl (ns.any fun n => n != 0)) H
section
variable {X : Cx}
theorem cr_anyT (hc : X.calm = true) : CallR X (.builtin "any") (rAnyT X.K) := by
  intro pins s σ H vs us Q I r h
  obtain ⟨a, ns, rfl, hs, q⟩ := h
  obtain ⟨its, rv, ⟨⟨cls, dd, data, sl⟩, ho, hcl, n, hd⟩, _⟩ := I.tuple hs
  simp only at hcl hd
  subst hcl hd
  rw [Vals.ref1 r]
  have hi := rv.ints
  have hl : s.heap.IsTuple a its.toArray := ⟨_, ho, rfl, n, rfl⟩
  have hlt : a < s.heap.objs.size := Heap.lt_size ho
  refine call_any_walk (wpAny_pyIter_tuple hl ?_)
  refine ⟨_, _, _, _, _, _, _, rfl, Walks.tuple (A := X.A.in1) (I.ok.hd hc) _ a (Nat.ne_of_lt hlt) its.toArray, ⟨⟨_, Heap.get?_push_size _ rfl, rfl, rfl⟩, hl.push _⟩, truth_ints hi, fun h' tk hk => ?_⟩
  refine ⟨.bl _, H, I.kept fun b o eo => hk b o (fun hmem => ?_) (Heap.get?_push_of_some _ eo), ?_, q⟩
  · rcases List.mem_cons.mp hmem with e1 | hmem
    · exact absurd (e1 ▸ Heap.lt_size eo) (Nat.lt_irrefl _)
    · cases hmem
  · show Value.bool _ = Value.bool _
    have hlen : its.toArray.size = (ns.map fun n => n != 0).length := by rw [List.size_toArray, List.length_map, ← List.length_map (f := V.int) (as := ns), rv.length]
    rw [hlen, L2.any_range, List.any_map]
    rfl
def gAnyT : List PyData → Option PyData
  | [.tuple xs] => (intsOf xs).map fun ns => .bool (ns.any fun n => n != 0)
  | _ => none
theorem p_anyT {K : PySem.W.Frag} : UpA K (rdPA gAnyT) (rAnyT K) := upA_1 (fun as z h => by unfold gAnyT at h; split at h <;> simp at h; exact ⟨_, rfl⟩) fun x a z v μ Qd H Q m r e ez q w => by
  unfold gAnyT at ez
  split at ez
  · next xs ea =>
    cases ea
    simp only [Option.map_eq_some_iff] at ez
    obtain ⟨ns, e1, rfl⟩ := ez
    have e2 := intsOf_some e1
    subst e2
    obtain ⟨rfl, p, vs, rfl, s, t⟩ := look_tup r e
    have e3 := t.ints_inv
    subst e3
    exact ⟨p, ns, rfl, same_seqT unhid s, w (.d (.bool _)) μ _ H (.refl _ _) m (Da.bl _) q⟩
  · cases ez
end
end FL

namespace FL
open PySem PySem.Spec PyProof.Rows L2 DL
/-! ### a, b, .. = a list -/
def gdLst (is : List Nat) : DTG := fun d δ μ Q => match d with
  | .d (.list xs) => xs.length = is.length ∧ Q (setAll is xs δ) μ
  | _ => False
section
variable {X : Cx} {pos : Pos} {e : Expr} {fe : FT}
theorem g_lst {es : List Expr} {k : Nat} {is : List Nat} (hc : X.calm = true) (h : PGs X es (gNames is))
    (hn : (assignEach es X.env).length = is.length := by rfl) (hst : (assignEach es X.env).findIdx? (·.1) = none := by rfl) : DG true X (.Tuple es k pos) (gdLst is) :=
  pg_imp (pg_unl hc h hn hst) fun v σ H Q ⟨δ, μ, d, Qd, rs, rm, r, q, w⟩ => by
    unfold gdLst at q
    split at q
    · next xs =>
      have r' : Da X.K (hid μ H) v (.list xs) := r
      cases r' with
      | lst s t => exact ⟨_, _, rfl, unhid.seq s, by rw [t.length, q.1], gNames_use t q.1 rs fun σ' rs' => w _ μ σ' H (.refl _ _) rm rs' q.2⟩
    · exact q.elim
def tgL (is : List Nat) : GF := fun d ε => match d with
  | .list xs => if xs.length = is.length then setAllF is xs ε else none
  | _ => none
def fsAsgL (is : List Nat) (fe : FT) : FS := fun ε => (fe ε).bind fun r ε1 => match (seeV r).bind fun d => tgL is d ε1 with
  | some ε2 => .ok .nx ε2
  | none => .no
theorem fs_asgL {tg : Expr} {is : List Nat} (he : FE X e fe) (hg : DG true X tg (gdLst is)) (hs : swapsWithSole [tg] e pos.line X.env = pure false := by rfl) (hw : swappedStores [tg] e X.env = pure none := by rfl)
    (h1 : (assignEach [tg] X.env).map (·.2) = [assign tg X.env] := by rfl) : FSt1 X (.Assign [tg] e pos) (fsAsgL is fe) := s_imp (s_asg he hg hs hw h1) fun D δ μ ⟨ε, m, h⟩ => useSE m h fun r ε1 v μ1 t p h1 => by
  cases r with
  | ref _ => exact h1.elim
  | own _ => exact h1.elim
  | val d =>
    cases (show v = .d d from p)
    cases ho : tgL is d ε1 with
    | none => simp only [seeV, Option.bind_some, ho] at h1; exact h1.elim
    | some ε2 =>
      simp only [seeV, Option.bind_some, ho] at h1
      unfold tgL at ho
      split at ho
      · next xs =>
        split at ho
        · next hl => exact ⟨hl, h1 _ _ (t.tr.trans m (setAllF_tr t.mt ho))⟩
        · cases ho
      · cases ho
theorem ap_asgL {is : List Nat} {ε : FSt} : fsAsgL is fe ε = (fe ε).bind fun r ε1 => match (seeV r).bind fun d => tgL is d ε1 with
  | some ε2 => .ok .nx ε2
  | none => .no := rfl
theorem ap_tgL {is : List Nat} {xs : List PyData} {ε : FSt} : tgL is (.list xs) ε = if xs.length = is.length then setAllF is xs ε else none := rfl
end
end FL

namespace FL
open PySem PySem.Spec PyProof.Rows L2 DL
/-! ### evaluation, applied -/
section
variable {ε : FSt} {fa fb fc fe fo fi ff : FT} {fr : FTA} {t u : FTT} {f g : FS} {wi : FTI} {gf : GF}
theorem ap_var {i : Nat} : fVar i ε = match ε[i]? with
  | some (some (.d x)) => .ok (.val x) ε
  | some (some (.c _)) => .ok (.ref i) ε
  | some (some (.b _)) => .ok (.ref i) ε
  | _ => .no := rfl
theorem ap_c {x : PyData} : fC x ε = .ok (.val x) ε := rfl
theorem ap_un {g} : fUn g fa ε = (fa ε).bind fun x ε1 => ofO ε1 ((see ε1 x).bind g) := rfl
theorem ap_unV {g} : fUnV g fa ε = (fa ε).bind fun x ε1 => ofO ε1 ((seeV x).bind g) := rfl
theorem ap_op {g} : fOp g fa fb ε = (fa ε).bind fun x ε1 => (fb ε1).bind fun y ε2 => ofO ε2 ((see ε2 x).bind fun a => (see ε2 y).bind fun b => g a b) := rfl
theorem ap_opO {g} : fOpO g fa fb ε = (fa ε).bind fun x ε1 => (fb ε1).bind fun y ε2 => ofOL ε2 ((see ε2 x).bind fun a => (see ε2 y).bind fun b => g a b) := rfl
theorem ap_fn {g} : fFn g fr ε = (fr ε).bind fun xs ε1 => ofO ε1 ((sees ε1 xs).bind g) := rfl
theorem ap_nil : faNil ε = .ok [] ε := rfl
theorem ap_cons : faCons fa fr ε = (fa ε).bind fun x ε1 => (fr ε1).bind fun xs ε2 => .ok (x :: xs) ε2 := rfl
theorem ap_tr : fTr fe ε = (fe ε).bind fun x ε1 => ofB ε1 ((see ε1 x).bind gT) := rfl
theorem ap_b : fB fe ε = (fe ε).bind fun x ε1 => match x with
  | .val (.bool b) => .ok b ε1
  | _ => .no := rfl
theorem ap_tand : ftAnd t u ε = (t ε).bind fun b ε1 => if b = true then u ε1 else .ok false ε1 := rfl
theorem ap_tor : ftOr t u ε = (t ε).bind fun b ε1 => if b = true then .ok true ε1 else u ε1 := rfl
theorem ap_tnot : ftNot t ε = (t ε).bind fun b ε1 => .ok (!b) ε1 := rfl
theorem ap_and : fAndV fa fb ε = (fa ε).bind fun x ε1 => match (see ε1 x).bind gT with
  | some true => fb ε1
  | some false => .ok x ε1
  | none => .no := rfl
theorem ap_or : fOrV fa fb ε = (fa ε).bind fun x ε1 => match (see ε1 x).bind gT with
  | some true => .ok x ε1
  | some false => fb ε1
  | none => .no := rfl
theorem ap_not : fNotV fa ε = (fa ε).bind fun x ε1 => match (see ε1 x).bind gT with
  | some k => .ok (.val (.bool (!k))) ε1
  | none => .no := rfl
theorem ap_if : fIf t fa fb ε = (t ε).bind fun b ε1 => if b = true then fa ε1 else fb ε1 := rfl
theorem ap_chain {g g'} : fChain g g' fa fb fc ε = (fa ε).bind fun x ε1 => (fb ε1).bind fun y ε2 => match (see ε2 x).bind fun a => (see ε2 y).bind fun b => g a b with
  | some (.bool true) => (fc ε2).bind fun w ε3 => ofO ε3 ((see ε3 y).bind fun a => (see ε3 w).bind fun b => g' a b)
  | some (.bool false) => .ok (.val (.bool false)) ε2
  | _ => .no := rfl
theorem ap_tup : fTup fr ε = (fr ε).bind fun rs ε1 => ofO ε1 ((vals rs).bind fun xs => req (xs.length ≤ 1000) (some (.tuple xs))) := rfl
theorem ap_lst : fLst fr ε = (fr ε).bind fun rs ε1 => ofO ε1 ((vals rs).bind fun xs => req (xs.length ≤ 1000) (some (.list xs))) := rfl
theorem ap_lstO : fLstO fr ε = (fr ε).bind fun rs ε1 => ofOL ε1 ((vals rs).bind fun xs => req (xs.length ≤ 1000) (some (.list xs))) := rfl
theorem ap_dictO : fDictO ε = .ok (.own (.dct [])) ε := rfl
theorem ap_frz : frz fa ε = (fa ε).bind fun r ε1 => match r with
  | .own c => .ok (.val (cellD c)) ε1
  | .val x => .ok (.val x) ε1
  | .ref _ => .no := rfl
theorem ap_sl {fl fh} : fSl fe fl fh ε = (fe ε).bind fun x ε1 => (fl ε1).bind fun l ε2 => (fh ε2).bind fun u ε3 => ofO ε3 ((see ε3 x).bind (gCut l u)) := rfl
theorem ap_no : fNo ε = .ok none ε := rfl
theorem ap_part : fPart fe ε = (fe ε).bind fun x ε1 => match see ε1 x with
  | some (.int i) => .ok (some i) ε1
  | _ => .no := rfl
theorem ap_mut {g : GM} : fMut g fo fr ε = (fo ε).bind fun o ε1 => match o with
  | .ref i => (fr ε1).bind fun as ε2 => match getC ε1 i, getC ε2 i, vals as with
    | some (.lst _), some (.lst xs), some ys => match g xs ys with
      | some (z, xs') => .ok (.val z) (setC ε2 i (.lst xs'))
      | none => .no
    | _, _, _ => .no
  | _ => .no := rfl
theorem ap_call {F : Fn} : fCall F fr ε = (fr ε).bind (callR F) := rfl
theorem ap_callK {F : Fn} {p : {α : Type} → List α → List α} : fCallK F p fr ε = (fr ε).bind fun rs ε1 => callR F (p rs) ε1 := rfl
theorem ap_get : fGet fo fi ff ε = (fo ε).bind fun x ε1 => match (see ε1 x).bind kvsOf with
  | none => .no
  | some _ => (fi ε1).bind fun y ε2 => (ff ε2).bind fun z ε3 => match (see ε3 x).bind kvsOf, (see ε3 y).bind keyOf, seeV z with
    | some kvs, some k, some c => .ok (.val ((valD kvs k).getD c)) ε3
    | _, _, _ => .no := rfl
theorem ap_dict : fDict fe ε = (fe ε).bind fun r ε1 => match (seeV r).bind gDictO with
  | some c => .ok (.own c) ε1
  | none => .no := rfl
theorem ap_isi {T} : fIsi T fe ε = (fe ε).bind fun x ε1 => ofO ε1 ((seeV x).bind fun d => some (.bool ((kitB (kindOf d) T).getD false))) := rfl
theorem ap_rep : fRep fa fb ε = (fa ε).bind fun x ε1 => (fb ε1).bind fun y ε2 => repR (lstOf ε2 x) (see ε2 y) ε2 := rfl
theorem ap_listO : fListO fe ε = (fe ε).bind fun r ε1 => match (seeV r).bind itemsOf with
  | some xs => .ok (.own (.lst xs)) ε1
  | none => .no := rfl
theorem ap_seq : fiSeq fe ε = (fe ε).bind fun r ε1 => match (seeV r).bind itemsOf with
  | some xs => .ok xs ε1
  | none => .no := rfl
theorem ap_iargs {g} : fiArgs g fr ε = (fr ε).bind fun as ε1 => match (vals as).bind g with
  | some xs => .ok xs ε1
  | none => .no := rfl
theorem ap_lc {vs} : fLc wi gf t fe vs ε = (wi ε).bind fun ds ε1 => (fLcGo gf t fe vs ds [] ε1).bind fun acc ε2 => .ok (.val (.list acc)) ε2 := rfl
theorem ap_lcO {vs} : fLcO wi gf t fe vs ε = (wi ε).bind fun ds ε1 => (fLcGo gf t fe vs ds [] ε1).bind fun acc ε2 => .ok (.own (.lst acc)) ε2 := rfl
theorem ap_yes : fYes ε = .ok true ε := rfl
theorem ap_sq : fsSeq f g ε = (f ε).bind fun fl ε1 => match fl with
  | .nx => g ε1
  | fl => .ok fl ε1 := rfl
theorem ap_ret : fsRet fe ε = (fe ε).bind fun r ε1 => .ok (.rt r) ε1 := rfl
theorem ap_drop : fsDrop fe ε = (fe ε).bind fun _ ε1 => .ok .nx ε1 := rfl
theorem ap_sif : fsIf t f g ε = (t ε).bind fun b ε1 => if b = true then f ε1 else g ε1 := rfl
theorem ap_nx : fsNext ε = .ok .nx ε := rfl
theorem ap_bk : fsBrk ε = .ok .bk ε := rfl
theorem ap_ct : fsCnt ε = .ok .ct ε := rfl
theorem ap_asg {i} : fsAsg i fe ε = (fe ε).bind (setR i) := rfl
theorem ap_setR {i : Nat} {r : FR} : setR i r ε = match isBb ε i, frV r with
  | false, some x => .ok .nx (ε.set i (some x))
  | _, _ => .no := rfl
theorem ap_isBb {i : Nat} : isBb ε i = match ε[i]? with
  | some (some (.b _)) => true
  | _ => false := rfl
theorem ap_sfrz {i : Nat} : fsFrz i ε = match ε[i]? with
  | some (some (.c c)) => .ok .nx (ε.set i (some (.d (cellD c))))
  | some (some (.d _)) => .ok .nx ε
  | _ => .no := rfl
theorem ap_setI : fsSetI fo fi fe ε = (fe ε).bind fun r ε1 => (fo ε1).bind fun o ε2 => (fi ε2).bind fun k ε3 => setI o (see ε3 k) r ε3 := rfl
theorem ap_setK : fsSetK fo fi fe ε = (fe ε).bind fun r ε1 => (fo ε1).bind fun o ε2 => (fi ε2).bind fun k ε3 => setK o (see ε3 k) r ε3 := rfl
theorem ap_for : fsFor wi gf f ε = (wi ε).bind fun ds ε1 => fsGo gf f ds ε1 := rfl
theorem ap_par {i j} : fsPar i j fr ε = (fr ε).bind fun rs ε1 => match rs with
  | [x, y] => setR2 i j x y ε1
  | _ => .no := rfl
theorem ap_asgT {is} : fsAsgT is fe ε = (fe ε).bind fun r ε1 => match (seeV r).bind fun d => tgT is d ε1 with
  | some ε2 => .ok .nx ε2
  | none => .no := rfl
theorem ap_run {n : Nat} {vs : List FV} : runF n f vs = fin vs (f (startF n vs)) := rfl
theorem ap_see {x} : see ε (.val x) = some x := rfl
theorem ap_seeo {c} : see ε (.own c) = some (cellD c) := rfl
theorem ap_seer {i} : see ε (.ref i) = (getC ε i).map cellD := rfl
theorem ap_getC {i : Nat} : getC ε i = match ε[i]? with
  | some (some (.c c)) => some c
  | some (some (.b c)) => some c
  | _ => none := rfl
theorem ap_setC {i : Nat} {c : Cell} : setC ε i c = match ε[i]? with
  | some (some (.c _)) => ε.set i (some (.c c))
  | some (some (.b _)) => ε.set i (some (.b c))
  | _ => ε := rfl
theorem ap_sees0 : sees ε [] = some [] := rfl
theorem ap_sees1 {x : FR} {r : List FR} : sees ε (x :: r) = (see ε x).bind fun a => (sees ε r).map (a :: ·) := rfl
theorem ap_tgN {i d} : tgN i d ε = if isBb ε i = true then none else some (ε.set i (some (.d d))) := rfl
theorem ap_tgT {is d} : tgT is d ε = match d with
  | .tuple xs => if xs.length = is.length then setAllF is xs ε else none
  | _ => none := rfl
end
/-- borrowed -/
def bb : Option FV → Bool
  | some (.b _) => true
  | _ => false
theorem ap_bb0 {x : Option FV} {ε : FSt} : isBb (x :: ε) 0 = bb x := by
  cases x with
  | none => rfl
  | some v => cases v <;> rfl
theorem ap_bbs {x : Option FV} {ε : FSt} {i : Nat} : isBb (x :: ε) (i + 1) = isBb ε i := by
  unfold isBb; rw [List.getElem?_cons_succ]
theorem ap_bbn : bb none = false := rfl
theorem ap_bbd {x : PyData} : bb (some (.d x)) = false := rfl
theorem ap_bbc {x : Cell} : bb (some (.c x)) = false := rfl
theorem ap_bbb {x : Cell} : bb (some (.b x)) = true := rfl
theorem fin_val {vs : List FV} {x : PyData} {ε : FSt} : fin vs (.ok (.rt (.val x)) ε) = match bors vs ε with
    | some bs => .ok (.val x) bs
    | none => .no := rfl
theorem fin_own {vs : List FV} {c : Cell} {ε : FSt} : fin vs (.ok (.rt (.own c)) ε) = match bors vs ε with
    | some bs => .ok (.own c) bs
    | none => .no := rfl
theorem fin_ref {vs : List FV} {i : Nat} {ε : FSt} : fin vs (.ok (.rt (.ref i)) ε) = match ε[i]?, bors vs ε with
    | some (some (.c c)), some bs => .ok (.own c) bs
    | _, _ => .no := rfl
theorem fin_nx {vs : List FV} {ε : FSt} : fin vs (.ok .nx ε) = match bors vs ε with
    | some bs => .ok (.val .none) bs
    | none => .no := rfl
theorem bors_nil {ε : FSt} : bors [] ε = some [] := rfl
theorem bors_d {x : PyData} {vs : List FV} {o} {ε : FSt} : bors (.d x :: vs) (o :: ε) = bors vs ε := rfl
theorem bors_b {x c : Cell} {vs : List FV} {ε : FSt} : bors (.b x :: vs) (some (.b c) :: ε) = (bors vs ε).map (c :: ·) := rfl
/-- a def's answer: data, nothing borrowed -/
abbrev tell (x : PyData) : FO := .ok (.val x) []
theorem callR_d0 {F : Fn} {ε : FSt} {r : FR} {x : PyData} (h : F [] = .ok (.val x) []) : callR F [] ε = .ok (.val x) ε := by
  unfold callR; simp [refsOf, argVs, putBack, h]
theorem callR_d1 {F : Fn} {ε : FSt} {x z : PyData} (h : F [.d x] = .ok (.val z) []) : callR F [.val x] ε = .ok (.val z) ε := by
  unfold callR; simp [refsOf, argVs, putBack, h]
theorem callR_d2 {F : Fn} {ε : FSt} {x y z : PyData} (h : F [.d x, .d y] = .ok (.val z) []) : callR F [.val x, .val y] ε = .ok (.val z) ε := by
  unfold callR; simp [refsOf, argVs, putBack, h]
theorem callR_d3 {F : Fn} {ε : FSt} {x y w z : PyData} (h : F [.d x, .d y, .d w] = .ok (.val z) []) : callR F [.val x, .val y, .val w] ε = .ok (.val z) ε := by
  unfold callR; simp [refsOf, argVs, putBack, h]
theorem callR_d4 {F : Fn} {ε : FSt} {x y w v z : PyData} (h : F [.d x, .d y, .d w, .d v] = .ok (.val z) []) : callR F [.val x, .val y, .val w, .val v] ε = .ok (.val z) ε := by
  unfold callR; simp [refsOf, argVs, putBack, h]
theorem callR_o1 {F : Fn} {ε : FSt} {x : PyData} {c : Cell} (h : F [.d x] = .ok (.own c) []) : callR F [.val x] ε = .ok (.own c) ε := by
  unfold callR; simp [refsOf, argVs, putBack, h]
theorem callR_o2 {F : Fn} {ε : FSt} {x y : PyData} {c : Cell} (h : F [.d x, .d y] = .ok (.own c) []) : callR F [.val x, .val y] ε = .ok (.own c) ε := by
  unfold callR; simp [refsOf, argVs, putBack, h]
theorem callR_o3 {F : Fn} {ε : FSt} {x y w : PyData} {c : Cell} (h : F [.d x, .d y, .d w] = .ok (.own c) []) : callR F [.val x, .val y, .val w] ε = .ok (.own c) ε := by
  unfold callR; simp [refsOf, argVs, putBack, h]
/-! operations, applied -/
section
variable {i j : Int} {a b : PyData} {xs ys : List PyData} {l u : Option Int}
theorem ap_glt : gLt (.int i) (.int j) = some (.bool (decide (i < j))) := rfl
theorem ap_gle : gLe (.int i) (.int j) = some (.bool (decide (i ≤ j))) := rfl
theorem ap_ggt : gGt (.int i) (.int j) = some (.bool (decide (j < i))) := rfl
theorem ap_gge : gGe (.int i) (.int j) = some (.bool (decide (j ≤ i))) := rfl
theorem ap_gsub : FL.gSub (.int i) (.int j) = some (.int (i - j)) := rfl
theorem ap_gadd : FL.gAdd (.int i) (.int j) = some (.int (i + j)) := rfl
theorem ap_gneg : gNeg (.int i) = some (.int (-i)) := rfl
theorem ap_gix : gIx a (.int i) = (itemsOf a).bind fun xs => atI xs i := rfl
theorem ap_cutl : gCut l u (.list xs) = some (.list (DL.cutD xs l u)) := rfl
theorem ap_cutt : gCut l u (.tuple xs) = some (.tuple (DL.cutD xs l u)) := rfl
theorem ap_gtup : gTuple [a] = (itemsOf a).map .tuple := rfl
theorem ap_glist : gList [a] = (itemsOf a).map .list := rfl
theorem ap_glen : gLen [a] = (itemsOf a).map fun xs => .int xs.length := rfl
theorem ap_gint : gInt [.int i] = some (.int i) := rfl
theorem ap_gintb {k : Bool} : gInt [.bool k] = some (.int (if k then 1 else 0)) := rfl
theorem ap_gabs : gAbs [.int i] = some (.int (if i < 0 then -i else i)) := rfl
theorem ap_gmax : gMax2 [.int i, .int j] = some (.int (if j > i then j else i)) := rfl
theorem ap_gmin : gMin2 [.int i, .int j] = some (.int (if j < i then j else i)) := rfl
theorem ap_isN : gIsN a .none = some (.bool (isNone a)) := rfl
theorem ap_notN : gNotN a .none = some (.bool (!isNone a)) := rfl
theorem ap_geq : gEq a b = (eqP a b).map .bool := rfl
theorem ap_gne : gNe a b = (eqP a b).map fun z => .bool (!z) := rfl
theorem ap_eqi : eqP (.int i) (.int j) = some (decide (i = j)) := rfl
theorem ap_eqb {i j : Bool} : eqP (.bool i) (.bool j) = some (decide (i = j)) := rfl
theorem ap_eqs {i j : Str} : eqP (.str i) (.str j) = some (decide (i = j)) := rfl
theorem ap_iol : itemsOf (.list xs) = some xs := rfl
theorem ap_iot : itemsOf (.tuple xs) = some xs := rfl
theorem ap_gtn : gT .none = some false := rfl
theorem ap_gtb {k : Bool} : gT (.bool k) = some k := rfl
theorem ap_gti : gT (.int i) = some (i != 0) := rfl
theorem ap_gtl : gT (.list xs) = some (!xs.isEmpty) := rfl
theorem ap_gtt : gT (.tuple xs) = some (!xs.isEmpty) := rfl
theorem ap_isn0 : isNone .none = true := rfl
theorem ap_isni : isNone (.int i) = false := rfl
theorem ap_isnl : isNone (.list xs) = false := rfl
theorem ap_isnt : isNone (.tuple xs) = false := rfl
theorem ap_rv {r : FR} : seeV r = match r with
  | .val x => some x
  | _ => none := by cases r <;> rfl
theorem ap_cellL : cellD (.lst xs) = .list xs := rfl
theorem ap_revl : gRev (.list xs) = some (.list xs.reverse) := rfl
theorem ap_revt : gRev (.tuple xs) = some (.tuple xs.reverse) := rfl
theorem ap_enum : gEnum [.list xs] = some (enumD 0 xs) := rfl
theorem ap_zipl : gZip [.list xs, .list ys] = some (zipD xs ys) := rfl
theorem ap_zipt : gZip [.tuple xs, .tuple ys] = some (zipD xs ys) := rfl
end
/-! turns of a loop -/
def runT (gf : GF) (fB : FS) (d : PyData) : FS := fun ε => match gf d ε with
  | none => .no
  | some ε1 => fB ε1
theorem go_nil {gf : GF} {fB : FS} {ε : FSt} : fsGo gf fB [] ε = .ok .nx ε := rfl
theorem go_nx {gf : GF} {fB : FS} {d : PyData} {ds : List PyData} {ε ε2 : FSt} (h : runT gf fB d ε = .ok .nx ε2) : fsGo gf fB (d :: ds) ε = fsGo gf fB ds ε2 := by
  unfold runT at h
  rw [fsGo]
  cases e : gf d ε with
  | none => simp only [e] at h; cases h
  | some ε1 => simp only [e] at h ⊢; simp only [h, R.bind_ok]
theorem go_ct {gf : GF} {fB : FS} {d : PyData} {ds : List PyData} {ε ε2 : FSt} (h : runT gf fB d ε = .ok .ct ε2) : fsGo gf fB (d :: ds) ε = fsGo gf fB ds ε2 := by
  unfold runT at h
  rw [fsGo]
  cases e : gf d ε with
  | none => simp only [e] at h; cases h
  | some ε1 => simp only [e] at h ⊢; simp only [h, R.bind_ok]
theorem go_bk {gf : GF} {fB : FS} {d : PyData} {ds : List PyData} {ε ε2 : FSt} (h : runT gf fB d ε = .ok .bk ε2) : fsGo gf fB (d :: ds) ε = .ok .nx ε2 := by
  unfold runT at h
  rw [fsGo]
  cases e : gf d ε with
  | none => simp only [e] at h; cases h
  | some ε1 => simp only [e] at h ⊢; simp only [h, R.bind_ok]
theorem go_rt {gf : GF} {fB : FS} {d : PyData} {ds : List PyData} {ε ε2 : FSt} {r : FR} (h : runT gf fB d ε = .ok (.rt r) ε2) : fsGo gf fB (d :: ds) ε = .ok (.rt r) ε2 := by
  unfold runT at h
  rw [fsGo]
  cases e : gf d ε with
  | none => simp only [e] at h; cases h
  | some ε1 => simp only [e] at h ⊢; simp only [h, R.bind_ok]
theorem ap_runT {gf : GF} {fB : FS} {d : PyData} {ε : FSt} : runT gf fB d ε = match gf d ε with
  | none => .no
  | some ε1 => fB ε1 := rfl
/-! comprehensions that change nothing -/
theorem lc_pure {gf : GF} {tt : FTT} {fe : FT} {vs : List Nat} {ε : FSt} {f : PyData → PyData} {p : PyData → Bool} : ∀ (ds acc : List PyData), acc.length + ds.length ≤ 1000000 →
    (∀ d ∈ ds, ∃ ε1, gf d (wipeF ε vs) = some ε1 ∧ restF ε ε1 vs = ε ∧ tt ε1 = .ok (p d) ε1 ∧ (p d = true → fe ε1 = .ok (.val (f d)) ε1)) → fLcGo gf tt fe vs ds acc ε = .ok (acc ++ (ds.filter p).map f) ε
  | [], acc, hl, h => by simp [fLcGo]
  | d :: ds, acc, hl, h => by
    obtain ⟨ε1, h1, h2, h3, h4⟩ := h d List.mem_cons_self
    have ih := fun acc hl => lc_pure ds acc hl fun e he => h e (List.mem_cons_of_mem _ he)
    unfold fLcGo
    simp only [List.length_cons] at hl
    simp only [h1, h3, R.bind_ok]
    cases hp : p d with
    | false => simp only [hp, Bool.false_eq_true, if_false, h2, List.filter_cons_of_neg, not_false_eq_true]; exact ih acc (by omega)
    | true =>
      simp only [hp, if_true, h4 hp, R.bind_ok, h2, List.filter_cons_of_pos, List.map_cons]
      rw [if_pos (by omega), ih (acc ++ [f d]) (by simp; omega)]
      simp
theorem lc_all {gf : GF} {fe : FT} {vs : List Nat} {ε : FSt} (f : PyData → PyData) {ds : List PyData} (hl : ds.length ≤ 1000000)
    (h : ∀ d ∈ ds, ∃ ε1, gf d (wipeF ε vs) = some ε1 ∧ restF ε ε1 vs = ε ∧ fe ε1 = .ok (.val (f d)) ε1) : fLcGo gf fYes fe vs ds [] ε = .ok (ds.map f) ε := by
  rw [lc_pure (f := f) (p := fun _ => true) ds [] (by simpa using hl) (fun d hd => by obtain ⟨ε1, a, b, c⟩ := h d hd; exact ⟨ε1, a, b, rfl, fun _ => c⟩), List.filter_eq_self.mpr (by simp)]
  rfl
theorem lc_some {gf : GF} {tt : FTT} {fe : FT} {vs : List Nat} {ε : FSt} (f : PyData → PyData) (p : PyData → Bool) {ds : List PyData} (hl : ds.length ≤ 1000000)
    (h : ∀ d ∈ ds, ∃ ε1, gf d (wipeF ε vs) = some ε1 ∧ restF ε ε1 vs = ε ∧ tt ε1 = .ok (p d) ε1 ∧ (p d = true → fe ε1 = .ok (.val (f d)) ε1)) : fLcGo gf tt fe vs ds [] ε = .ok ((ds.filter p).map f) ε := by
  rw [lc_pure (f := f) (p := p) ds [] (by simpa using hl) h]; simp
end FL

namespace FL
open PySem PySem.Spec PyProof.Rows L2 DL
section
variable {ε : FSt} {fr : FTA} {r : FR} {rs : List FR}
theorem ap_parN {is} : fsParN is fr ε = (fr ε).bind fun rs ε1 => if rs.length = is.length then match setAllR is rs ε1 with
  | some ε2 => .ok .nx ε2
  | none => .no else .no := rfl
theorem ap_sar0 : setAllR [] [] ε = some ε := rfl
theorem ap_sar1 {i : Nat} {is : List Nat} : setAllR (i :: is) (r :: rs) ε = if isBb ε i = true then none else (frV r).bind fun x => setAllR is rs (ε.set i (some x)) := rfl
theorem ap_frv {d : PyData} : frV (.val d) = some (.d d) := rfl
theorem ap_fro {c : Cell} : frV (.own c) = some (.c c) := rfl
theorem ap_call1 {F : Fn} {fa : FT} : fCall1O F fa ε = (fa ε).bind (call1O F) := rfl
theorem ap_c1o {F : Fn} {c : Cell} : call1O F (.own c) ε = match F [.b c] with
  | .ok (.val x) [_] => .ok (.val x) ε
  | .ok (.own c') [_] => .ok (.own c') ε
  | _ => .no := rfl
theorem ap_view {f : FT} : fView f ε = match f (frzAll ε) with
  | .ok (.val x) _ => if flatT x = true then .ok (.val x) ε else .no
  | _ => .no := rfl
theorem ap_frza0 : frzAll [] = [] := rfl
theorem ap_frza {v : Option FV} : frzAll (v :: ε) = frzV v :: frzAll ε := rfl
theorem ap_frzc {c : Cell} : frzV (some (.c c)) = some (.d (cellD c)) := rfl
theorem ap_frzb {c : Cell} : frzV (some (.b c)) = some (.d (cellD c)) := rfl
theorem ap_frzd {d : PyData} : frzV (some (.d d)) = some (.d d) := rfl
theorem ap_frzn : frzV none = none := rfl
end
end FL

namespace NA
open PySem PySem.Spec PyProof.Rows L2 DL FL
noncomputable def fb_is_number : FS := (fsRet (fAndV (fIsi "int" (fVar 0)) (fNotV (fIsi "bool" (fVar 0)))))
noncomputable def F_is_number : Fn := runF 1 fb_is_number
noncomputable def fb_is_within : FS := (fsRet (fAndV (fCall F_is_number (faCons (fVar 0) faNil)) (fChain gLe gLe (fVar 1) (fVar 0) (fVar 2))))
noncomputable def F_is_within : Fn := runF 3 fb_is_within
noncomputable def fb_is_two : FS := (fsRet (fAndV (fIsi "tuple" (fVar 0)) (fOp gEq (fFn gLen (faCons (fVar 0) faNil)) (fC (.int 2)))))
noncomputable def F_is_two : Fn := runF 1 fb_is_two
noncomputable def fb_ascends : FS := (fsRet (fFn gAll (faCons (fLc (fiArgs gZip (faCons (fVar 0) (faCons (fSl (fVar 0) (fPart (fC (.int 1))) fNo) faNil))) (tgT [1, 2]) fYes (fOp gLt (fVar 1) (fVar 2)) [1, 2]) faNil)))
noncomputable def F_ascends : Fn := runF 3 fb_ascends
noncomputable def fb_is_pairs : FS := (fsSeq (fsIf (ftNot (fTr (fIsi "tuple" (fVar 0)))) (fsRet (fC (.bool false))) fsNext)
    (fsSeq (fsIf (ftNot (fTr (fFn gAll (faCons (fLc (fiSeq (fVar 0)) (tgN 2) fYes (fAndV (fCall F_is_two (faCons (fVar 2) faNil)) (fAndV (fCall F_is_number (faCons (fOp gIx (fVar 2) (fC (.int 0))) faNil)) (fCall F_is_within (faCons (fOp gIx (fVar 2) (fC (.int 1))) (faCons (fC (.int 1)) (faCons (fOp gSub (fVar 1) (fC (.int 1))) faNil)))))) [2]) faNil)))) (fsRet (fC (.bool false))) fsNext)
    (fsRet (fCall F_ascends (faCons (fLc (fiSeq (fVar 0)) (tgN 2) fYes (fOp gIx (fVar 2) (fC (.int 0))) [2]) faNil)))))
noncomputable def F_is_pairs : Fn := runF 3 fb_is_pairs
noncomputable def fb_is_modulus : FS := (fsRet (fAndV (fCall F_is_number (faCons (fVar 0) faNil)) (fUnV (gInK [2, 3, 5, 6, 7, 10, 11, 13, 14, 15]) (fVar 0))))
noncomputable def F_is_modulus : Fn := runF 1 fb_is_modulus
noncomputable def fb_has_modulus : FS := (fsRet (fAndV (fCall F_is_two (faCons (fVar 0) faNil)) (fCall F_is_modulus (faCons (fOp gIx (fVar 0) (fC (.int 0))) faNil))))
noncomputable def F_has_modulus : Fn := runF 1 fb_has_modulus
noncomputable def fb_is_rule : FS := (fsRet (fAndV (fCall F_has_modulus (faCons (fVar 0) faNil)) (fCall F_is_pairs (faCons (fOp gIx (fVar 0) (fC (.int 1))) (faCons (fOp gIx (fVar 0) (fC (.int 0))) faNil)))))
noncomputable def F_is_rule : Fn := runF 1 fb_is_rule
noncomputable def fb_is_row : FS := (fsRet (fAndV (fCall F_has_modulus (faCons (fVar 0) faNil)) (fCall F_is_pairs (faCons (fOp gIx (fVar 0) (fC (.int 1))) (faCons (fOp gIx (fVar 0) (fC (.int 0))) faNil)))))
noncomputable def F_is_row : Fn := runF 1 fb_is_row
noncomputable def fb_is_round : FS := (fsSeq (fsIf (ftOr (ftNot (fTr (fCall F_has_modulus (faCons (fVar 0) faNil)))) (ftNot (fTr (fIsi "tuple" (fOp gIx (fVar 0) (fC (.int 1))))))) (fsRet (fC (.bool false))) fsNext)
    (fsRet (fAndV (fOp gGt (fFn gLen (faCons (fOp gIx (fVar 0) (fC (.int 1))) faNil)) (fC (.int 0))) (fFn gAll (faCons (fLc (fiSeq (fOp gIx (fVar 0) (fC (.int 1)))) (tgN 1) fYes (fCall F_is_within (faCons (fVar 1) (faCons (fC (.int 0)) (faCons (fOp gSub (fOp gIx (fVar 0) (fC (.int 0))) (fC (.int 1))) faNil)))) [1]) faNil)))))
noncomputable def F_is_round : Fn := runF 2 fb_is_round
noncomputable def fb_need_rule : FS := (fsIf (ftNot (fTr (fCall F_is_rule (faCons (fVar 0) faNil)))) fsNever fsNext)
noncomputable def F_need_rule : Fn := runF 1 fb_need_rule
noncomputable def fb_need_row : FS := (fsIf (ftNot (fTr (fCall F_is_row (faCons (fVar 0) faNil)))) fsNever fsNext)
noncomputable def F_need_row : Fn := runF 1 fb_need_row
noncomputable def fb_need_round : FS := (fsIf (ftNot (fTr (fCall F_is_round (faCons (fVar 0) faNil)))) fsNever fsNext)
noncomputable def F_need_round : Fn := runF 1 fb_need_round
noncomputable def fb_need_same : FS := (fsIf (fB (fOp gNe (fOp gIx (fVar 0) (fC (.int 0))) (fOp gIx (fVar 1) (fC (.int 0))))) fsNever fsNext)
noncomputable def F_need_same : Fn := runF 2 fb_need_same
noncomputable def fb_need_rules : FS := (fsSeq (fsDrop (fCall F_need_rule (faCons (fVar 0) faNil)))
    (fsSeq (fsDrop (fCall F_need_rule (faCons (fVar 1) faNil)))
    (fsDrop (fCall F_need_same (faCons (fVar 0) (faCons (fVar 1) faNil))))))
noncomputable def F_need_rules : Fn := runF 2 fb_need_rules
noncomputable def fb_still : FS := (fsSeq (fsIf (ftNot (fTr (fCall F_is_modulus (faCons (fVar 0) faNil)))) fsNever fsNext)
    (fsRet (fTup (faCons (fVar 0) (faCons (fTup (faCons (fTup (faCons (fC (.int 0)) (faCons (fC (.int 1)) faNil))) faNil)) faNil)))))
noncomputable def F_still : Fn := runF 1 fb_still
noncomputable def fb_left_of : FS := (fsRet (fFn gTuple (faCons (fLc (fiSeq (fFn gSortD (faCons (fVar 0) faNil))) (tgN 2) (fTr (fOp gMod (fOp gIxD (fVar 0) (fVar 2)) (fVar 1))) (fTup (faCons (fVar 2) (faCons (fOp gMod (fOp gIxD (fVar 0) (fVar 2)) (fVar 1)) faNil))) [2]) faNil)))
noncomputable def F_left_of : Fn := runF 3 fb_left_of
noncomputable def lb_sums_of_1 : FS := (fsSetK (fVar 2) (fVar 3) (fOp gAdd (fGet (fVar 2) (fVar 3) (fC (.int 0))) (fVar 4)))
noncomputable def fb_sums_of : FS := (fsSeq (fsAsg 2 fDictO)
    (fsSeq (fsFor (fiSeq (fOp gAdd (fVar 0) (fVar 1))) (tgT [3, 4]) lb_sums_of_1)
    (fsRet (fVar 2))))
noncomputable def F_sums_of : Fn := runF 5 fb_sums_of
noncomputable def lb_products_of_2 : FS := (fsSetK (fVar 2) (fOp gAdd (fVar 3) (fVar 5)) (fOp gAdd (fGet (fVar 2) (fOp gAdd (fVar 3) (fVar 5)) (fC (.int 0))) (fOp gMul (fVar 4) (fVar 6))))
noncomputable def lb_products_of_1 : FS := (fsFor (fiSeq (fVar 1)) (tgT [5, 6]) lb_products_of_2)
noncomputable def fb_products_of : FS := (fsSeq (fsAsg 2 fDictO)
    (fsSeq (fsFor (fiSeq (fVar 0)) (tgT [3, 4]) lb_products_of_1)
    (fsRet (fVar 2))))
noncomputable def F_products_of : Fn := runF 7 fb_products_of
noncomputable def fb_behind : FS := (fsSeq (fsDrop (fCall F_need_rules (faCons (fVar 0) (faCons (fVar 1) faNil))))
    (fsRet (fTup (faCons (fOp gIx (fVar 0) (fC (.int 0))) (faCons (fCall F_left_of (faCons (frz (fCall F_products_of (faCons (fOp gIx (fVar 0) (fC (.int 1))) (faCons (fOp gIx (fVar 1) (fC (.int 1))) faNil)))) (faCons (fOp gIx (fVar 0) (fC (.int 0))) faNil))) faNil)))))
noncomputable def F_behind : Fn := runF 2 fb_behind
noncomputable def lb_power_1 : FS := (fsSeq (fsAsg 2 (fCall F_behind (faCons (fVar 2) (faCons (fVar 2) faNil))))
    (fsIf (fTr (fOp gBand (fOp gShr (fVar 1) (fVar 3)) (fC (.int 1)))) (fsAsg 2 (fCall F_behind (faCons (fVar 2) (faCons (fVar 0) faNil)))) fsNext))
noncomputable def fb_power : FS := (fsSeq (fsDrop (fCall F_need_rule (faCons (fVar 0) faNil)))
    (fsSeq (fsIf (ftNot (fB (fChain gLe gLe (fC (.int 0)) (fVar 1) (fC (.int 40))))) fsNever fsNext)
    (fsSeq (fsAsg 2 (fCall F_still (faCons (fOp gIx (fVar 0) (fC (.int 0))) faNil)))
    (fsSeq (fsFor (fiArgs gDown (faCons (fUn gBitl (fVar 1)) faNil)) (tgN 3) lb_power_1)
    (fsRet (fVar 2))))))
noncomputable def F_power : Fn := runF 4 fb_power
noncomputable def fb_row_behind : FS := (fsSeq (fsAsg 2 (fLc (fiSeq (fOp gIx (fVar 0) (fC (.int 1)))) (tgT [3, 4]) fYes (fTup (faCons (fUn gNeg (fVar 3)) (faCons (fVar 4) faNil))) [3, 4]))
    (fsRet (fTup (faCons (fOp gIx (fVar 1) (fC (.int 0))) (faCons (fCall F_left_of (faCons (frz (fCall F_products_of (faCons (fOp gIx (fVar 1) (fC (.int 1))) (faCons (fVar 2) faNil)))) (faCons (fOp gIx (fVar 1) (fC (.int 0))) faNil))) faNil)))))
noncomputable def F_row_behind : Fn := runF 5 fb_row_behind
noncomputable def fb_step : FS := (fsSeq (fsDrop (fCall F_need_rule (faCons (fVar 0) faNil)))
    (fsSeq (fsDrop (fCall F_need_row (faCons (fVar 1) faNil)))
    (fsSeq (fsDrop (fCall F_need_same (faCons (fVar 0) (faCons (fVar 1) faNil))))
    (fsRet (fCall F_row_behind (faCons (fVar 0) (faCons (fVar 1) faNil)))))))
noncomputable def F_step : Fn := runF 2 fb_step
noncomputable def fb_round_step : FS := (fsSeq (fsDrop (fCall F_need_rule (faCons (fVar 0) faNil)))
    (fsSeq (fsDrop (fCall F_need_round (faCons (fVar 1) faNil)))
    (fsSeq (fsDrop (fCall F_need_same (faCons (fVar 0) (faCons (fVar 1) faNil))))
    (fsSeq (fsAsgT [2, 3] (fVar 1))
    (fsSeq (fsAsg 4 (fFn gLen (faCons (fVar 3) faNil)))
    (fsSeq (fsAsg 5 (fLc (fiArgs gRange1 (faCons (fVar 4) faNil)) (tgN 6) fYes (fFn gSum (faCons (fLc (fiSeq (fOp gIx (fVar 0) (fC (.int 1)))) (tgT [7, 8]) fYes (fOp gMul (fVar 8) (fOp gIx (fVar 3) (fOp gMod (fOp gAdd (fVar 6) (fVar 7)) (fVar 4)))) [7, 8]) faNil)) [6]))
    (fsRet (fTup (faCons (fVar 2) (faCons (fFn gTuple (faCons (fLc (fiSeq (fVar 5)) (tgN 9) fYes (fOp gMod (fVar 9) (fVar 2)) [9]) faNil)) faNil))))))))))
noncomputable def F_round_step : Fn := runF 10 fb_round_step
noncomputable def fb_added : FS := (fsSeq (fsDrop (fCall F_need_row (faCons (fVar 0) faNil)))
    (fsSeq (fsDrop (fCall F_need_row (faCons (fVar 1) faNil)))
    (fsSeq (fsDrop (fCall F_need_same (faCons (fVar 0) (faCons (fVar 1) faNil))))
    (fsRet (fTup (faCons (fOp gIx (fVar 0) (fC (.int 0))) (faCons (fCall F_left_of (faCons (frz (fCall F_sums_of (faCons (fOp gIx (fVar 0) (fC (.int 1))) (faCons (fOp gIx (fVar 1) (fC (.int 1))) faNil)))) (faCons (fOp gIx (fVar 0) (fC (.int 0))) faNil))) faNil)))))))
noncomputable def F_added : Fn := runF 2 fb_added
noncomputable def fb__law_source : FS := (fsSeq (fsAsg 2 (fOp gAdd (fOp gMul (fC (.int 31)) (fVar 1)) (fC (.int 19))))
    (fsSeq (fsIf (fB (fOp gLt (fVar 1) (fFn gLen (faCons (fVar 0) faNil)))) (fsAsg 2 (fOp gIx (fVar 0) (fVar 1))) fsNext)
    (fsSeq (fsAsg 3 (fOp gAdd (fFn gSum (faCons (fLc (fiArgs gEnum (faCons (fVar 0) faNil)) (tgT [4, 5]) fYes (fOp gMul (fOp gMod (fFn gInt (faCons (fVar 5) faNil)) (fOp gAdd (fOp gPow (fC (.int 10)) (fC (.int 20))) (fC (.int 39)))) (fOp gAdd (fVar 4) (fC (.int 3)))) [4, 5]) faNil)) (fOp gMul (fC (.int 73)) (fFn gLen (faCons (fVar 0) faNil)))))
    (fsSeq (fsAsg 6 (fOp gMod (fFn gInt (faCons (fOp gAdd (fOp gAdd (fOp gAdd (fOp gMul (fFn gAbs (faCons (fVar 2) faNil)) (fC (.int 48017))) (fOp gMul (fC (.int 5)) (fFn gInt (faCons (fOp gLt (fVar 2) (fC (.int 0))) faNil)))) (fOp gMul (fVar 3) (fC (.int 6367)))) (fVar 1)) faNil)) (fOp gAdd (fOp gPow (fC (.int 10)) (fC (.int 27))) (fC (.int 103)))))
    (fsRet (fLstO (faCons (fFn gMax2 (faCons (fC (.int 0)) (faCons (fOp gSub (fVar 2) (fOp gPow (fC (.int 10)) (fC (.int 18)))) faNil))) (faCons (fVar 6) (faCons (fC (.int 0)) faNil)))))))))
noncomputable def F__law_source : Fn := runF 7 fb__law_source
noncomputable def fb__law_pick : FS := (fsSeq (fsIf (fB (fOp gGt (fOp gIx (fVar 0) (fC (.int 0))) (fC (.int 0)))) (fsSeq (fsAsg 2 (fOp gMod (fFn gInt (faCons (fOp gIx (fVar 0) (fC (.int 0))) faNil)) (fVar 1)))
    (fsSeq (fsSetI (fVar 0) (fC (.int 0)) (fOp gFdiv (fOp gIx (fVar 0) (fC (.int 0))) (fVar 1)))
    (fsRet (fVar 2)))) fsNext)
    (fsSeq (fsSetI (fVar 0) (fC (.int 2)) (fOp gAdd (fOp gIx (fVar 0) (fC (.int 2))) (fC (.int 1))))
    (fsSeq (fsAsg 3 (fOp gMod (fFn gInt (faCons (fOp gAdd (fOp gPow (fOp gAdd (fOp gIx (fVar 0) (fC (.int 1))) (fOp gMul (fC (.int 773741389)) (fOp gIx (fVar 0) (fC (.int 2))))) (fC (.int 3))) (fOp gMul (fC (.int 11)) (fOp gIx (fVar 0) (fC (.int 2))))) faNil)) (fOp gAdd (fOp gPow (fC (.int 10)) (fC (.int 28))) (fC (.int 331)))))
    (fsSeq (fsAsg 3 (fOp gMod (fFn gInt (faCons (fOp gMul (fVar 3) (fOp gAdd (fVar 3) (fOp gMul (fC (.int 5413)) (fOp gIx (fVar 0) (fC (.int 2)))))) faNil)) (fOp gAdd (fOp gPow (fC (.int 10)) (fC (.int 26))) (fC (.int 67)))))
    (fsRet (fOp gMod (fFn gInt (faCons (fOp gFdiv (fVar 3) (fC (.int 7331))) faNil)) (fVar 1)))))))
noncomputable def F__law_pick : Fn := runF 4 fb__law_pick
noncomputable def fb__law_primes : FS := (fsRet (fLcO (fiSeq (fLst (faCons (fC (.int 2)) (faCons (fC (.int 3)) (faCons (fC (.int 5)) (faCons (fC (.int 7)) (faCons (fC (.int 11)) (faCons (fC (.int 13)) faNil)))))))) (tgN 1) (fB (fOp gEq (fOp gMod (fFn gInt (faCons (fVar 0) faNil)) (fVar 1)) (fC (.int 0)))) (fVar 1) [1]))
noncomputable def F__law_primes : Fn := runF 2 fb__law_primes
noncomputable def fb__law_modulus : FS := (fsRet (fOp gIx (fLst (faCons (fC (.int 2)) (faCons (fC (.int 3)) (faCons (fC (.int 5)) (faCons (fC (.int 6)) (faCons (fC (.int 7)) (faCons (fC (.int 10)) (faCons (fC (.int 11)) (faCons (fC (.int 13)) (faCons (fC (.int 14)) (faCons (fC (.int 15)) faNil))))))))))) (fCall F__law_pick (faCons (fVar 0) (faCons (fC (.int 10)) faNil)))))
noncomputable def F__law_modulus : Fn := runF 1 fb__law_modulus
noncomputable def fb__law_factor : FS := (fsRet (fOp gMul (fVar 2) (fOp gAdd (fC (.int 1)) (fCall F__law_pick (faCons (fVar 0) (faCons (fOp gSub (fOp gFdiv (fVar 1) (fVar 2)) (fC (.int 1))) faNil))))))
noncomputable def F__law_factor : Fn := runF 3 fb__law_factor
noncomputable def fb__law_terms : FS := (fsSeq (fsPar 2 3 (faCons (fCall F__law_pick (faCons (fVar 0) (faCons (fC (.int 8)) faNil))) (faCons (frz (fCall F__law_primes (faCons (fVar 1) faNil))) faNil)))
    (fsSeq (fsAsgT [4, 5] (fTup (faCons (fC (.int 1)) (faCons (fLc (fiArgs gRange1 (faCons (fC (.int 9)) faNil)) (tgN 6) fYes (fCall F__law_pick (faCons (fVar 0) (faCons (fC (.int 3)) faNil))) [6]) faNil))))
    (fsSeq (fsAsg 7 (fLc (fiArgs gRange2 (faCons (fUn gNeg (fC (.int 4))) (faCons (fC (.int 5)) faNil))) (tgN 6) (fB (fOp gGt (fOp gIx (fVar 5) (fOp gAdd (fVar 6) (fC (.int 4)))) (fC (.int 0)))) (fVar 6) [6]))
    (fsSeq (fsIf (fB (fOp gLt (fVar 2) (fC (.int 3)))) (fsAsg 7 (fSl (fVar 7) fNo (fPart (fVar 2)))) fsNext)
    (fsSeq (fsIf (ftAnd (fB (fOp gGt (fVar 2) (fC (.int 5)))) (fB (fOp gEq (fFn gLen (faCons (fVar 3) faNil)) (fC (.int 2))))) (fsAsg 4 (fOp gIx (fVar 3) (fOp gSub (fVar 2) (fC (.int 6))))) fsNext)
    (fsRet (fFn gTuple (faCons (fLc (fiSeq (fVar 7)) (tgN 6) fYes (fTup (faCons (fVar 6) (faCons (fCall F__law_factor (faCons (fVar 0) (faCons (fVar 1) (faCons (fVar 4) faNil)))) faNil))) [6]) faNil))))))))
noncomputable def F__law_terms : Fn := runF 8 fb__law_terms
noncomputable def fb_primes_of : FS := (fsSeq (fsIf (ftNot (fTr (fCall F_is_modulus (faCons (fVar 0) faNil)))) fsNever fsNext)
    (fsRet (fListO (fUnV (gIxK [(2, [2]), (3, [3]), (5, [5]), (6, [2, 3]), (7, [7]), (10, [2, 5]), (11, [11]), (13, [13]), (14, [2, 7]), (15, [3, 5])]) (fVar 0)))))
noncomputable def F_primes_of : Fn := runF 1 fb_primes_of
noncomputable def fb_by_prime : FS := (fsSeq (fsDrop (fCall F_need_rule (faCons (fVar 0) faNil)))
    (fsSeq (fsIf (fB (fOp gNin (fVar 1) (frz (fCall F_primes_of (faCons (fOp gIx (fVar 0) (fC (.int 0))) faNil))))) fsNever fsNext)
    (fsRet (fFn gTuple (faCons (fLc (fiSeq (fOp gIx (fVar 0) (fC (.int 1)))) (tgT [2, 3]) (fTr (fOp gMod (fVar 3) (fVar 1))) (fTup (faCons (fVar 2) (faCons (fOp gMod (fVar 3) (fVar 1)) faNil))) [2, 3]) faNil)))))
noncomputable def F_by_prime : Fn := runF 4 fb_by_prime
noncomputable def fb_one_for : FS := (fsRet (fOp gIx (fLc (fiArgs gRangeC (faCons (fC (.int 0)) (faCons (fVar 1) (faCons (fOp gFdiv (fVar 1) (fVar 0)) faNil)))) (tgN 2) (fB (fOp gEq (fOp gMod (fVar 2) (fVar 0)) (fC (.int 1)))) (fVar 2) [2]) (fC (.int 0))))
noncomputable def F_one_for : Fn := runF 3 fb_one_for
noncomputable def fb_is_parts : FS := (fsSeq (fsIf (ftOr (ftNot (fTr (fIsi "list" (fVar 0)))) (fB (fOp gNe (fFn gLen (faCons (fVar 0) faNil)) (fFn gLen (faCons (fVar 1) faNil))))) (fsRet (fC (.bool false))) fsNext)
    (fsRet (fFn gAll (faCons (fLc (fiArgs gZip (faCons (fVar 0) (faCons (fVar 1) faNil))) (tgT [2, 3]) fYes (fCall F_is_pairs (faCons (fVar 2) (faCons (fVar 3) faNil))) [2, 3]) faNil))))
noncomputable def F_is_parts : Fn := runF 4 fb_is_parts
noncomputable def lb_put_together_1 : FS := (fsSeq (fsAsg 6 (fCall F_one_for (faCons (fVar 4) (faCons (fVar 0) faNil))))
    (fsAsg 3 (fCall F_left_of (faCons (frz (fCall F_sums_of (faCons (fVar 3) (faCons (fFn gTuple (faCons (fLc (fiSeq (fVar 5)) (tgT [7, 8]) fYes (fTup (faCons (fVar 7) (faCons (fOp gMul (fVar 8) (fVar 6)) faNil))) [7, 8]) faNil)) faNil)))) (faCons (fVar 0) faNil)))))
noncomputable def fb_put_together : FS := (fsSeq (fsAsg 2 (frz (fCall F_primes_of (faCons (fVar 0) faNil))))
    (fsSeq (fsIf (ftNot (fTr (fCall F_is_parts (faCons (fVar 1) (faCons (fVar 2) faNil))))) fsNever fsNext)
    (fsSeq (fsAsg 3 (fTup faNil))
    (fsSeq (fsFor (fiArgs gZip (faCons (fVar 2) (faCons (fVar 1) faNil))) (tgT [4, 5]) lb_put_together_1)
    (fsRet (fTup (faCons (fVar 0) (faCons (fVar 3) faNil))))))))
noncomputable def F_put_together : Fn := runF 9 fb_put_together
noncomputable def lb_trimmed_1 : FS := (fsDrop (fMut gPop (fVar 2) faNil))
noncomputable def fb_trimmed : FS := (fsSeq (fsAsg 2 (fLcO (fiSeq (fVar 0)) (tgN 3) fYes (fOp gMod (fVar 3) (fVar 1)) [3]))
    (fsSeq (fsWhile (ftAnd (fTr (fVar 2)) (fB (fOp gEq (fOp gIx (fVar 2) (fUn gNeg (fC (.int 1)))) (fC (.int 0))))) lb_trimmed_1)
    (fsRet (fVar 2))))
noncomputable def F_trimmed : Fn := runF 4 fb_trimmed
noncomputable def fb_inverse : FS := (fsRet (fOp gIx (fLc (fiArgs gRange1 (faCons (fVar 1) faNil)) (tgN 2) (fB (fOp gEq (fOp gMod (fOp gMul (fVar 2) (fVar 0)) (fVar 1)) (fC (.int 1)))) (fVar 2) [2]) (fC (.int 0))))
noncomputable def F_inverse : Fn := runF 3 fb_inverse
noncomputable def fb_monic : FS := (fsSeq (fsIf (ftNot (fTr (fVar 0))) (fsRet (fLstO faNil)) fsNext)
    (fsSeq (fsAsg 2 (fCall F_inverse (faCons (fOp gIx (fVar 0) (fUn gNeg (fC (.int 1)))) (faCons (fVar 1) faNil))))
    (fsRet (fLcO (fiSeq (fVar 0)) (tgN 3) fYes (fOp gMod (fOp gMul (fVar 3) (fVar 2)) (fVar 1)) [3]))))
noncomputable def F_monic : Fn := runF 4 fb_monic
noncomputable def lb_divided_2 : FS := (fsSetI (fVar 3) (fOp gAdd (fVar 10) (fVar 8)) (fOp gMod (fOp gSub (fOp gIx (fVar 3) (fOp gAdd (fVar 10) (fVar 8))) (fOp gMul (fVar 11) (fVar 9))) (fVar 2)))
noncomputable def lb_divided_1 : FS := (fsSeq (fsAsg 11 (fOp gMod (fOp gMul (fOp gIx (fVar 3) (fOp gSub (fOp gAdd (fVar 10) (fFn gLen (faCons (fVar 1) faNil))) (fC (.int 1)))) (fVar 4)) (fVar 2)))
    (fsIf (fTr (fVar 11)) (fsSeq (fsSetI (fVar 6) (fVar 10) (fVar 11))
    (fsFor (fiSeq (fVar 7)) (tgT [8, 9]) lb_divided_2)) fsNext))
noncomputable def fb_divided : FS := (fsSeq (fsAsg 3 (fListO (fVar 0)))
    (fsSeq (fsAsg 4 (fCall F_inverse (faCons (fOp gIx (fVar 1) (fUn gNeg (fC (.int 1)))) (faCons (fVar 2) faNil))))
    (fsSeq (fsAsg 5 (fOp gAdd (fOp gSub (fFn gLen (faCons (fVar 0) faNil)) (fFn gLen (faCons (fVar 1) faNil))) (fC (.int 1))))
    (fsSeq (fsAsg 6 (fRep (fLstO (faCons (fC (.int 0)) faNil)) (fFn gMax2 (faCons (fC (.int 0)) (faCons (fVar 5) faNil)))))
    (fsSeq (fsAsg 7 (fLc (fiArgs gEnum (faCons (fVar 1) faNil)) (tgT [8, 9]) (fTr (fVar 9)) (fTup (faCons (fVar 8) (faCons (fVar 9) faNil))) [8, 9]))
    (fsSeq (fsFor (fiArgs gDown (faCons (fVar 5) faNil)) (tgN 10) lb_divided_1)
    (fsSeq (fsFrz 6) (fsSeq (fsFrz 3) (fsRet (fTup (faCons (fVar 6) (faCons (frz (fCall F_trimmed (faCons (fVar 3) (faCons (fVar 2) faNil)))) faNil))))))))))))
noncomputable def F_divided : Fn := runF 12 fb_divided
noncomputable def lb_in_both_1 : FS := (fsPar 0 1 (faCons (fVar 1) (faCons (fOp gIx (fCall F_divided (faCons (fVar 0) (faCons (fVar 1) (faCons (fVar 2) faNil)))) (fC (.int 1))) faNil)))
noncomputable def fb_in_both : FS := (fsSeq (fsWhile (fTr (fVar 1)) lb_in_both_1)
    (fsRet (fCall F_monic (faCons (fVar 0) (faCons (fVar 2) faNil)))))
noncomputable def F_in_both : Fn := runF 3 fb_in_both
noncomputable def lb_coefficients_1 : FS := (fsSetI (fVar 2) (fOp gSub (fVar 3) (fVar 1)) (fVar 4))
noncomputable def fb_coefficients : FS := (fsSeq (fsIf (ftNot (fTr (fVar 0))) (fsRet (fLstO faNil)) fsNext)
    (fsSeq (fsAsg 1 (fOp gIx (fOp gIx (fVar 0) (fC (.int 0))) (fC (.int 0))))
    (fsSeq (fsAsg 2 (fRep (fLstO (faCons (fC (.int 0)) faNil)) (fOp gAdd (fOp gSub (fOp gIx (fOp gIx (fVar 0) (fUn gNeg (fC (.int 1)))) (fC (.int 0))) (fVar 1)) (fC (.int 1)))))
    (fsSeq (fsFor (fiSeq (fVar 0)) (tgT [3, 4]) lb_coefficients_1)
    (fsRet (fVar 2))))))
noncomputable def F_coefficients : Fn := runF 5 fb_coefficients
noncomputable def fb_common_by : FS := (fsRet (fFn gTuple (faCons (frz (fCall F_in_both (faCons (frz (fCall F_coefficients (faCons (fCall F_by_prime (faCons (fVar 0) (faCons (fVar 2) faNil))) faNil))) (faCons (frz (fCall F_coefficients (faCons (fCall F_by_prime (faCons (fVar 1) (faCons (fVar 2) faNil))) faNil))) (faCons (fVar 2) faNil))))) faNil)))
noncomputable def F_common_by : Fn := runF 3 fb_common_by
noncomputable def fb_common : FS := (fsSeq (fsDrop (fCall F_need_rules (faCons (fVar 0) (faCons (fVar 1) faNil))))
    (fsRet (fLcO (fiSeq (frz (fCall F_primes_of (faCons (fOp gIx (fVar 0) (fC (.int 0))) faNil)))) (tgN 2) fYes (fCall F_common_by (faCons (fVar 0) (faCons (fVar 1) (faCons (fVar 2) faNil)))) [2])))
noncomputable def F_common : Fn := runF 3 fb_common
noncomputable def fb_need_prime_rule : FS := (fsSeq (fsDrop (fCall F_need_rule (faCons (fVar 0) faNil)))
    (fsIf (ftOr (fB (fOp gGt (fFn gLen (faCons (frz (fCall F_primes_of (faCons (fOp gIx (fVar 0) (fC (.int 0))) faNil))) faNil)) (fC (.int 1)))) (ftNot (fTr (fOp gIx (fVar 0) (fC (.int 1)))))) fsNever fsNext))
noncomputable def F_need_prime_rule : Fn := runF 1 fb_need_prime_rule
noncomputable def fb_width_of : FS := (fsRet (fOp gSub (fOp gIx (fOp gIx (fOp gIx (fVar 0) (fC (.int 1))) (fUn gNeg (fC (.int 1)))) (fC (.int 0))) (fOp gIx (fOp gIx (fOp gIx (fVar 0) (fC (.int 1))) (fC (.int 0))) (fC (.int 0)))))
noncomputable def F_width_of : Fn := runF 1 fb_width_of
noncomputable def fb_free_cells : FS := (fsSeq (fsDrop (fCall F_need_prime_rule (faCons (fVar 0) faNil)))
    (fsSeq (fsIf (ftNot (fB (fChain gLe gLe (fC (.int 0)) (fVar 1) (fC (.int 1000000000000000000000000000000))))) fsNever fsNext)
    (fsRet (fOp gMul (fVar 1) (fCall F_width_of (faCons (fVar 0) faNil))))))
noncomputable def F_free_cells : Fn := runF 2 fb_free_cells
noncomputable def fb_both_die : FS := (fsSeq (fsDrop (fCall F_need_prime_rule (faCons (fVar 0) faNil)))
    (fsSeq (fsDrop (fCall F_need_prime_rule (faCons (fVar 1) faNil)))
    (fsSeq (fsDrop (fCall F_need_same (faCons (fVar 0) (faCons (fVar 1) faNil))))
    (fsRet (fOp gSub (fFn gLen (faCons (fOp gIx (frz (fCall F_common (faCons (fVar 0) (faCons (fVar 1) faNil)))) (fC (.int 0))) faNil)) (fC (.int 1)))))))
noncomputable def F_both_die : Fn := runF 2 fb_both_die
noncomputable def fb__law_pot : FS := (fsSeq (fsAsg 2 (fOp gAdd (fOp gAdd (fOp gMul (fC (.int 43)) (fVar 1)) (fC (.int 19))) (fFn gLen (faCons (fVar 0) faNil))))
    (fsSeq (fsIf (fB (fOp gLt (fVar 1) (fFn gLen (faCons (fVar 0) faNil)))) (fsAsg 2 (fOp gIx (fVar 0) (fVar 1))) fsNext)
    (fsSeq (fsAsg 3 (fFn gSum (faCons (fLc (fiSeq (fVar 0)) (tgN 4) fYes (fOp gMod (fFn gInt (faCons (fVar 4) faNil)) (fOp gAdd (fOp gPow (fC (.int 10)) (fC (.int 24))) (fC (.int 7)))) [4]) faNil)))
    (fsSeq (fsAsg 5 (fOp gMod (fFn gInt (faCons (fOp gAdd (fOp gAdd (fOp gMul (fVar 2) (fC (.int 104729))) (fOp gMul (fVar 3) (fC (.int 1299709)))) (fOp gMul (fVar 1) (fC (.int 611953)))) faNil)) (fOp gAdd (fOp gPow (fC (.int 10)) (fC (.int 27))) (fC (.int 103)))))
    (fsRet (fLstO (faCons (fFn gMax2 (faCons (fC (.int 0)) (faCons (fOp gSub (fVar 2) (fOp gPow (fC (.int 10)) (fC (.int 18)))) faNil))) (faCons (fVar 5) (faCons (fC (.int 0)) faNil)))))))))
noncomputable def F__law_pot : Fn := runF 6 fb__law_pot
noncomputable def fb__law_draw : FS := (fsSeq (fsIf (fB (fOp gGt (fOp gIx (fVar 0) (fC (.int 0))) (fC (.int 0)))) (fsSeq (fsAsg 2 (fOp gMod (fFn gInt (faCons (fOp gIx (fVar 0) (fC (.int 0))) faNil)) (fVar 1)))
    (fsSeq (fsSetI (fVar 0) (fC (.int 0)) (fOp gFdiv (fOp gIx (fVar 0) (fC (.int 0))) (fVar 1)))
    (fsRet (fVar 2)))) fsNext)
    (fsSeq (fsSetI (fVar 0) (fC (.int 2)) (fOp gAdd (fOp gIx (fVar 0) (fC (.int 2))) (fC (.int 1))))
    (fsSeq (fsAsg 3 (fOp gMod (fFn gInt (faCons (fOp gPow (fOp gAdd (fOp gIx (fVar 0) (fC (.int 1))) (fOp gMul (fC (.int 86028121)) (fOp gIx (fVar 0) (fC (.int 2))))) (fC (.int 3))) faNil)) (fOp gAdd (fOp gPow (fC (.int 10)) (fC (.int 30))) (fC (.int 57)))))
    (fsRet (fOp gMod (fOp gFdiv (fOp gMod (fFn gInt (faCons (fOp gMul (fVar 3) (fOp gAdd (fVar 3) (fC (.int 2903)))) faNil)) (fOp gAdd (fOp gPow (fC (.int 10)) (fC (.int 28))) (fC (.int 331)))) (fC (.int 3571))) (fVar 1))))))
noncomputable def F__law_draw : Fn := runF 4 fb__law_draw
noncomputable def fb__law_poly : FS := (fsSeq (fsAsg 3 (fLcO (fiArgs gRange1 (faCons (fOp gAdd (fVar 2) (fC (.int 1))) faNil)) (tgN 4) fYes (fCall F__law_draw (faCons (fVar 0) (faCons (fVar 1) faNil))) [4]))
    (fsSeq (fsSetI (fVar 3) (fC (.int 0)) (fOp gAdd (fC (.int 1)) (fCall F__law_draw (faCons (fVar 0) (faCons (fOp gSub (fVar 1) (fC (.int 1))) faNil)))))
    (fsSeq (fsSetI (fVar 3) (fVar 2) (fOp gAdd (fC (.int 1)) (fCall F__law_draw (faCons (fVar 0) (faCons (fOp gSub (fVar 1) (fC (.int 1))) faNil)))))
    (fsRet (fVar 3)))))
noncomputable def F__law_poly : Fn := runF 5 fb__law_poly
noncomputable def lb__law_product_2 : FS := (fsSeq (fsAsg 8 (fOp gAdd (fOp gIx (fVar 3) (fOp gAdd (fVar 4) (fVar 6))) (fOp gMul (fVar 5) (fVar 7))))
    (fsSetI (fVar 3) (fOp gAdd (fVar 4) (fVar 6)) (fOp gMod (fFn gInt (faCons (fVar 8) faNil)) (fVar 2))))
noncomputable def lb__law_product_1 : FS := (fsFor (fiArgs gEnum (faCons (fVar 1) faNil)) (tgT [6, 7]) lb__law_product_2)
noncomputable def fb__law_product : FS := (fsSeq (fsAsg 3 (fRep (fLstO (faCons (fC (.int 0)) faNil)) (fOp gSub (fOp gAdd (fFn gLen (faCons (fVar 0) faNil)) (fFn gLen (faCons (fVar 1) faNil))) (fC (.int 1)))))
    (fsSeq (fsFor (fiArgs gEnum (faCons (fVar 0) faNil)) (tgT [4, 5]) lb__law_product_1)
    (fsRet (fVar 3))))
noncomputable def F__law_product : Fn := runF 9 fb__law_product
noncomputable def fb__law_back : FS := (fsRet (fOp gIx (fLc (fiArgs gRange1 (faCons (fVar 1) faNil)) (tgN 2) (fB (fOp gEq (fOp gMod (fFn gInt (faCons (fOp gMul (fVar 2) (fVar 0)) faNil)) (fVar 1)) (fC (.int 1)))) (fVar 2) [2]) (fC (.int 0))))
noncomputable def F__law_back : Fn := runF 3 fb__law_back
noncomputable def fb_plus : FS := (fsSeq (fsDrop (fCall F_need_rules (faCons (fVar 0) (faCons (fVar 1) faNil))))
    (fsRet (fTup (faCons (fOp gIx (fVar 0) (fC (.int 0))) (faCons (fCall F_left_of (faCons (frz (fCall F_sums_of (faCons (fOp gIx (fVar 0) (fC (.int 1))) (faCons (fOp gIx (fVar 1) (fC (.int 1))) faNil)))) (faCons (fOp gIx (fVar 0) (fC (.int 0))) faNil))) faNil)))))
noncomputable def F_plus : Fn := runF 2 fb_plus
noncomputable def fb_is_doing : FS := (fsRet (fAndV (fCall F_is_two (faCons (fVar 0) faNil)) (fAndV (fCall F_is_pairs (faCons (fOp gIx (fVar 0) (fC (.int 0))) (faCons (fVar 1) faNil))) (fCall F_is_within (faCons (fOp gIx (fVar 0) (fC (.int 1))) (faCons (fC (.int 0)) (faCons (fC (.int 1000000000000000000000000000000)) faNil)))))))
noncomputable def F_is_doing : Fn := runF 2 fb_is_doing
noncomputable def fb_is_program : FS := (fsSeq (fsIf (ftOr (ftNot (fTr (fCall F_has_modulus (faCons (fVar 0) faNil)))) (ftNot (fTr (fIsi "tuple" (fOp gIx (fVar 0) (fC (.int 1))))))) (fsRet (fC (.bool false))) fsNext)
    (fsRet (fFn gAll (faCons (fLc (fiSeq (fOp gIx (fVar 0) (fC (.int 1)))) (tgN 1) fYes (fCall F_is_doing (faCons (fVar 1) (faCons (fOp gIx (fVar 0) (fC (.int 0))) faNil))) [1]) faNil))))
noncomputable def F_is_program : Fn := runF 2 fb_is_program
noncomputable def fb_values_of : FS := (fsRet (fLcO (fiSeq (fVar 0)) (tgN 1) fYes (fFn gInt (faCons (fVar 1) (faCons (fC (.int 16)) faNil))) [1]))
noncomputable def F_values_of : Fn := runF 2 fb_values_of
noncomputable def fb_slope : FS := (fsRet (fCall F_trimmed (faCons (fSl (fLc (fiArgs gEnum (faCons (fVar 0) faNil)) (tgT [2, 3]) fYes (fOp gMul (fVar 2) (fVar 3)) [2, 3]) (fPart (fC (.int 1))) fNo) (faCons (fVar 1) faNil))))
noncomputable def F_slope : Fn := runF 4 fb_slope
noncomputable def fb_times_x : FS := (fsRet (fLcO (fiArgs gZip (faCons (fOp gAdd (fLst (faCons (fC (.int 0)) faNil)) (fSl (fVar 0) fNo (fPart (fUn gNeg (fC (.int 1)))))) (faCons (fVar 1) faNil))) (tgT [3, 4]) fYes (fOp gMod (fOp gSub (fVar 3) (fOp gMul (fOp gIx (fVar 0) (fUn gNeg (fC (.int 1)))) (fVar 4))) (fVar 2)) [3, 4]))
noncomputable def F_times_x : Fn := runF 5 fb_times_x
noncomputable def lb_figures_1 : FS := (fsSeq (fsDrop (fMut gAppend (fVar 2) (faCons (fOp gMod (fVar 0) (fVar 1)) faNil)))
    (fsAsg 0 (fOp gFdiv (fVar 0) (fVar 1))))
noncomputable def fb_figures : FS := (fsSeq (fsAsg 2 (fLstO faNil))
    (fsSeq (fsWhile (fTr (fVar 0)) lb_figures_1)
    (fsRet (fVar 2))))
noncomputable def F_figures : Fn := runF 3 fb_figures
noncomputable def fb_cleared : FS := (fsSeq (fsIf (fB (fOp gEq (fOp gIx (fVar 0) (fVar 2)) (fC (.int 0)))) (fsRet (fVar 0)) fsNext)
    (fsRet (fLc (fiArgs gZip (faCons (fVar 0) (faCons (fVar 1) faNil))) (tgT [4, 5]) fYes (fOp gMod (fOp gSub (fVar 4) (fOp gMul (fOp gIx (fVar 0) (fVar 2)) (fVar 5))) (fVar 3)) [4, 5])))
noncomputable def F_cleared : Fn := runF 6 fb_cleared
noncomputable def fb_one_at : FS := (fsSeq (fsAsg 3 (fCall F_inverse (faCons (fOp gIx (fVar 0) (fVar 1)) (faCons (fVar 2) faNil))))
    (fsRet (fLcO (fiSeq (fVar 0)) (tgN 4) fYes (fOp gMod (fOp gMul (fVar 4) (fVar 3)) (fVar 2)) [4])))
noncomputable def F_one_at : Fn := runF 5 fb_one_at
noncomputable def lb_powers_less_own_2 : FS := (fsAsg 4 (frz (fCall F_times_x (faCons (fVar 4) (faCons (fVar 0) (faCons (fVar 1) faNil))))))
noncomputable def lb_powers_less_own_1 : FS := (fsSeq (fsDrop (fMut gAppend (fVar 3) (faCons (fLc (fiArgs gEnum (faCons (fVar 4) faNil)) (tgT [6, 7]) fYes (fOp gMod (fOp gSub (fVar 7) (fFn gInt (faCons (fOp gEq (fVar 6) (fVar 5)) faNil))) (fVar 1)) [6, 7]) faNil)))
    (fsFor (fiArgs gRange1 (faCons (fVar 1) faNil)) (tgN 8) lb_powers_less_own_2))
noncomputable def fb_powers_less_own : FS := (fsSeq (fsAsg 2 (fOp gSub (fFn gLen (faCons (fVar 0) faNil)) (fC (.int 1))))
    (fsSeq (fsAsg 3 (fLstO faNil))
    (fsSeq (fsAsg 4 (fOp gAdd (fLst (faCons (fC (.int 1)) faNil)) (frz (fRep (fLstO (faCons (fC (.int 0)) faNil)) (fOp gSub (fVar 2) (fC (.int 1)))))))
    (fsSeq (fsFor (fiArgs gRange1 (faCons (fVar 2) faNil)) (tgN 5) lb_powers_less_own_1)
    (fsRet (fVar 3))))))
noncomputable def F_powers_less_own : Fn := runF 9 fb_powers_less_own
noncomputable def lb_sums_to_nought_1 : FS := (fsSeq (fsSeq (fsFrz 3) (fsAsg 8 (fLc (fiArgs gEnum (faCons (fVar 3) faNil)) (tgT [4, 5]) (fTr (fOp gIx (fVar 5) (fVar 7))) (fVar 4) [4, 5])))
    (fsIf (fTr (fVar 8)) (fsSeq (fsAsg 9 (frz (fCall F_one_at (faCons (fMut gPopAt (fVar 3) (faCons (fOp gIx (fVar 8) (fC (.int 0))) faNil)) (faCons (fVar 7) (faCons (fVar 1) faNil))))))
    (fsSeq (fsFrz 3) (fsAsg 3 (fLcO (fiSeq (fVar 3)) (tgN 5) fYes (fCall F_cleared (faCons (fVar 5) (faCons (fVar 9) (faCons (fVar 7) (faCons (fVar 1) faNil))))) [5])))) fsNext))
noncomputable def fb_sums_to_nought : FS := (fsSeq (fsAsg 2 (fFn gLen (faCons (fVar 0) faNil)))
    (fsSeq (fsAsg 3 (fLcO (fiArgs gEnum (faCons (fVar 0) faNil)) (tgT [4, 5]) fYes (fOp gAdd (fVar 5) (fLc (fiArgs gRange1 (faCons (fVar 2) faNil)) (tgN 6) fYes (fFn gInt (faCons (fOp gEq (fVar 6) (fVar 4)) faNil)) [6])) [4, 5]))
    (fsSeq (fsFor (fiArgs gRange1 (faCons (fVar 2) faNil)) (tgN 7) lb_sums_to_nought_1)
    (fsSeq (fsFrz 3) (fsRet (fLcO (fiSeq (fVar 3)) (tgN 5) fYes (fSl (fVar 5) (fPart (fVar 2)) fNo) [5]))))))
noncomputable def F_sums_to_nought : Fn := runF 10 fb_sums_to_nought
noncomputable def fb_constants : FS := (fsRet (fCall F_sums_to_nought (faCons (frz (fCall F_powers_less_own (faCons (fVar 0) (faCons (fVar 1) faNil)))) (faCons (fVar 1) faNil))))
noncomputable def F_constants : Fn := runF 2 fb_constants
noncomputable def fb_is_simple : FS := (fsRet (fOp gEq (fFn gLen (faCons (frz (fCall F_in_both (faCons (fVar 0) (faCons (frz (fCall F_slope (faCons (fVar 0) (faCons (fVar 1) faNil)))) (faCons (fVar 1) faNil))))) faNil)) (fC (.int 1))))
noncomputable def F_is_simple : Fn := runF 2 fb_is_simple
noncomputable def fb_is_unsplit : FS := (fsRet (fAndV (fCall F_is_simple (faCons (fVar 0) (faCons (fVar 1) faNil))) (fOp gEq (fFn gLen (faCons (frz (fCall F_constants (faCons (fVar 0) (faCons (fVar 1) faNil)))) faNil)) (fC (.int 1)))))
noncomputable def F_is_unsplit : Fn := runF 2 fb_is_unsplit
noncomputable def fb_need_prime : FS := (fsIf (fB (fOp gNin (fVar 0) (fC (.tuple ([2, 3, 5, 7, 11, 13].map PyData.int))))) fsNever fsNext)
noncomputable def F_need_prime : Fn := runF 1 fb_need_prime
noncomputable def fb_is_factor : FS := (fsSeq (fsDrop (fCall F_need_prime (faCons (fVar 0) faNil)))
    (fsSeq (fsIf (ftOr (ftNot (fTr (fIsi "tuple" (fVar 1)))) (ftOr (fB (fOp gLt (fFn gLen (faCons (fVar 1) faNil)) (fC (.int 2)))) (ftNot (fTr (fFn gAll (faCons (fLc (fiSeq (fVar 1)) (tgN 2) fYes (fCall F_is_within (faCons (fVar 2) (faCons (fC (.int 0)) (faCons (fOp gSub (fVar 0) (fC (.int 1))) faNil)))) [2]) faNil)))))) (fsRet (fC (.bool false))) fsNext)
    (fsRet (fAndV (fOp gGt (fOp gIx (fVar 1) (fC (.int 0))) (fC (.int 0))) (fAndV (fOp gEq (fOp gIx (fVar 1) (fUn gNeg (fC (.int 1)))) (fC (.int 1))) (fCall F_is_unsplit (faCons (fFn gList (faCons (fVar 1) faNil)) (faCons (fVar 0) faNil))))))))
noncomputable def F_is_factor : Fn := runF 3 fb_is_factor
noncomputable def lb_pieces_1 : FS := (fsDrop (fMut gAppend (fVar 3) (faCons (frz (fCall F_in_both (faCons (fVar 0) (faCons (frz (fCall F_trimmed (faCons (fOp gAdd (fLst (faCons (fOp gSub (fOp gIx (fVar 1) (fC (.int 0))) (fVar 4)) faNil)) (fSl (fVar 1) (fPart (fC (.int 1))) fNo)) (faCons (fVar 2) faNil)))) (faCons (fVar 2) faNil))))) faNil)))
noncomputable def fb_pieces : FS := (fsSeq (fsAsg 3 (fLstO faNil))
    (fsSeq (fsFor (fiArgs gRange1 (faCons (fVar 2) faNil)) (tgN 4) lb_pieces_1)
    (fsSeq (fsFrz 3) (fsRet (fLcO (fiSeq (fVar 3)) (tgN 5) (fB (fOp gGt (fFn gLen (faCons (fVar 5) faNil)) (fC (.int 1)))) (fVar 5) [5])))))
noncomputable def F_pieces : Fn := runF 6 fb_pieces
noncomputable def fb_is_factors : FS := (fsSeq (fsIf (ftNot (fTr (fIsi "tuple" (fVar 1)))) (fsRet (fC (.bool false))) fsNext)
    (fsSeq (fsIf (ftNot (fTr (fFn gAll (faCons (fLc (fiSeq (fVar 1)) (tgN 2) fYes (fAndV (fCall F_is_two (faCons (fVar 2) faNil)) (fAndV (fCall F_is_factor (faCons (fVar 0) (faCons (fOp gIx (fVar 2) (fC (.int 0))) faNil))) (fAndV (fCall F_is_number (faCons (fOp gIx (fVar 2) (fC (.int 1))) faNil)) (fOp gGt (fOp gIx (fVar 2) (fC (.int 1))) (fC (.int 0)))))) [2]) faNil)))) (fsRet (fC (.bool false))) fsNext)
    (fsRet (fCall F_ascends (faCons (fLc (fiSeq (fVar 1)) (tgN 2) fYes (fOp gIx (fVar 2) (fC (.int 0))) [2]) faNil)))))
noncomputable def F_is_factors : Fn := runF 3 fb_is_factors
noncomputable def fb_is_factored_by : FS := (fsSeq (fsIf (ftOr (ftNot (fTr (fIsi "tuple" (fVar 0)))) (ftOr (fB (fOp gNin (fFn gLen (faCons (fVar 0) faNil)) (fTup (faCons (fC (.int 1)) (faCons (fC (.int 4)) faNil))))) (ftOr (ftNot (fTr (fCall F_is_number (faCons (fOp gIx (fVar 0) (fC (.int 0))) faNil)))) (fB (fOp gNe (fOp gIx (fVar 0) (fC (.int 0))) (fVar 1)))))) (fsRet (fC (.bool false))) fsNext)
    (fsSeq (fsIf (fB (fOp gEq (fFn gLen (faCons (fVar 0) faNil)) (fC (.int 1)))) (fsRet (fC (.bool true))) fsNext)
    (fsRet (fAndV (fCall F_is_number (faCons (fOp gIx (fVar 0) (fC (.int 1))) faNil)) (fAndV (fCall F_is_within (faCons (fOp gIx (fVar 0) (fC (.int 2))) (faCons (fC (.int 1)) (faCons (fOp gSub (fVar 1) (fC (.int 1))) faNil)))) (fCall F_is_factors (faCons (fVar 1) (faCons (fOp gIx (fVar 0) (fC (.int 3))) faNil))))))))
noncomputable def F_is_factored_by : Fn := runF 2 fb_is_factored_by
noncomputable def fb_is_factored : FS := (fsSeq (fsIf (ftOr (ftNot (fTr (fIsi "list" (fVar 0)))) (fB (fOp gNe (fFn gLen (faCons (fVar 0) faNil)) (fFn gLen (faCons (fVar 1) faNil))))) (fsRet (fC (.bool false))) fsNext)
    (fsRet (fFn gAll (faCons (fLc (fiArgs gZip (faCons (fVar 0) (faCons (fVar 1) faNil))) (tgT [2, 3]) fYes (fCall F_is_factored_by (faCons (fVar 2) (faCons (fVar 3) faNil))) [2, 3]) faNil))))
noncomputable def F_is_factored : Fn := runF 4 fb_is_factored
noncomputable def fb_need_program : FS := (fsIf (ftNot (fTr (fCall F_is_program (faCons (fVar 0) faNil)))) fsNever fsNext)
noncomputable def F_need_program : Fn := runF 1 fb_need_program
noncomputable def fb_power_of : FS := (fsSeq (fsDrop (fCall F_need_program (faCons (fVar 0) faNil)))
    (fsSeq (fsIf (ftOr (fB (fOp gLt (fVar 1) (fC (.int 0)))) (fTr (fFn gAny (faCons (fLc (fiSeq (fOp gIx (fVar 0) (fC (.int 1)))) (tgT [2, 3]) fYes (fOp gGt (fOp gMul (fVar 1) (fVar 3)) (fC (.int 1000000000000000000000000000000))) [2, 3]) faNil)))) fsNever fsNext)
    (fsRet (fTup (faCons (fOp gIx (fVar 0) (fC (.int 0))) (faCons (fFn gTuple (faCons (fLc (fiSeq (fOp gIx (fVar 0) (fC (.int 1)))) (tgT [4, 3]) fYes (fTup (faCons (fVar 4) (faCons (fOp gMul (fVar 1) (fVar 3)) faNil))) [4, 3]) faNil)) faNil))))))
noncomputable def F_power_of : Fn := runF 5 fb_power_of
noncomputable def lb_power_by_1 : FS := (fsSeq (fsAsg 3 (fOp gMod (fOp gMul (fVar 3) (fVar 3)) (fVar 2)))
    (fsIf (fTr (fOp gBand (fOp gShr (fVar 1) (fVar 4)) (fC (.int 1)))) (fsAsg 3 (fOp gMod (fOp gMul (fVar 3) (fVar 0)) (fVar 2))) fsNext))
noncomputable def fb_power_by : FS := (fsSeq (fsAsg 3 (fC (.int 1)))
    (fsSeq (fsFor (fiArgs gDown (faCons (fUn gBitl (fVar 1)) faNil)) (tgN 4) lb_power_by_1)
    (fsRet (fVar 3))))
noncomputable def F_power_by : Fn := runF 5 fb_power_by
noncomputable def lb_stretched_1 : FS := (fsSetI (fVar 2) (fOp gMul (fVar 3) (fVar 1)) (fVar 4))
noncomputable def fb_stretched : FS := (fsSeq (fsAsg 2 (fRep (fLstO (faCons (fC (.int 0)) faNil)) (fOp gAdd (fOp gMul (fOp gSub (fFn gLen (faCons (fVar 0) faNil)) (fC (.int 1))) (fVar 1)) (fC (.int 1)))))
    (fsSeq (fsFor (fiArgs gEnum (faCons (fVar 0) faNil)) (tgT [3, 4]) lb_stretched_1)
    (fsRet (fVar 2))))
noncomputable def F_stretched : Fn := runF 5 fb_stretched
noncomputable def lb_clusters_1 : FS := (fsSeq (fsAsg 5 (fOp gIx (fC (.str "0123456789abc")) (fOp gMod (fVar 4) (fVar 1))))
    (fsIf (fB (fOp gNe (fVar 5) (fC (.str "0")))) (fsIf (ftAnd (fTr (fVar 2)) (fB (fOp gLt (fOp gSub (fOp gSub (fVar 3) (fOp gIx (fOp gIx (fVar 2) (fUn gNeg (fC (.int 1)))) (fC (.int 0)))) (fFn gLen (faCons (fOp gIx (fOp gIx (fVar 2) (fUn gNeg (fC (.int 1)))) (fC (.int 1))) faNil))) (fC (.int 200))))) (fsSeq (fsAsgT [6, 7] (fOp gIx (fVar 2) (fUn gNeg (fC (.int 1)))))
    (fsSetI (fVar 2) (fUn gNeg (fC (.int 1))) (fTup (faCons (fVar 6) (faCons (fOp gAdd (fOp gAdd (fVar 7) (fOp gMul (fC (.str "0")) (fOp gSub (fOp gSub (fVar 3) (fVar 6)) (fFn gLen (faCons (fVar 7) faNil))))) (fVar 5)) faNil))))) (fsDrop (fMut gAppend (fVar 2) (faCons (fTup (faCons (fVar 3) (faCons (fVar 5) faNil))) faNil)))) fsNext))
noncomputable def fb_clusters : FS := (fsSeq (fsAsg 2 (fLstO faNil))
    (fsSeq (fsFor (fiSeq (fVar 0)) (tgT [3, 4]) lb_clusters_1)
    (fsRet (fVar 2))))
noncomputable def F_clusters : Fn := runF 8 fb_clusters
noncomputable def fb_need_programs : FS := (fsSeq (fsDrop (fCall F_need_program (faCons (fVar 0) faNil)))
    (fsSeq (fsDrop (fCall F_need_program (faCons (fVar 1) faNil)))
    (fsDrop (fCall F_need_same (faCons (fVar 0) (faCons (fVar 1) faNil))))))
noncomputable def F_need_programs : Fn := runF 2 fb_need_programs
noncomputable def fb_by_places : FS := (fsRet (fUnV gRev (frz (fCall F_coefficients (faCons (fVar 0) faNil)))))
noncomputable def F_by_places : Fn := runF 1 fb_by_places
noncomputable def fb_last_of : FS := (fsRet (fOp gAdd (fOp gIx (fVar 0) (fC (.int 0))) (fFn gSum (faCons (fLc (fiSeq (fOp gIx (fVar 0) (fC (.int 1)))) (tgT [1, 2]) fYes (fOp gMul (fOp gSub (fFn gLen (faCons (fVar 1) faNil)) (fC (.int 1))) (fVar 2)) [1, 2]) faNil))))
noncomputable def F_last_of : Fn := runF 3 fb_last_of
noncomputable def lb_put_in_1 : FS := (fsSeq (fsAsg 7 (frz (fCall F_in_both (faCons (fVar 1) (faCons (fVar 5) (faCons (fVar 3) faNil))))))
    (fsSeq (fsIf (fB (fOp gGt (fFn gLen (faCons (fVar 7) faNil)) (fC (.int 1)))) (fsSeq (fsDrop (fMut gAppend (fVar 4) (faCons (fTup (faCons (fVar 7) (faCons (fOp gAdd (fVar 6) (fVar 2)) faNil))) faNil)))
    (fsSeq (fsAsg 1 (fOp gIx (fCall F_divided (faCons (fVar 1) (faCons (fVar 7) (faCons (fVar 3) faNil)))) (fC (.int 0))))
    (fsAsg 5 (fOp gIx (fCall F_divided (faCons (fVar 5) (faCons (fVar 7) (faCons (fVar 3) faNil)))) (fC (.int 0)))))) fsNext)
    (fsIf (fB (fOp gGt (fFn gLen (faCons (fVar 5) faNil)) (fC (.int 1)))) (fsDrop (fMut gAppend (fVar 4) (faCons (fTup (faCons (fVar 5) (faCons (fVar 6) faNil))) faNil))) fsNext)))
noncomputable def fb_put_in : FS := (fsSeq (fsAsg 4 (fLstO faNil))
    (fsSeq (fsFor (fiSeq (fVar 0)) (tgT [5, 6]) lb_put_in_1)
    (fsSeq (fsIf (fB (fOp gGt (fFn gLen (faCons (fVar 1) faNil)) (fC (.int 1)))) (fsDrop (fMut gAppend (fVar 4) (faCons (fTup (faCons (fVar 1) (faCons (fVar 2) faNil))) faNil))) fsNext)
    (fsRet (fVar 4)))))
noncomputable def F_put_in : Fn := runF 8 fb_put_in
noncomputable def lb_first_value_1 : FS := (fsAsg 2 (fOp gMod (fOp gMul (fVar 2) (fCall F_power_by (faCons (fOp gIx (fVar 3) (fC (.int 0))) (faCons (fVar 4) (faCons (fVar 1) faNil))))) (fVar 1)))
noncomputable def fb_first_value : FS := (fsSeq (fsAsg 2 (fC (.int 1)))
    (fsSeq (fsFor (fiSeq (fVar 0)) (tgT [3, 4]) lb_first_value_1)
    (fsRet (fVar 2))))
noncomputable def F_first_value : Fn := runF 5 fb_first_value
noncomputable def lb_total_1 : FS := (fsSeq (fsAsg 4 (fFn gSum (faCons (fLc (fiSeq (fVar 2)) (tgT [5, 6]) fYes (fVar 6) [5, 6]) faNil)))
    (fsAsg 1 (fOp gMod (fOp gMul (fVar 1) (fCall F_power_by (faCons (fVar 4) (faCons (fVar 3) (faCons (fOp gIx (fVar 0) (fC (.int 0))) faNil))))) (fOp gIx (fVar 0) (fC (.int 0))))))
noncomputable def fb_total : FS := (fsSeq (fsDrop (fCall F_need_program (faCons (fVar 0) faNil)))
    (fsSeq (fsAsg 1 (fC (.int 1)))
    (fsSeq (fsFor (fiSeq (fOp gIx (fVar 0) (fC (.int 1)))) (tgT [2, 3]) lb_total_1)
    (fsRet (fVar 1)))))
noncomputable def F_total : Fn := runF 7 fb_total
noncomputable def fb_joined : FS := (fsSeq (fsDrop (fCall F_need_programs (faCons (fVar 0) (faCons (fVar 1) faNil))))
    (fsRet (fTup (faCons (fOp gIx (fVar 0) (fC (.int 0))) (faCons (fOp gAdd (fOp gIx (fVar 0) (fC (.int 1))) (fOp gIx (fVar 1) (fC (.int 1)))) faNil)))))
noncomputable def F_joined : Fn := runF 2 fb_joined
noncomputable def lb_led_back_1 : FS := (fsSeq (fsAsg 4 (fCall F_by_prime (faCons (fTup (faCons (fVar 0) (faCons (fVar 1) faNil))) (faCons (fVar 3) faNil))))
    (fsSeq (fsIf (fB (fOp gNe (fFn gLen (faCons (fVar 4) faNil)) (fC (.int 1)))) (fsRet (fC .none)) fsNext)
    (fsSeq (fsAsgT [5, 6] (fOp gIx (fVar 4) (fC (.int 0))))
    (fsDrop (fMut gAppend (fVar 2) (faCons (fTup (faCons (fTup (faCons (fUn gNeg (fVar 5)) (faCons (fCall F_inverse (faCons (fVar 6) (faCons (fVar 3) faNil))) faNil))) faNil)) faNil))))))
noncomputable def fb_led_back : FS := (fsSeq (fsAsg 2 (fLstO faNil))
    (fsSeq (fsFor (fiSeq (frz (fCall F_primes_of (faCons (fVar 0) faNil)))) (tgN 3) lb_led_back_1)
    (fsSeq (fsFrz 2) (fsRet (fOp gIx (fCall F_put_together (faCons (fVar 0) (faCons (fVar 2) faNil))) (fC (.int 1)))))))
noncomputable def F_led_back : Fn := runF 7 fb_led_back
noncomputable def lb_undone_1 : FS := (fsIf (fB (fOp gGt (fVar 3) (fC (.int 0)))) (fsSeq (fsAsg 4 (fCall F_led_back (faCons (fOp gIx (fVar 0) (fC (.int 0))) (faCons (fVar 2) faNil))))
    (fsSeq (fsIf (fB (fOp gIsN (fVar 4) (fC .none))) (fsRet (fC .none)) fsNext)
    (fsDrop (fMut gAppend (fVar 1) (faCons (fTup (faCons (fVar 4) (faCons (fVar 3) faNil))) faNil))))) fsNext)
noncomputable def fb_undone : FS := (fsSeq (fsDrop (fCall F_need_program (faCons (fVar 0) faNil)))
    (fsSeq (fsAsg 1 (fLstO faNil))
    (fsSeq (fsFor (fiSeq (fOp gIx (fVar 0) (fC (.int 1)))) (tgT [2, 3]) lb_undone_1)
    (fsRet (fTup (faCons (fOp gIx (fVar 0) (fC (.int 0))) (faCons (fFn gTuple (faCons (fVar 1) faNil)) faNil)))))))
noncomputable def F_undone : Fn := runF 5 fb_undone
noncomputable def lb_pairs_by_1 : FS := (fsDrop (fMut gAppend (fVar 4) (faCons (fTup (faCons (fGet (fVar 2) (fVar 5) (fC (.int 0))) (faCons (fGet (fVar 3) (fVar 5) (fC (.int 0))) faNil))) faNil)))
noncomputable def fb_pairs_by : FS := (fsSeq (fsIf (fB (fOp gNe (fFn gLen (faCons (fVar 0) faNil)) (fFn gLen (faCons (fVar 1) faNil)))) (fsRet (fC .none)) fsNext)
    (fsSeq (fsIf (fB (fOp gEq (fFn gLen (faCons (fVar 0) faNil)) (fC (.int 1)))) (fsRet (fLst faNil)) fsNext)
    (fsSeq (fsPar 2 3 (faCons (frz (fDict (fOp gIx (fVar 0) (fC (.int 3))))) (faCons (frz (fDict (fOp gIx (fVar 1) (fC (.int 3))))) faNil)))
    (fsSeq (fsAsg 4 (fLstO (faCons (fTup (faCons (fOp gIx (fVar 0) (fC (.int 1))) (faCons (fOp gIx (fVar 1) (fC (.int 1))) faNil))) faNil)))
    (fsSeq (fsFor (fiSeq (fUnV gSortSet (fOp gAdd (fFn gList (faCons (fVar 2) faNil)) (fFn gList (faCons (fVar 3) faNil))))) (tgN 5) lb_pairs_by_1)
    (fsSeq (fsFrz 4) (fsRet (fLc (fiSeq (fVar 4)) (tgN 6) (fB (fOp gNe (fVar 6) (fTup (faCons (fC (.int 0)) (faCons (fC (.int 0)) faNil))))) (fVar 6) [6]))))))))
noncomputable def F_pairs_by : Fn := runF 7 fb_pairs_by
noncomputable def lb_front_meets_1 : FS := (fsIf (fB (fOp gGt (fFn gLen (faCons (fVar 5) faNil)) (fC (.int 1)))) (fsSeq (fsAsg 7 (fOp gIx (fVar 5) (fC (.int 0))))
    (fsAsg 4 (fAndV (fVar 4) (fOp gEq (fCall F_power_by (faCons (fOp gIx (fVar 5) (fC (.int 2))) (faCons (fVar 2) (faCons (fVar 7) faNil)))) (fCall F_power_by (faCons (fOp gIx (fVar 6) (fC (.int 2))) (faCons (fVar 3) (faCons (fVar 7) faNil)))))))) fsNext)
noncomputable def fb_front_meets : FS := (fsSeq (fsAsg 4 (fC (.bool true)))
    (fsSeq (fsFor (fiArgs gZip (faCons (fVar 0) (faCons (fVar 1) faNil))) (tgT [5, 6]) lb_front_meets_1)
    (fsRet (fVar 4))))
noncomputable def F_front_meets : Fn := runF 8 fb_front_meets
noncomputable def fb_done : FS := (fsSeq (fsIf (fB (fOp gEq (fVar 1) (fC (.int 0)))) (fsRet (fTup (faCons (fOp gIx (fVar 0) (fC (.int 0))) (faCons (fC (.int 0)) (faCons (fC (.int 1)) (faCons (fTup faNil) faNil)))))) fsNext)
    (fsSeq (fsIf (fB (fOp gEq (fFn gLen (faCons (fVar 0) faNil)) (fC (.int 1)))) (fsRet (fVar 0)) fsNext)
    (fsSeq (fsAsgT [2, 3, 4, 5] (fVar 0))
    (fsRet (fTup (faCons (fVar 2) (faCons (fOp gMul (fVar 3) (fVar 1)) (faCons (fCall F_power_by (faCons (fVar 4) (faCons (fVar 1) (faCons (fVar 2) faNil)))) (faCons (fFn gTuple (faCons (fLc (fiSeq (fVar 5)) (tgT [6, 7]) fYes (fTup (faCons (fVar 6) (faCons (fOp gMul (fVar 7) (fVar 1)) faNil))) [6, 7]) faNil)) faNil)))))))))
noncomputable def F_done : Fn := runF 8 fb_done
noncomputable def fb_root_by : FS := (fsSeq (fsIf (fB (fOp gEq (fFn gLen (faCons (fVar 0) faNil)) (fC (.int 1)))) (fsRet (fVar 0)) fsNext)
    (fsSeq (fsAsgT [2, 3, 4, 5] (fVar 0))
    (fsSeq (fsAsg 6 (fLc (fiArgs gRange2 (faCons (fC (.int 1)) (faCons (fVar 2) faNil))) (tgN 7) (fB (fOp gEq (fCall F_power_by (faCons (fVar 7) (faCons (fVar 1) (faCons (fVar 2) faNil)))) (fVar 4))) (fVar 7) [7]))
    (fsSeq (fsIf (ftOr (ftNot (fTr (fVar 6))) (ftOr (fTr (fOp gMod (fVar 3) (fVar 1))) (fTr (fFn gAny (faCons (fLc (fiSeq (fVar 5)) (tgT [8, 9]) fYes (fOp gMod (fVar 9) (fVar 1)) [8, 9]) faNil))))) (fsRet (fC .none)) fsNext)
    (fsRet (fTup (faCons (fVar 2) (faCons (fOp gFdiv (fVar 3) (fVar 1)) (faCons (fOp gIx (fVar 6) (fC (.int 0))) (faCons (fFn gTuple (faCons (fLc (fiSeq (fVar 5)) (tgT [10, 9]) fYes (fTup (faCons (fVar 10) (faCons (fOp gFdiv (fVar 9) (fVar 1)) faNil))) [10, 9]) faNil)) faNil))))))))))
noncomputable def F_root_by : Fn := runF 11 fb_root_by
noncomputable def fb_turn_of : FS := (fsRet (fOp gIx (fLc (fiArgs gRange2 (faCons (fC (.int 1)) (faCons (fVar 1) faNil))) (tgN 2) (fB (fOp gEq (fCall F_power_by (faCons (fVar 0) (faCons (fVar 2) (faCons (fVar 1) faNil)))) (fC (.int 1)))) (fVar 2) [2]) (fC (.int 0))))
noncomputable def F_turn_of : Fn := runF 3 fb_turn_of
noncomputable def fb_need_both : FS := (fsSeq (fsDrop (fCall F_need_program (faCons (fVar 0) faNil)))
    (fsSeq (fsDrop (fCall F_need_row (faCons (fVar 1) faNil)))
    (fsDrop (fCall F_need_same (faCons (fVar 0) (faCons (fVar 1) faNil))))))
noncomputable def F_need_both : Fn := runF 2 fb_need_both
noncomputable def fb_places_left : FS := (fsRet (fLcO (fiSeq (fOp gIx (fVar 0) (fC (.int 1)))) (tgT [2, 3]) (fTr (fOp gMod (fVar 3) (fVar 1))) (fVar 2) [2, 3]))
noncomputable def F_places_left : Fn := runF 4 fb_places_left
noncomputable def fb_row_total : FS := (fsSeq (fsDrop (fCall F_need_both (faCons (fVar 0) (faCons (fVar 1) faNil))))
    (fsRet (fOp gMod (fOp gMul (fCall F_total (faCons (fVar 0) faNil)) (fFn gSum (faCons (fLc (fiSeq (fOp gIx (fVar 1) (fC (.int 1)))) (tgT [2, 3]) fYes (fVar 3) [2, 3]) faNil))) (fOp gIx (fVar 1) (fC (.int 0))))))
noncomputable def F_row_total : Fn := runF 4 fb_row_total
noncomputable def fb_is_remainders : FS := (fsSeq (fsIf (ftOr (ftNot (fTr (fIsi "tuple" (fVar 0)))) (fB (fOp gNe (fFn gLen (faCons (fVar 0) faNil)) (fVar 1)))) (fsRet (fC (.bool false))) fsNext)
    (fsRet (fFn gAll (faCons (fLc (fiSeq (fVar 0)) (tgN 3) fYes (fCall F_is_within (faCons (fVar 3) (faCons (fC (.int 0)) (faCons (fOp gSub (fVar 2) (fC (.int 1))) faNil)))) [3]) faNil))))
noncomputable def F_is_remainders : Fn := runF 4 fb_is_remainders
noncomputable def fb_has_prime : FS := (fsRet (fAndV (fCall F_is_two (faCons (fVar 0) faNil)) (fAndV (fCall F_is_number (faCons (fOp gIx (fVar 0) (fC (.int 0))) faNil)) (fOp gIn (fOp gIx (fVar 0) (fC (.int 0))) (fUnV (gIxK [(2, [2]), (3, [3]), (5, [5]), (6, [2, 3]), (7, [7]), (10, [2, 5]), (11, [11]), (13, [13]), (14, [2, 7]), (15, [3, 5])]) (fVar 1))))))
noncomputable def F_has_prime : Fn := runF 2 fb_has_prime
noncomputable def fb_need_live_rule : FS := (fsSeq (fsDrop (fCall F_need_rule (faCons (fVar 0) faNil)))
    (fsIf (ftNot (fTr (fFn gAll (faCons (fLc (fiSeq (frz (fCall F_primes_of (faCons (fOp gIx (fVar 0) (fC (.int 0))) faNil)))) (tgN 1) fYes (fCall F_by_prime (faCons (fVar 0) (faCons (fVar 1) faNil))) [1]) faNil)))) fsNever fsNext))
noncomputable def F_need_live_rule : Fn := runF 2 fb_need_live_rule
noncomputable def lb_back_by_2 : FS := (fsSeq (fsAsgT [4, 9] (fCall F_divided (faCons (fVar 4) (faCons (frz (fCall F_stretched (faCons (fVar 5) (faCons (fVar 7) faNil)))) (faCons (fVar 3) faNil)))))
    (fsIf (fTr (fVar 9)) (fsRet (fC .none)) fsNext))
noncomputable def lb_back_by_1 : FS := (fsSeq (fsFor (fiArgs gRange1 (faCons (fOp gMod (fVar 6) (fVar 3)) faNil)) (tgN 8) lb_back_by_2)
    (fsSeq (fsAsg 6 (fOp gFdiv (fVar 6) (fVar 3)))
    (fsAsg 7 (fOp gMul (fVar 7) (fVar 3)))))
noncomputable def fb_back_by : FS := (fsSeq (fsIf (ftNot (fTr (fVar 1))) (fsRet (fTup faNil)) fsNext)
    (fsSeq (fsPar 4 5 (faCons (frz (fCall F_coefficients (faCons (fVar 1) faNil))) (faCons (fCall F_by_places (faCons (fVar 0) faNil)) faNil)))
    (fsSeq (fsPar 6 7 (faCons (fVar 2) (faCons (fC (.int 1)) faNil)))
    (fsSeq (fsWhile (fTr (fVar 6)) lb_back_by_1)
    (fsSeq (fsAsg 10 (fOp gAdd (fOp gIx (fOp gIx (fVar 1) (fC (.int 0))) (fC (.int 0))) (fOp gMul (fOp gIx (fOp gIx (fVar 0) (fUn gNeg (fC (.int 1)))) (fC (.int 0))) (fVar 2))))
    (fsRet (fFn gTuple (faCons (fLc (fiArgs gEnum (faCons (fVar 4) faNil)) (tgT [11, 12]) (fTr (fVar 12)) (fTup (faCons (fOp gAdd (fVar 10) (fVar 11)) (faCons (fVar 12) faNil))) [11, 12]) faNil))))))))
noncomputable def F_back_by : Fn := runF 13 fb_back_by
noncomputable def fb_ahead : FS := (fsSeq (fsDrop (fCall F_need_both (faCons (fVar 0) (faCons (fVar 1) faNil))))
    (fsRet (fCall F_led_back (faCons (fVar 0) (faCons (fVar 1) (faCons (fC (.int 1)) faNil))))))
noncomputable def F_ahead : Fn := runF 2 fb_ahead
noncomputable def fb_row_back : FS := (fsSeq (fsDrop (fCall F_need_both (faCons (fVar 0) (faCons (fVar 1) faNil))))
    (fsSeq (fsIf (ftNot (fB (fChain gLe gLe (fC (.int 0)) (fVar 2) (fC (.int 100))))) fsNever fsNext)
    (fsRet (fCall F_led_back (faCons (fVar 0) (faCons (fVar 1) (faCons (fVar 2) faNil)))))))
noncomputable def F_row_back : Fn := runF 3 fb_row_back
noncomputable def fb_need_dying : FS := (fsSeq (fsDrop (fCall F_need_prime_rule (faCons (fVar 0) faNil)))
    (fsSeq (fsIf (ftNot (fB (fChain gLe gLe (fC (.int 1)) (fOp gMul (fVar 1) (fCall F_width_of (faCons (fVar 0) faNil))) (fC (.int 40))))) fsNever fsNext)
    (fsIf (ftNot (fTr (fCall F_is_remainders (faCons (fVar 2) (faCons (fOp gMul (fVar 1) (fCall F_width_of (faCons (fVar 0) faNil))) (faCons (fOp gIx (fVar 0) (fC (.int 0))) faNil)))))) fsNever fsNext)))
noncomputable def F_need_dying : Fn := runF 3 fb_need_dying
noncomputable def lb_told_on_1 : FS := (fsDrop (fMut gAppend (fVar 3) (faCons (fOp gMod (fUn gNeg (fFn gSum (faCons (fLc (fiArgs gEnum (faCons (fSl (fVar 1) fNo (fPart (fUn gNeg (fC (.int 1))))) faNil)) (tgT [5, 6]) fYes (fOp gMul (fOp gIx (fVar 3) (fOp gAdd (fVar 4) (fVar 5))) (fVar 6)) [5, 6]) faNil))) (fVar 2)) faNil)))
noncomputable def fb_told_on : FS := (fsSeq (fsAsg 3 (fListO (fVar 0)))
    (fsSeq (fsFor (fiArgs gRange1 (faCons (fFn gLen (faCons (fVar 0) faNil)) faNil)) (tgN 4) lb_told_on_1)
    (fsRet (fVar 3))))
noncomputable def F_told_on : Fn := runF 7 fb_told_on
noncomputable def fb_makes_nought : FS := (fsRet (fNotV (fFn gAny (faCons (fLc (fiArgs gRange1 (faCons (fVar 2) faNil)) (tgN 4) fYes (fOp gMod (fFn gSum (faCons (fLc (fiArgs gEnum (faCons (fVar 0) faNil)) (tgT [5, 6]) fYes (fOp gMul (fOp gIx (fVar 1) (fOp gAdd (fVar 4) (fVar 5))) (fVar 6)) [5, 6]) faNil)) (fVar 3)) [4]) faNil))))
noncomputable def F_makes_nought : Fn := runF 7 fb_makes_nought
noncomputable def lb_dies_in_1 : FS := (fsSeq (fsIf (ftNot (fTr (fFn gAnyT (faCons (fOp gIx (fVar 1) (fC (.int 1))) faNil)))) (fsRet (fVar 2)) fsNext)
    (fsAsg 1 (fCall F_round_step (faCons (fVar 0) (faCons (fVar 1) faNil)))))
noncomputable def fb_dies_in : FS := (fsSeq (fsDrop (fCall F_need_prime_rule (faCons (fVar 0) faNil)))
    (fsSeq (fsDrop (fCall F_need_round (faCons (fVar 1) faNil)))
    (fsSeq (fsDrop (fCall F_need_same (faCons (fVar 0) (faCons (fVar 1) faNil))))
    (fsSeq (fsFor (fiArgs gRange1 (faCons (fOp gAdd (fFn gLen (faCons (fOp gIx (fVar 1) (fC (.int 1))) faNil)) (fC (.int 1))) faNil)) (tgN 2) lb_dies_in_1)
    (fsRet (fC .none))))))
noncomputable def F_dies_in : Fn := runF 3 fb_dies_in
noncomputable def lb_echelon_1 : FS := (fsSeq (fsSeq (fsFrz 5) (fsAsg 7 (fLc (fiArgs gEnum (faCons (fVar 5) faNil)) (tgT [8, 9]) (fTr (fOp gIx (fVar 9) (fVar 6))) (fVar 8) [8, 9])))
    (fsIf (fTr (fVar 7)) (fsSeq (fsAsg 10 (frz (fCall F_one_at (faCons (fMut gPopAt (fVar 5) (faCons (fOp gIx (fVar 7) (fC (.int 0))) faNil)) (faCons (fVar 6) (faCons (fVar 2) faNil))))))
    (fsSeq (fsSeq (fsFrz 5) (fsAsg 5 (fLcO (fiSeq (fVar 5)) (tgN 9) fYes (fCall F_cleared (faCons (fVar 9) (faCons (fVar 10) (faCons (fVar 6) (faCons (fVar 2) faNil))))) [9])))
    (fsSeq (fsAsg 4 (fOp gAdd (fLc (fiSeq (fVar 4)) (tgN 9) fYes (fCall F_cleared (faCons (fVar 9) (faCons (fVar 10) (faCons (fVar 6) (faCons (fVar 2) faNil))))) [9]) (fLst (faCons (fVar 10) faNil))))
    (fsDrop (fMut gAppend (fVar 3) (faCons (fVar 6) faNil)))))) fsNext))
noncomputable def fb_echelon : FS := (fsSeq (fsParN [3, 4, 5] (faCons (fLstO faNil) (faCons (fLst faNil) (faCons (fListO (fVar 0)) faNil))))
    (fsSeq (fsFor (fiArgs gRange1 (faCons (fVar 1) faNil)) (tgN 6) lb_echelon_1)
    (fsSeq (fsFrz 3) (fsSeq (fsFrz 5) (fsRet (fTup (faCons (fVar 3) (faCons (fVar 4) (faCons (fVar 5) faNil)))))))))
noncomputable def F_echelon : Fn := runF 11 fb_echelon
noncomputable def fb_is_look : FS := (fsRet (fAndV (fCall F_is_two (faCons (fVar 0) faNil)) (fAndV (fCall F_is_remainders (faCons (fOp gIx (fVar 0) (fC (.int 0))) (faCons (fOp gAdd (fOp gMul (fC (.int 2)) (fVar 2)) (fC (.int 1))) (faCons (fVar 1) faNil)))) (fCall F_is_within (faCons (fOp gIx (fVar 0) (fC (.int 1))) (faCons (fC (.int 0)) (faCons (fOp gSub (fVar 1) (fC (.int 1))) faNil)))))))
noncomputable def F_is_look : Fn := runF 3 fb_is_look
noncomputable def fb_need_looks : FS := (fsSeq (fsAsg 3 (frz (fCall F_primes_of (faCons (fVar 0) faNil))))
    (fsSeq (fsIf (ftNot (fB (fChain gLe gLe (fC (.int 0)) (fVar 1) (fC (.int 3))))) fsNever fsNext)
    (fsSeq (fsIf (ftOr (ftNot (fTr (fIsi "tuple" (fVar 2)))) (ftNot (fTr (fFn gAll (faCons (fLc (fiSeq (fVar 2)) (tgN 4) fYes (fCall F_is_look (faCons (fVar 4) (faCons (fVar 0) (faCons (fVar 1) faNil)))) [4]) faNil))))) fsNever fsNext)
    (fsRet (fVar 3)))))
noncomputable def F_need_looks : Fn := runF 5 fb_need_looks
noncomputable def fb_contradicts : FS := (fsRet (fFn gAny (faCons (fLc (fiSeq (fOp gIx (fVar 0) (fC (.int 2)))) (tgN 2) fYes (fOp gIx (fVar 2) (fVar 1)) [2]) faNil)))
noncomputable def F_contradicts : Fn := runF 3 fb_contradicts
noncomputable def lb_one_solution_1 : FS := (fsSetI (fVar 2) (fVar 3) (fOp gIx (fVar 4) (fVar 1)))
noncomputable def fb_one_solution : FS := (fsSeq (fsAsg 2 (fRep (fLstO (faCons (fC (.int 0)) faNil)) (fVar 1)))
    (fsSeq (fsFor (fiArgs gZip (faCons (fOp gIx (fVar 0) (fC (.int 0))) (faCons (fOp gIx (fVar 0) (fC (.int 1))) faNil))) (tgT [3, 4]) lb_one_solution_1)
    (fsRet (fVar 2))))
noncomputable def F_one_solution : Fn := runF 5 fb_one_solution
noncomputable def lb_free_solutions_2 : FS := (fsSetI (fVar 5) (fVar 7) (fOp gMod (fUn gNeg (fOp gIx (fVar 8) (fVar 4))) (fVar 2)))
noncomputable def lb_free_solutions_1 : FS := (fsIf (fB (fOp gNin (fVar 4) (fOp gIx (fVar 0) (fC (.int 0))))) (fsSeq (fsAsg 5 (fLcO (fiArgs gRange1 (faCons (fVar 1) faNil)) (tgN 6) fYes (fFn gInt (faCons (fOp gEq (fVar 6) (fVar 4)) faNil)) [6]))
    (fsSeq (fsFor (fiArgs gZip (faCons (fOp gIx (fVar 0) (fC (.int 0))) (faCons (fOp gIx (fVar 0) (fC (.int 1))) faNil))) (tgT [7, 8]) lb_free_solutions_2)
    (fsSeq (fsFrz 5) (fsDrop (fMut gAppend (fVar 3) (faCons (fVar 5) faNil)))))) fsNext)
noncomputable def fb_free_solutions : FS := (fsSeq (fsAsg 3 (fLstO faNil))
    (fsSeq (fsFor (fiArgs gRange1 (faCons (fVar 1) faNil)) (tgN 4) lb_free_solutions_1)
    (fsRet (fVar 3))))
noncomputable def F_free_solutions : Fn := runF 9 fb_free_solutions
noncomputable def lb_numbers_of_2 : FS := (fsAsg 4 (fIf (fB (fOp gLt (fVar 3) (fVar 5))) (fOp gMul (fVar 4) (fVar 6)) (fVar 4)))
noncomputable def lb_numbers_of_1 : FS := (fsSeq (fsAsg 4 (fC (.int 1)))
    (fsSeq (fsFor (fiArgs gZip (faCons (fVar 0) (faCons (fVar 1) faNil))) (tgT [5, 6]) lb_numbers_of_2)
    (fsDrop (fMut gAppend (fVar 2) (faCons (fVar 4) faNil)))))
noncomputable def fb_numbers_of : FS := (fsSeq (fsAsg 2 (fLstO faNil))
    (fsSeq (fsFor (fiArgs gRange1 (faCons (fFn gMax1 (faCons (fVar 0) faNil)) faNil)) (tgN 3) lb_numbers_of_1)
    (fsRet (fVar 2))))
noncomputable def F_numbers_of : Fn := runF 7 fb_numbers_of
noncomputable def fb_is_numbered : FS := (fsSeq (fsIf (ftNot (fTr (fIsi "list" (fVar 0)))) (fsRet (fC (.bool false))) fsNext)
    (fsRet (fFn gAll (faCons (fLc (fiSeq (fVar 0)) (tgN 2) fYes (fAndV (fCall F_is_two (faCons (fVar 2) faNil)) (fAndV (fCall F_is_number (faCons (fOp gIx (fVar 2) (fC (.int 0))) faNil)) (fAndV (fCall F_is_rule (faCons (fOp gIx (fVar 2) (fC (.int 1))) faNil)) (fOp gEq (fOp gIx (fOp gIx (fVar 2) (fC (.int 1))) (fC (.int 0))) (fVar 1))))) [2]) faNil))))
noncomputable def F_is_numbered : Fn := runF 3 fb_is_numbered
noncomputable def lb_holds_by_1 : FS := (fsSeq (fsAsg 8 (frz (fDict (fCall F_by_prime (faCons (fVar 7) (faCons (fVar 4) faNil))))))
    (fsSeq (fsIf (fTr (fFn gAny (faCons (fLc (fiSeq (fVar 8)) (tgN 9) fYes (fNotV (fChain gLe gLe (fUn gNeg (fVar 2)) (fVar 9) (fVar 2))) [9]) faNil))) (fsRet (fC (.bool false))) fsNext)
    (fsDrop (fMut gAppend (fVar 6) (faCons (fLc (fiArgs gRange1 (faCons (fOp gAdd (fOp gMul (fC (.int 2)) (fVar 2)) (fC (.int 1))) faNil)) (tgN 10) fYes (fGet (fVar 8) (fOp gSub (fVar 10) (fVar 2)) (fC (.int 0))) [10]) faNil)))))
noncomputable def lb_holds_by_2 : FS := (fsSeq (fsFrz 6) (fsIf (fTr (fFn gAny (faCons (fLc (fiSeq (fVar 6)) (tgN 13) fYes (fOp gMod (fFn gSum (faCons (fLc (fiArgs gZip (faCons (fVar 11) (faCons (fVar 13) faNil))) (tgT [14, 15]) fYes (fOp gMul (fVar 14) (fVar 15)) [14, 15]) faNil)) (fVar 4)) [13]) faNil))) (fsRet (fC (.bool false))) fsNext))
noncomputable def fb_holds_by : FS := (fsSeq (fsAsgT [4, 5] (fVar 3))
    (fsSeq (fsAsg 6 (fLstO faNil))
    (fsSeq (fsFor (fiSeq (fVar 0)) (tgN 7) lb_holds_by_1)
    (fsSeq (fsFor (fiSeq (fVar 1)) (tgT [11, 12]) lb_holds_by_2)
    (fsRet (fOp gEq (fFn gLen (faCons (fOp gIx (fCall F_echelon (faCons (fSl (fVar 6) fNo (fPart (fVar 5))) (faCons (fOp gAdd (fOp gMul (fC (.int 2)) (fVar 2)) (fC (.int 1))) (faCons (fVar 4) faNil)))) (fC (.int 0))) faNil)) (fVar 5)))))))
noncomputable def F_holds_by : Fn := runF 16 fb_holds_by
noncomputable def fb_rests_of : FS := (fsRet (fLcO (fiSeq (fOp gIx (fVar 0) (fC (.int 1)))) (tgN 2) fYes (fOp gMod (fVar 2) (fVar 1)) [2]))
noncomputable def F_rests_of : Fn := runF 3 fb_rests_of
noncomputable def lb_round_of_1 : FS := (fsSeq (fsAsg 5 (fCall F_one_for (faCons (fVar 3) (faCons (fVar 0) faNil))))
    (fsAsg 2 (fLc (fiArgs gZip (faCons (fVar 2) (faCons (fVar 4) faNil))) (tgT [6, 7]) fYes (fOp gAdd (fVar 6) (fOp gMul (fVar 5) (fVar 7))) [6, 7])))
noncomputable def fb_round_of : FS := (fsSeq (fsAsg 2 (frz (fRep (fLstO (faCons (fC (.int 0)) faNil)) (fFn gLen (faCons (fOp gIx (fVar 1) (fC (.int 0))) faNil)))))
    (fsSeq (fsFor (fiArgs gZip (faCons (frz (fCall F_primes_of (faCons (fVar 0) faNil))) (faCons (fVar 1) faNil))) (tgT [3, 4]) lb_round_of_1)
    (fsRet (fTup (faCons (fVar 0) (faCons (fFn gTuple (faCons (fLc (fiSeq (fVar 2)) (tgN 6) fYes (fOp gMod (fVar 6) (fVar 0)) [6]) faNil)) faNil))))))
noncomputable def F_round_of : Fn := runF 8 fb_round_of
noncomputable def fb_whole_of : FS := (fsRet (fOpO gAdd (fOp gAdd (fLst (faCons (fOp gSub (fVar 1) (fC (.int 1))) faNil)) (frz (fRep (fLstO (faCons (fC (.int 0)) faNil)) (fOp gSub (fVar 0) (fC (.int 1)))))) (fLst (faCons (fC (.int 1)) faNil))))
noncomputable def F_whole_of : Fn := runF 2 fb_whole_of
noncomputable def fb_lessened : FS := (fsSeq (fsAsg 3 (fFn gMax2 (faCons (fFn gLen (faCons (fVar 0) faNil)) (faCons (fFn gLen (faCons (fVar 1) faNil)) faNil))))
    (fsSeq (fsPar 0 1 (faCons (fOp gAdd (fVar 0) (frz (fRep (fLstO (faCons (fC (.int 0)) faNil)) (fOp gSub (fVar 3) (fFn gLen (faCons (fVar 0) faNil)))))) (faCons (fOp gAdd (fVar 1) (frz (fRep (fLstO (faCons (fC (.int 0)) faNil)) (fOp gSub (fVar 3) (fFn gLen (faCons (fVar 1) faNil)))))) faNil)))
    (fsRet (fCall F_trimmed (faCons (fLc (fiArgs gZip (faCons (fVar 0) (faCons (fVar 1) faNil))) (tgT [4, 5]) fYes (fOp gSub (fVar 4) (fVar 5)) [4, 5]) (faCons (fVar 2) faNil))))))
noncomputable def F_lessened : Fn := runF 6 fb_lessened
noncomputable def fb_first_place : FS := (fsRet (fIf (fTr (fVar 0)) (fUn gNeg (fOp gIx (fOp gIx (fVar 0) (fUn gNeg (fC (.int 1)))) (fC (.int 0)))) (fC (.int 0))))
noncomputable def F_first_place : Fn := runF 1 fb_first_place
noncomputable def lb_round_bars_1 : FS := (fsIf (fTr (fOp gMod (fFn gSum (faCons (fLc (fiSeq (fVar 6)) (tgT [8, 9]) fYes (fOp gMul (fVar 9) (fOp gIx (fVar 5) (fOp gMod (fOp gSub (fVar 7) (fVar 8)) (fVar 3)))) [8, 9]) faNil)) (fVar 4))) (fsRet (fC (.bool false))) fsNext)
noncomputable def fb_round_bars : FS := (fsSeq (fsDrop (fCall F_need_both (faCons (fVar 0) (faCons (fVar 1) faNil))))
    (fsSeq (fsAsg 3 (fFn gLen (faCons (fOp gIx (fVar 1) (fC (.int 1))) faNil)))
    (fsSeq (fsIf (ftOr (ftNot (fTr (fCall F_has_prime (faCons (fVar 2) (faCons (fOp gIx (fVar 1) (fC (.int 0))) faNil))))) (ftNot (fTr (fCall F_is_remainders (faCons (fOp gIx (fVar 2) (fC (.int 1))) (faCons (fVar 3) (faCons (fOp gIx (fVar 2) (fC (.int 0))) faNil))))))) (fsRet (fC (.bool false))) fsNext)
    (fsSeq (fsAsgT [4, 5] (fVar 2))
    (fsSeq (fsAsg 6 (fCall F_by_prime (faCons (fVar 0) (faCons (fVar 4) faNil))))
    (fsSeq (fsFor (fiArgs gRange1 (faCons (fVar 3) faNil)) (tgN 7) lb_round_bars_1)
    (fsRet (fOp gNe (fOp gMod (fFn gSum (faCons (fLc (fiArgs gZip (faCons (fVar 5) (faCons (fOp gIx (fVar 1) (fC (.int 1))) faNil))) (tgT [10, 11]) fYes (fOp gMul (fVar 10) (fVar 11)) [10, 11]) faNil)) (fVar 4)) (fC (.int 0))))))))))
noncomputable def F_round_bars : Fn := runF 12 fb_round_bars
noncomputable def lb_share_of_1 : FS := (fsAsg 2 (fOp gMul (fVar 2) (fVar 1)))
noncomputable def fb_share_of : FS := (fsSeq (fsAsg 2 (fC (.int 1)))
    (fsSeq (fsWhile (fB (fOp gEq (fOp gMod (fVar 0) (fOp gMul (fVar 2) (fVar 1))) (fC (.int 0)))) lb_share_of_1)
    (fsRet (fVar 2))))
noncomputable def F_share_of : Fn := runF 3 fb_share_of
noncomputable def lb_turns_on_ring_1 : FS := (fsAsg 4 (fOp gMul (fVar 4) (fVar 1)))
noncomputable def fb_turns_on_ring : FS := (fsSeq (fsAsg 2 (fCall F_share_of (faCons (fVar 0) (faCons (fVar 1) faNil))))
    (fsSeq (fsAsg 3 (fOp gFdiv (fVar 0) (fVar 2)))
    (fsSeq (fsAsg 4 (fVar 1))
    (fsSeq (fsWhile (fB (fOp gNe (fOp gMod (fVar 4) (fVar 3)) (fOp gMod (fC (.int 1)) (fVar 3)))) lb_turns_on_ring_1)
    (fsRet (fTup (faCons (fVar 2) (faCons (fVar 4) faNil))))))))
noncomputable def F_turns_on_ring : Fn := runF 5 fb_turns_on_ring
noncomputable def fb_need_many : FS := (fsIf (fB (fOp gLt (fVar 0) (fC (.int 1)))) fsNever fsNext)
noncomputable def F_need_many : Fn := runF 1 fb_need_many
noncomputable def lb_least_numbers_1 : FS := (fsSeq (fsFrz 1) (fsIf (fTr (fFn gAll (faCons (fLc (fiSeq (fVar 1)) (tgN 3) fYes (fOp gMod (fVar 2) (fVar 3)) [3]) faNil))) (fsDrop (fMut gAppend (fVar 1) (faCons (fVar 2) faNil))) fsNext))
noncomputable def fb_least_numbers : FS := (fsSeq (fsAsg 1 (fLstO faNil))
    (fsSeq (fsFor (fiSeq (fFn gSortL (faCons (fVar 0) faNil))) (tgN 2) lb_least_numbers_1)
    (fsRet (fVar 1))))
noncomputable def F_least_numbers : Fn := runF 4 fb_least_numbers
noncomputable def fb_nought_dim : FS := (fsSeq (fsIf (fB (fOp gIsN (fVar 0) (fC .none))) (fsRet (fVar 1)) fsNext)
    (fsSeq (fsAsg 3 (fCall F_share_of (faCons (fVar 1) (faCons (fVar 2) faNil))))
    (fsRet (fFn gSum (faCons (fLc (fiSeq (fVar 0)) (tgT [4, 5, 6]) (fB (fOp gEq (fOp gMod (fVar 1) (fVar 4)) (fC (.int 0)))) (fOp gMul (fVar 5) (fFn gMin2 (faCons (fVar 6) (faCons (fVar 3) faNil)))) [4, 5, 6]) faNil)))))
noncomputable def F_nought_dim : Fn := runF 7 fb_nought_dim
noncomputable def fb_lost_dim : FS := (fsSeq (fsIf (fB (fOp gIsN (fVar 0) (fC .none))) (fsRet (fVar 1)) fsNext)
    (fsSeq (fsAsg 3 (fCall F_share_of (faCons (fVar 1) (faCons (fVar 2) faNil))))
    (fsRet (fFn gSum (faCons (fLc (fiSeq (fVar 0)) (tgT [4, 5, 6]) (fB (fOp gEq (fOp gMod (fVar 1) (fVar 4)) (fC (.int 0)))) (fOp gMul (fVar 5) (fVar 3)) [4, 5, 6]) faNil)))))
noncomputable def F_lost_dim : Fn := runF 7 fb_lost_dim
noncomputable def lb_power_to_1 : FS := (fsAsg 2 (fOp gMul (fVar 2) (fVar 0)))
noncomputable def fb_power_to : FS := (fsSeq (fsAsg 2 (fC (.int 1)))
    (fsSeq (fsFor (fiArgs gRange1 (faCons (fVar 1) faNil)) (tgN 3) lb_power_to_1)
    (fsRet (fVar 2))))
noncomputable def F_power_to : Fn := runF 4 fb_power_to
noncomputable def lb_unlike_orders_1 : FS := (fsSetK (fVar 3) (fVar 4) (fOp gAdd (fGet (fVar 3) (fVar 4) (fC (.int 0))) (fOp gMul (fVar 5) (fFn gMin2 (faCons (fVar 6) (faCons (fVar 2) faNil))))))
noncomputable def lb_unlike_orders_2 : FS := (fsSetK (fVar 3) (fVar 4) (fOp gSub (fGet (fVar 3) (fVar 4) (fC (.int 0))) (fOp gMul (fVar 5) (fFn gMin2 (faCons (fVar 6) (faCons (fVar 2) faNil))))))
noncomputable def fb_unlike_orders : FS := (fsSeq (fsAsg 3 fDictO)
    (fsSeq (fsFor (fiSeq (fVar 0)) (tgT [4, 5, 6]) lb_unlike_orders_1)
    (fsSeq (fsFor (fiSeq (fVar 1)) (tgT [4, 5, 6]) lb_unlike_orders_2)
    (fsSeq (fsFrz 3) (fsRet (fLcO (fiSeq (fVar 3)) (tgN 4) (fTr (fOp gIxD (fVar 3) (fVar 4))) (fVar 4) [4]))))))
noncomputable def F_unlike_orders : Fn := runF 7 fb_unlike_orders
noncomputable def fb_is_even : FS := (fsRet (fOp gEq (fVar 0) (fFn gTuple (faCons (fLc (fiSeq (fUnV gRev (fVar 0))) (tgT [1, 2]) fYes (fTup (faCons (fUn gNeg (fVar 1)) (faCons (fVar 2) faNil))) [1, 2]) faNil))))
noncomputable def F_is_even : Fn := runF 3 fb_is_even
noncomputable def fb_need_even_rule : FS := (fsSeq (fsDrop (fCall F_need_rule (faCons (fVar 0) faNil)))
    (fsIf (ftNot (fTr (fCall F_is_even (faCons (fOp gIx (fVar 0) (fC (.int 1))) faNil)))) fsNever fsNext))
noncomputable def F_need_even_rule : Fn := runF 1 fb_need_even_rule
noncomputable def fb_need_even_program : FS := (fsSeq (fsDrop (fCall F_need_program (faCons (fVar 0) faNil)))
    (fsIf (ftNot (fTr (fFn gAll (faCons (fLc (fiSeq (fOp gIx (fVar 0) (fC (.int 1)))) (tgT [1, 2]) fYes (fCall F_is_even (faCons (fVar 1) faNil)) [1, 2]) faNil)))) fsNever fsNext))
noncomputable def F_need_even_program : Fn := runF 3 fb_need_even_program
noncomputable def fb_need_kind : FS := (fsIf (ftOr (ftNot (fTr (fIsi "str" (fVar 0)))) (fB (fOp gNin (fVar 0) (fTup (faCons (fC (.str "nought")) (faCons (fC (.str "mirror")) faNil)))))) fsNever fsNext)
noncomputable def F_need_kind : Fn := runF 1 fb_need_kind
noncomputable def fb_unfolded : FS := (fsSeq (fsDrop (fCall F_need_round (faCons (fVar 0) faNil)))
    (fsSeq (fsDrop (fCall F_need_kind (faCons (fVar 1) faNil)))
    (fsSeq (fsAsgT [2, 3] (fVar 0))
    (fsSeq (fsIf (fB (fOp gEq (fVar 1) (fC (.str "mirror")))) (fsRet (fTup (faCons (fVar 2) (faCons (fOp gAdd (fVar 3) (fUnV gRev (fVar 3))) faNil)))) fsNext)
    (fsRet (fTup (faCons (fVar 2) (faCons (fOp gAdd (fOp gAdd (fOp gAdd (fVar 3) (fTup (faCons (fC (.int 0)) faNil))) (fFn gTuple (faCons (fLc (fiSeq (fUnV gRev (fVar 3))) (tgN 4) fYes (fOp gMod (fUn gNeg (fVar 4)) (fVar 2)) [4]) faNil))) (fTup (faCons (fC (.int 0)) faNil))) faNil))))))))
noncomputable def F_unfolded : Fn := runF 5 fb_unfolded
noncomputable def fb_walled_step : FS := (fsSeq (fsDrop (fCall F_need_even_rule (faCons (fVar 0) faNil)))
    (fsSeq (fsDrop (fCall F_need_round (faCons (fVar 1) faNil)))
    (fsSeq (fsDrop (fCall F_need_same (faCons (fVar 0) (faCons (fVar 1) faNil))))
    (fsRet (fTup (faCons (fOp gIx (fVar 1) (fC (.int 0))) (faCons (fSl (fOp gIx (fCall F_round_step (faCons (fVar 0) (faCons (fCall F_unfolded (faCons (fVar 1) (faCons (fVar 2) faNil))) faNil))) (fC (.int 1))) fNo (fPart (fFn gLen (faCons (fOp gIx (fVar 1) (fC (.int 1))) faNil)))) faNil)))))))
noncomputable def F_walled_step : Fn := runF 3 fb_walled_step
noncomputable def fb_often_within : FS := (fsSeq (fsAsg 4 (fIf (fB (fOp gEq (fVar 1) (fC (.str "mirror")))) (fOp gMul (fC (.int 2)) (fVar 2)) (fOp gAdd (fOp gMul (fC (.int 2)) (fVar 2)) (fC (.int 2)))))
    (fsSeq (fsIf (fTr (fOp gMod (fVar 4) (fVar 0))) (fsRet (fC (.int 0))) fsNext)
    (fsSeq (fsAsg 5 (fCall F_share_of (faCons (fVar 4) (faCons (fVar 3) faNil))))
    (fsSeq (fsIf (fB (fOp gGt (fVar 0) (fC (.int 2)))) (fsRet (fVar 5)) fsNext)
    (fsSeq (fsAsg 6 (fOp gFdiv (fOp gSub (fVar 5) (fC (.int 1))) (fC (.int 2))))
    (fsRet (fIf (ftAnd (fB (fOp gEq (fVar 0) (fC (.int 1)))) (fB (fOp gEq (fVar 1) (fC (.str "mirror"))))) (fOp gAdd (fVar 6) (fC (.int 1))) (fVar 6))))))))
noncomputable def F_often_within : Fn := runF 7 fb_often_within
noncomputable def fb_need_told : FS := (fsSeq (fsDrop (fCall F_need_even_rule (faCons (fVar 0) faNil)))
    (fsSeq (fsDrop (fCall F_need_kind (faCons (fVar 1) faNil)))
    (fsDrop (fCall F_need_many (faCons (fVar 2) faNil)))))
noncomputable def F_need_told : Fn := runF 3 fb_need_told
noncomputable def fb_need_factor : FS := (fsIf (ftNot (fB (fChain gLe gLt (fC (.int 0)) (fVar 1) (fOp gIx (fVar 0) (fC (.int 0)))))) fsNever fsNext)
noncomputable def F_need_factor : Fn := runF 2 fb_need_factor
noncomputable def fb_lessened_by : FS := (fsSeq (fsDrop (fCall F_need_rule (faCons (fVar 0) faNil)))
    (fsSeq (fsDrop (fCall F_need_factor (faCons (fVar 0) (faCons (fVar 1) faNil))))
    (fsRet (fTup (faCons (fOp gIx (fVar 0) (fC (.int 0))) (faCons (fCall F_left_of (faCons (frz (fCall F_sums_of (faCons (fOp gIx (fVar 0) (fC (.int 1))) (faCons (fTup (faCons (fTup (faCons (fC (.int 0)) (faCons (fUn gNeg (fVar 1)) faNil))) faNil)) faNil)))) (faCons (fOp gIx (fVar 0) (fC (.int 0))) faNil))) faNil))))))
noncomputable def F_lessened_by : Fn := runF 2 fb_lessened_by
noncomputable def fb_ends_of : FS := (fsRet (fTup (faCons (fOp gIx (fOp gIx (fVar 0) (fC (.int 0))) (fC (.int 0))) (faCons (fOp gIx (fOp gIx (fVar 0) (fUn gNeg (fC (.int 1)))) (fC (.int 0))) faNil))))
noncomputable def F_ends_of : Fn := runF 1 fb_ends_of
noncomputable def fb_ends_lead_on : FS := (fsSeq (fsAsg 1 (fLc (fiSeq (frz (fCall F_primes_of (faCons (fOp gIx (fVar 0) (fC (.int 0))) faNil)))) (tgN 2) fYes (fCall F_by_prime (faCons (fVar 0) (faCons (fVar 2) faNil))) [2]))
    (fsSeq (fsIf (ftNot (fTr (fFn gAll (faCons (fVar 1) faNil)))) (fsRet (fC (.bool false))) fsNext)
    (fsSeq (fsAsg 3 (fCall F_ends_of (faCons (fOp gIx (fVar 0) (fC (.int 1))) faNil)))
    (fsRet (fAndV (fOp gLt (fOp gIx (fVar 3) (fC (.int 0))) (fOp gIx (fVar 3) (fC (.int 1)))) (fFn gAll (faCons (fLc (fiSeq (fVar 1)) (tgN 4) fYes (fOp gEq (fCall F_ends_of (faCons (fVar 4) faNil)) (fVar 3)) [4]) faNil)))))))
noncomputable def F_ends_lead_on : Fn := runF 5 fb_ends_lead_on
noncomputable def fb_told_by_values : FS := (fsSeq (fsAsg 2 (fCall F_lessened_by (faCons (fVar 0) (faCons (fVar 1) faNil))))
    (fsSeq (fsIf (ftNot (fTr (fCall F_ends_lead_on (faCons (fVar 2) faNil)))) fsNever fsNext)
    (fsRet (fVar 2))))
noncomputable def F_told_by_values : Fn := runF 3 fb_told_by_values
noncomputable def fb_free_weights : FS := (fsRet (fCall F_width_of (faCons (fCall F_told_by_values (faCons (fVar 0) (faCons (fVar 1) faNil))) faNil)))
noncomputable def F_free_weights : Fn := runF 2 fb_free_weights
noncomputable def fb_need_weights : FS := (fsSeq (fsAsg 3 (fCall F_told_by_values (faCons (fVar 0) (faCons (fVar 1) faNil))))
    (fsSeq (fsIf (ftNot (fTr (fCall F_is_remainders (faCons (fVar 2) (faCons (fCall F_width_of (faCons (fVar 3) faNil)) (faCons (fOp gIx (fVar 0) (fC (.int 0))) faNil)))))) fsNever fsNext)
    (fsRet (fVar 3))))
noncomputable def F_need_weights : Fn := runF 4 fb_need_weights
noncomputable def lb__wall_1 : FS := fsNext
noncomputable def fb__wall : FS := (fsWhile (fTr (fC (.bool true))) lb__wall_1)
noncomputable def F__wall : Fn := runF 1 fb__wall
noncomputable def fb_unlike_between : FS := (fsSeq (fsAsg 2 (fFn gTuple (faCons (fLc (fiSeq (fOp gIx (fVar 1) (fC (.int 1)))) (tgT [3, 4]) fYes (fTup (faCons (fVar 3) (faCons (fUn gNeg (fVar 4)) faNil))) [3, 4]) faNil)))
    (fsRet (fLcO (fiSeq (fCall F_left_of (faCons (frz (fCall F_sums_of (faCons (fOp gIx (fVar 0) (fC (.int 1))) (faCons (fVar 2) faNil)))) (faCons (fOp gIx (fVar 0) (fC (.int 0))) faNil)))) (tgT [3, 5]) fYes (fVar 3) [3, 5])))
noncomputable def F_unlike_between : Fn := runF 6 fb_unlike_between
noncomputable def fb_cell_of : FS := (fsRet (fGet (frz (fDict (fOp gIx (fVar 0) (fC (.int 1))))) (fVar 1) (fC (.int 0))))
noncomputable def F_cell_of : Fn := runF 2 fb_cell_of
noncomputable def fb_number_in : FS := (fsSeq (fsAsg 1 (fIf (fB (fOp gEq (fSl (fVar 0) fNo (fPart (fC (.int 1)))) (fC (.str "-")))) (fSl (fVar 0) (fPart (fC (.int 1))) fNo) (fVar 0)))
    (fsSeq (fsIf (ftOr (ftNot (fB (fChain gLe gLe (fC (.int 1)) (fFn gLen (faCons (fVar 1) faNil)) (fC (.int 60))))) (ftNot (fTr (fFn gAll (faCons (fLc (fiSeq (fVar 1)) (tgN 2) fYes (fOp gIn (fVar 2) (fC (.str "0123456789"))) [2]) faNil))))) (fsRet (fC .none)) fsNext)
    (fsRet (fFn gInt (faCons (fVar 0) faNil)))))
noncomputable def F_number_in : Fn := runF 3 fb_number_in
noncomputable def fb_state_of : FS := (fsRet (fTup (faCons (fLc (fiArgs gRange1 (faCons (fVar 2) faNil)) (tgN 4) fYes (fLc (fiSeq (fVar 0)) (tgN 5) fYes (fOp gIx (fVar 5) (fVar 4)) [5]) [4]) (faCons (fVar 1) (faCons (fVar 3) faNil)))))
noncomputable def F_state_of : Fn := runF 6 fb_state_of
noncomputable def fb_without : FS := (fsSeq (fsAsgT [2, 3, 4] (fVar 0))
    (fsSeq (fsAsg 5 (fLc (fiArgs gEnum (faCons (fOp gIx (fVar 2) (fVar 1)) faNil)) (tgT [6, 7]) (fTr (fVar 7)) (fVar 6) [6, 7]))
    (fsSeq (fsIf (ftNot (fTr (fVar 5))) (fsRet (fTup (faCons (fSl (fVar 2) (fPart (fOp gAdd (fVar 1) (fC (.int 1)))) fNo) (faCons (fVar 3) (faCons (fVar 4) faNil))))) fsNext)
    (fsSeq (fsAsg 8 (frz (fCall F_one_at (faCons (fOp gIx (fVar 2) (fVar 1)) (faCons (fOp gIx (fVar 5) (fC (.int 0))) (faCons (fVar 4) faNil))))))
    (fsSeq (fsAsg 9 (fLc (fiSeq (fSl (fVar 2) (fPart (fOp gAdd (fVar 1) (fC (.int 1)))) fNo)) (tgN 10) fYes (fCall F_cleared (faCons (fVar 10) (faCons (fVar 8) (faCons (fOp gIx (fVar 5) (fC (.int 0))) (faCons (fVar 4) faNil))))) [10]))
    (fsRet (fTup (faCons (fVar 9) (faCons (fCall F_cleared (faCons (fVar 3) (faCons (fVar 8) (faCons (fOp gIx (fVar 5) (fC (.int 0))) (faCons (fVar 4) faNil))))) (faCons (fVar 4) faNil))))))))))
noncomputable def F_without : Fn := runF 11 fb_without
noncomputable def fb_integer_in : FS := (fsSeq (fsAsg 1 (fCall F_number_in (faCons (fVar 0) faNil)))
    (fsRet (fIf (fB (fOp gEq (fFn gStr (faCons (fVar 1) faNil)) (fVar 0))) (fVar 1) (fC .none))))
noncomputable def F_integer_in : Fn := runF 2 fb_integer_in
end NA

namespace NA
open PySem PySem.Spec PyProof.Rows L2 DL FL RF
local macro_rules | `(tactic| walk_at "fl") => `(tactic| simp only [ap_var, ap_c, ap_un, ap_unV, ap_op, ap_opO, ap_fn, ap_nil, ap_cons, ap_tr, ap_b, ap_tand, ap_tor, ap_tnot, ap_and, ap_or, ap_not, ap_if, ap_chain, ap_tup, ap_lst, ap_lstO, ap_dictO, ap_frz, ap_sl, ap_no, ap_part, ap_mut, ap_call, ap_callK, ap_get, ap_dict, ap_isi, ap_rep, ap_listO, ap_seq, ap_iargs, ap_lc, ap_lcO, ap_yes, ap_sq, ap_ret, ap_drop, ap_sif, ap_nx, ap_bk, ap_ct, ap_asg, ap_setR, ap_runT, ap_bb0, ap_bbs, ap_bbn, ap_bbd, ap_bbc, ap_bbb, ap_sfrz, ap_setI, ap_setK, ap_for, ap_par, ap_asgT, ap_run, ap_see, ap_seeo, ap_seer, ap_getC, ap_setC, ap_sees0, ap_sees1, ap_parN, ap_view, ap_frza0, ap_frza, ap_frzc, ap_frzb, ap_frzd, ap_frzn, ap_call1, ap_c1o, ap_sar0, ap_sar1, ap_frv, ap_fro, ap_tgN, ap_tgT, fin_val, fin_own, fin_ref, fin_nx, bors_nil, bors_d, bors_b, R.bind_ok, ofO_some, ofB_some, ofOL_list, seeV, frV, vals, setAllF, wipeF, restF, callR, refsOf, argVs, putBack, setR2, setI, setK, ap_glt, ap_gle, ap_ggt, ap_gge, ap_gsub, ap_gadd, ap_gneg, ap_gix, ap_cutl, ap_cutt, ap_gtup, ap_glist, ap_glen, ap_gint, ap_gintb, ap_gabs, ap_gmax, ap_gmin, ap_isN, ap_notN, ap_geq, ap_gne, ap_eqi, ap_eqb, ap_eqs, ap_iol, ap_iot, ap_gtn, ap_gtb, ap_gti, ap_gtl, ap_gtt, ap_isn0, ap_isni, ap_isnl, ap_isnt, ap_revl, ap_revt, ap_enum, ap_zipl, ap_zipt, intsOf_map, boolsOf_map, ap_cellL, startF, List.map_cons, List.map_nil, List.length_cons, List.length_nil, List.replicate_succ, List.replicate_zero, List.cons_append, List.nil_append, List.append_nil, List.getElem?_cons_zero, List.getElem?_cons_succ, List.getElem?_nil, List.set_cons_zero, List.set_cons_succ, List.set_nil, Option.map_some, Option.map_none, Option.bind_some, Option.bind_none, Nat.reduceSub, Nat.reduceAdd, if_true, if_false, Bool.false_eq_true, reduceIte, true_and, and_true, Nat.sub_zero, Nat.zero_add, reduceCtorEq, List.nodup_nil, List.nodup_cons, List.not_mem_nil, not_false_eq_true, and_self, Bool.not_true, Bool.not_false, Bool.not_not, decide_true, decide_false, Nat.reduceLeDiff, atI0, atI1, req_true])
/-! ### what is told -/
abbrev Tm := RF.Tm
def mods : List Int := [2, 3, 5, 6, 7, 10, 11, 13, 14, 15]
def primesOf (m : Int) : List Int := [2, 3, 5, 7, 11, 13].filter fun p => decide (m % p = 0)
def pr (p : Int × Int) : PyData := .tuple [.int p.1, .int p.2]
def tm (a : Tm) : PyData := .tuple (a.map pr)
/-- rules and finite rows -/
def rule (m : Int) (a : Tm) : PyData := .tuple [.int m, tm a]
def iv (l : List Int) : List PyData := l.map .int
/-- round rows -/
def rnd (m : Int) (vs : List Int) : PyData := .tuple [.int m, .tuple (iv vs)]
def isNum : PyData → Bool
  | .int _ => true
  | _ => false
def isWithin (a b : Int) : PyData → Bool
  | .int i => decide (a ≤ i) && decide (i ≤ b)
  | _ => false
def isTwo : PyData → Bool
  | .tuple xs => decide (xs.length = 2)
  | _ => false
def isI : PyData → Bool
  | .int _ => true
  | .bool _ => true
  | _ => false
def isB : PyData → Bool
  | .bool _ => true
  | _ => false
def isT : PyData → Bool
  | .tuple _ => true
  | _ => false
def isL : PyData → Bool
  | .list _ => true
  | _ => false
theorem kI : ∀ d, (kitB (kindOf d) "int").getD false = isI d
  | .none => (by decide +kernel : (kitB "NoneType" "int").getD false = false)
  | .bool _ => (by decide +kernel : (kitB "bool" "int").getD false = true)
  | .int _ => (by decide +kernel : (kitB "int" "int").getD false = true)
  | .str _ => (by decide +kernel : (kitB "str" "int").getD false = false)
  | .list _ => (by decide +kernel : (kitB "list" "int").getD false = false)
  | .tuple _ => (by decide +kernel : (kitB "tuple" "int").getD false = false)
  | .dict _ => (by decide +kernel : (kitB "dict" "int").getD false = false)
theorem kB : ∀ d, (kitB (kindOf d) "bool").getD false = isB d
  | .none => (by decide +kernel : (kitB "NoneType" "bool").getD false = false)
  | .bool _ => (by decide +kernel : (kitB "bool" "bool").getD false = true)
  | .int _ => (by decide +kernel : (kitB "int" "bool").getD false = false)
  | .str _ => (by decide +kernel : (kitB "str" "bool").getD false = false)
  | .list _ => (by decide +kernel : (kitB "list" "bool").getD false = false)
  | .tuple _ => (by decide +kernel : (kitB "tuple" "bool").getD false = false)
  | .dict _ => (by decide +kernel : (kitB "dict" "bool").getD false = false)
theorem kT : ∀ d, (kitB (kindOf d) "tuple").getD false = isT d
  | .none => (by decide +kernel : (kitB "NoneType" "tuple").getD false = false)
  | .bool _ => (by decide +kernel : (kitB "bool" "tuple").getD false = false)
  | .int _ => (by decide +kernel : (kitB "int" "tuple").getD false = false)
  | .str _ => (by decide +kernel : (kitB "str" "tuple").getD false = false)
  | .list _ => (by decide +kernel : (kitB "list" "tuple").getD false = false)
  | .tuple _ => (by decide +kernel : (kitB "tuple" "tuple").getD false = true)
  | .dict _ => (by decide +kernel : (kitB "dict" "tuple").getD false = false)
theorem kL : ∀ d, (kitB (kindOf d) "list").getD false = isL d
  | .none => (by decide +kernel : (kitB "NoneType" "list").getD false = false)
  | .bool _ => (by decide +kernel : (kitB "bool" "list").getD false = false)
  | .int _ => (by decide +kernel : (kitB "int" "list").getD false = false)
  | .str _ => (by decide +kernel : (kitB "str" "list").getD false = false)
  | .list _ => (by decide +kernel : (kitB "list" "list").getD false = true)
  | .tuple _ => (by decide +kernel : (kitB "tuple" "list").getD false = false)
  | .dict _ => (by decide +kernel : (kitB "dict" "list").getD false = false)
/-! ### what is what -/
theorem e_is_number (v : PyData) : F_is_number [.d v] = tell (.bool (isNum v)) := by
  unfold F_is_number fb_is_number
  walk_at "fl"
  rw [kI, kB]
  cases v <;> rfl
theorem e_is_within (v : PyData) (a b : Int) : F_is_within [.d v, .d (.int a), .d (.int b)] = tell (.bool (isWithin a b v)) := by
  unfold F_is_within fb_is_within
  walk_at "fl"
  rw [e_is_number]
  walk_at "fl"
  cases v with
  | int i =>
    simp only [isNum, isWithin]
    walk_at "fl"
    by_cases h : a ≤ i <;> simp only [h, decide_true, decide_false, Bool.true_and, Bool.false_and] <;> walk_at "fl"
  | _ => rfl
theorem e_is_two (v : PyData) : F_is_two [.d v] = tell (.bool (isTwo v)) := by
  unfold F_is_two fb_is_two
  walk_at "fl"
  rw [kT]
  cases v with
  | tuple xs =>
    have e : decide ((xs.length : Int) = 2) = decide (xs.length = 2) := by rw [Bool.eq_iff_iff]; simp; omega
    simp only [isT, isTwo]
    walk_at "fl"
    rw [e]
  | _ => rfl
/-- ascending -/
def asc : List Int → Bool
  | x :: y :: r => decide (x < y) && asc (y :: r)
  | _ => true
theorem asc_zip : ∀ ns : List Int, (zipD (iv ns) (iv (ns.drop 1))).map (fun d => match d with
    | .tuple [.int a, .int b] => PyData.bool (decide (a < b))
    | _ => .none) = ((ns.zip (ns.drop 1)).map fun p => decide (p.1 < p.2)).map .bool
  | [] => rfl
  | [x] => rfl
  | x :: y :: r => by
    have ih := asc_zip (y :: r)
    simp only [iv, List.map_cons, List.drop_succ_cons, List.drop_zero, zipD, List.zip_cons_cons] at ih ⊢
    rw [ih]
theorem asc_all : ∀ ns : List Int, (((ns.zip (ns.drop 1)).map fun p => decide (p.1 < p.2)).all id) = asc ns
  | [] => rfl
  | [x] => rfl
  | x :: y :: r => by
    have ih := asc_all (y :: r)
    simp only [List.drop_succ_cons, List.drop_zero, List.zip_cons_cons, List.map_cons, List.all_cons, id, asc] at ih ⊢
    rw [ih]
theorem zipD_len : ∀ xs ys : List PyData, (zipD xs ys).length ≤ xs.length
  | [], _ => by simp [zipD]
  | _ :: _, [] => by simp [zipD]
  | x :: xs, y :: ys => by simp [zipD, zipD_len xs ys]
theorem zip_mem : ∀ (xs ys : List PyData) (d : PyData), d ∈ zipD xs ys → ∃ x y, x ∈ xs ∧ y ∈ ys ∧ d = .tuple [x, y]
  | x :: xs, y :: ys, d, h => by
    rcases List.mem_cons.mp h with e | h
    · exact ⟨x, y, List.mem_cons_self, List.mem_cons_self, e⟩
    · obtain ⟨a, b, h1, h2, h3⟩ := zip_mem xs ys d h
      exact ⟨a, b, List.mem_cons_of_mem _ h1, List.mem_cons_of_mem _ h2, h3⟩
  | [], _, _, h => by simp [zipD] at h
  | _ :: _, [], _, h => by simp [zipD] at h
theorem cut1 (xs : List PyData) : DL.cutD xs (some 1) none = xs.drop 1 := by
  unfold DL.cutD HT.sIx
  cases xs with
  | nil => rfl
  | cons x xs => simp
theorem iv_mem {l : List Int} {d : PyData} (h : d ∈ iv l) : ∃ i ∈ l, d = .int i := by
  obtain ⟨i, hi, e⟩ := List.mem_map.mp h
  exact ⟨i, hi, e.symm⟩
theorem e_ascends (ns : List Int) (hl : ns.length ≤ 900000) : F_ascends [.d (.list (iv ns))] = tell (.bool (asc ns)) := by
  unfold F_ascends fb_ascends
  walk_at "fl"
  rw [cut1]
  have e : (iv ns).drop 1 = iv (ns.drop 1) := by simp [iv]
  rw [e, lc_all (fun d => match d with
    | .tuple [.int a, .int b] => PyData.bool (decide (a < b))
    | _ => .none) (Nat.le_trans (zipD_len _ _) (by simp [iv]; omega)), asc_zip]
  · walk_at "fl"
    simp only [gAll]
    walk_at "fl"
    rw [asc_all]
  · intro d hd
    obtain ⟨x, y, hx, hy, rfl⟩ := zip_mem _ _ _ hd
    obtain ⟨i, _, rfl⟩ := iv_mem hx
    obtain ⟨j, _, rfl⟩ := iv_mem hy
    refine ⟨_, rfl, ?_, ?_⟩
    · walk_at "fl"
    · walk_at "fl"
theorem asc_cn {a : Tm} (h : a.Pairwise fun p q => p.1 < q.1) : asc (a.map (·.1)) = true := by
  induction a with
  | nil => rfl
  | cons p a ih =>
    cases a with
    | nil => rfl
    | cons q a =>
      rw [List.pairwise_cons] at h
      simp only [List.map_cons, asc, Bool.and_eq_true, decide_eq_true_eq] at ih ⊢
      exact ⟨h.1 q List.mem_cons_self, ih h.2⟩
end NA

namespace NA
open PySem PySem.Spec PyProof.Rows L2 DL FL RF
local macro_rules | `(tactic| walk_at "fl") => `(tactic| simp only [ap_var, ap_c, ap_un, ap_unV, ap_op, ap_opO, ap_fn, ap_nil, ap_cons, ap_tr, ap_b, ap_tand, ap_tor, ap_tnot, ap_and, ap_or, ap_not, ap_if, ap_chain, ap_tup, ap_lst, ap_lstO, ap_dictO, ap_frz, ap_sl, ap_no, ap_part, ap_mut, ap_call, ap_callK, ap_get, ap_dict, ap_isi, ap_rep, ap_listO, ap_seq, ap_iargs, ap_lc, ap_lcO, ap_yes, ap_sq, ap_ret, ap_drop, ap_sif, ap_nx, ap_bk, ap_ct, ap_asg, ap_setR, ap_runT, ap_bb0, ap_bbs, ap_bbn, ap_bbd, ap_bbc, ap_bbb, ap_sfrz, ap_setI, ap_setK, ap_for, ap_par, ap_asgT, ap_run, ap_see, ap_seeo, ap_seer, ap_getC, ap_setC, ap_sees0, ap_sees1, ap_parN, ap_view, ap_frza0, ap_frza, ap_frzc, ap_frzb, ap_frzd, ap_frzn, ap_call1, ap_c1o, ap_sar0, ap_sar1, ap_frv, ap_fro, ap_tgN, ap_tgT, fin_val, fin_own, fin_ref, fin_nx, bors_nil, bors_d, bors_b, R.bind_ok, ofO_some, ofB_some, ofOL_list, seeV, frV, vals, setAllF, wipeF, restF, callR, refsOf, argVs, putBack, setR2, setI, setK, ap_glt, ap_gle, ap_ggt, ap_gge, ap_gsub, ap_gadd, ap_gneg, ap_gix, ap_cutl, ap_cutt, ap_gtup, ap_glist, ap_glen, ap_gint, ap_gintb, ap_gabs, ap_gmax, ap_gmin, ap_isN, ap_notN, ap_geq, ap_gne, ap_eqi, ap_eqb, ap_eqs, ap_iol, ap_iot, ap_gtn, ap_gtb, ap_gti, ap_gtl, ap_gtt, ap_isn0, ap_isni, ap_isnl, ap_isnt, ap_revl, ap_revt, ap_enum, ap_zipl, ap_zipt, intsOf_map, boolsOf_map, ap_cellL, startF, List.map_cons, List.map_nil, List.length_cons, List.length_nil, List.replicate_succ, List.replicate_zero, List.cons_append, List.nil_append, List.append_nil, List.getElem?_cons_zero, List.getElem?_cons_succ, List.getElem?_nil, List.set_cons_zero, List.set_cons_succ, List.set_nil, Option.map_some, Option.map_none, Option.bind_some, Option.bind_none, Nat.reduceSub, Nat.reduceAdd, if_true, if_false, Bool.false_eq_true, reduceIte, true_and, and_true, Nat.sub_zero, Nat.zero_add, reduceCtorEq, List.nodup_nil, List.nodup_cons, List.not_mem_nil, not_false_eq_true, and_self, Bool.not_true, Bool.not_false, Bool.not_not, decide_true, decide_false, Nat.reduceLeDiff, atI0, atI1, req_true])
/-- a rule, a finite row -/
structure Ok (m : Int) (a : Tm) : Prop where
  mo : m ∈ mods
  cn : Cn m a
  len : a.length ≤ 900000
theorem modsB {m : Int} (h : m ∈ mods) : 2 ≤ m ∧ m ≤ 15 := by
  simp only [mods, List.mem_cons, List.not_mem_nil, or_false] at h
  omega
theorem firsts (a : Tm) : (a.map pr).map (fun d => match d with
    | .tuple (x :: _) => x
    | _ => .none) = iv (a.map (·.1)) := by
  simp [iv, pr, Function.comp_def]
theorem all_true (l : List PyData) : boolsOf (l.map fun _ => PyData.bool true) = some (l.map fun _ => true) := by
  have := boolsOf_map (l.map fun _ => true)
  rwa [List.map_map] at this
theorem gAll_true (l : List PyData) : gAll [.list (l.map fun _ => PyData.bool true)] = some (.bool true) := by
  simp only [gAll, all_true, Option.map_some]
  congr 2
  simp
theorem pr_mem {a : Tm} {d : PyData} (h : d ∈ a.map pr) : ∃ p ∈ a, d = .tuple [.int p.1, .int p.2] := by
  obtain ⟨p, hp, e⟩ := List.mem_map.mp h
  exact ⟨p, hp, e.symm⟩
theorem two_d {x y : PyData} : isTwo (.tuple [x, y]) = true := rfl
theorem e_is_pairs {m : Int} {a : Tm} (c : Cn m a) (hl : a.length ≤ 900000) : F_is_pairs [.d (tm a), .d (.int m)] = tell (.bool true) := by
  unfold F_is_pairs fb_is_pairs tm
  walk_at "fl"
  rw [kT]
  simp only [isT]
  walk_at "fl"
  rw [lc_all (fun _ => .bool true) (by simp; omega)]
  · walk_at "fl"
    rw [gAll_true]
    walk_at "fl"
    rw [lc_all (fun d => match d with
      | .tuple (x :: _) => x
      | _ => .none) (by simp; omega), firsts]
    · walk_at "fl"
      rw [e_ascends _ (by simp; omega), asc_cn c.so]
      walk_at "fl"
    · intro d hd
      obtain ⟨p, _, rfl⟩ := pr_mem hd
      exact ⟨_, rfl, by walk_at "fl", by walk_at "fl"⟩
  · intro d hd
    obtain ⟨p, hp, rfl⟩ := pr_mem hd
    refine ⟨_, rfl, by walk_at "fl", ?_⟩
    have hv := c.vl p hp
    repeat first | simp only [e_is_two, e_is_number, e_is_within, two_d, isNum, isWithin] | walk_at "fl"
    have e1 : decide (1 ≤ p.2) = true := decide_eq_true (by omega)
    have e2 : decide (p.2 ≤ m - 1) = true := decide_eq_true (by omega)
    rw [e1, e2]
    rfl
theorem e_is_modulus {m : Int} (h : m ∈ mods) : F_is_modulus [.d (.int m)] = tell (.bool true) := by
  unfold F_is_modulus fb_is_modulus
  repeat first | simp only [e_is_number, isNum, gInK] | walk_at "fl"
  have : m ∈ [2, 3, 5, 6, 7, 10, 11, 13, 14, 15] := h
  simp only [this]
  walk_at "fl"
theorem e_has_modulus {m : Int} {x : PyData} (h : m ∈ mods) : F_has_modulus [.d (.tuple [.int m, x])] = tell (.bool true) := by
  unfold F_has_modulus fb_has_modulus
  repeat first | simp only [e_is_two, two_d, e_is_modulus h] | walk_at "fl"
theorem e_is_rule {m : Int} {a : Tm} (h : Ok m a) : F_is_rule [.d (rule m a)] = tell (.bool true) := by
  unfold F_is_rule fb_is_rule rule
  repeat first | simp only [e_has_modulus h.mo, e_is_pairs h.cn h.len] | walk_at "fl"
theorem e_is_row {m : Int} {a : Tm} (h : Ok m a) : F_is_row [.d (rule m a)] = tell (.bool true) := by
  unfold F_is_row fb_is_row rule
  repeat first | simp only [e_has_modulus h.mo, e_is_pairs h.cn h.len] | walk_at "fl"
/-- a round row -/
structure Rnd (m : Int) (vs : List Int) : Prop where
  mo : m ∈ mods
  ne : vs ≠ []
  rg : ∀ v ∈ vs, 0 ≤ v ∧ v < m
  len : vs.length ≤ 900000
theorem e_is_round {m : Int} {vs : List Int} (h : Rnd m vs) : F_is_round [.d (rnd m vs)] = tell (.bool true) := by
  unfold F_is_round fb_is_round rnd
  repeat first | simp only [e_has_modulus h.mo] | walk_at "fl"
  rw [kT]
  simp only [isT]
  walk_at "fl"
  have e : decide ((0 : Int) < ((iv vs).length : Int)) = true := decide_eq_true (by
    have := h.ne
    cases vs with
    | nil => exact (this rfl).elim
    | cons x r => simp [iv] <;> omega)
  rw [e]
  walk_at "fl"
  rw [lc_all (fun _ => .bool true) (by have := h.len; simp [iv]; omega)]
  · walk_at "fl"
    rw [gAll_true]
    walk_at "fl"
  · intro d hd
    obtain ⟨i, hi, rfl⟩ := iv_mem hd
    refine ⟨_, rfl, by walk_at "fl", ?_⟩
    have hv := h.rg i hi
    repeat first | simp only [e_is_within, isWithin] | walk_at "fl"
    rw [decide_eq_true (show (0 : Int) ≤ i from hv.1), decide_eq_true (show i ≤ m - 1 by omega)]
    rfl
theorem e_need_rule {m : Int} {a : Tm} (h : Ok m a) : F_need_rule [.d (rule m a)] = tell .none := by
  unfold F_need_rule fb_need_rule
  repeat first | simp only [e_is_rule h] | walk_at "fl"
theorem e_need_row {m : Int} {a : Tm} (h : Ok m a) : F_need_row [.d (rule m a)] = tell .none := by
  unfold F_need_row fb_need_row
  repeat first | simp only [e_is_row h] | walk_at "fl"
theorem e_need_round {m : Int} {vs : List Int} (h : Rnd m vs) : F_need_round [.d (rnd m vs)] = tell .none := by
  unfold F_need_round fb_need_round
  repeat first | simp only [e_is_round h] | walk_at "fl"
theorem e_need_same {m : Int} {x y : PyData} : F_need_same [.d (.tuple [.int m, x]), .d (.tuple [.int m, y])] = tell .none := by
  unfold F_need_same fb_need_same
  walk_at "fl"
theorem e_need_rules {m : Int} {a b : Tm} (h : Ok m a) (g : Ok m b) : F_need_rules [.d (rule m a), .d (rule m b)] = tell .none := by
  unfold F_need_rules fb_need_rules
  repeat first | simp only [e_need_rule h, e_need_rule g] | walk_at "fl"
  simp only [rule, e_need_same]
  walk_at "fl"
theorem e_still {m : Int} (h : m ∈ mods) : F_still [.d (.int m)] = tell (rule m [(0, 1)]) := by
  unfold F_still fb_still
  repeat first | simp only [e_is_modulus h] | walk_at "fl"
  rfl
theorem lkp_mods : ∀ m ∈ mods, lkp [(2, [2]), (3, [3]), (5, [5]), (6, [2, 3]), (7, [7]), (10, [2, 5]), (11, [11]), (13, [13]), (14, [2, 7]), (15, [3, 5])] m = some (primesOf m) := by decide
theorem e_primes_of {m : Int} (h : m ∈ mods) : F_primes_of [.d (.int m)] = .ok (.own (.lst (iv (primesOf m)))) [] := by
  unfold F_primes_of fb_primes_of
  repeat first | simp only [e_is_modulus h] | walk_at "fl"
  simp only [gIxK, lkp_mods m h]
  walk_at "fl"
  rfl
end NA

namespace NA
open PySem PySem.Spec PyProof.Rows L2 DL FL RF
local macro_rules | `(tactic| walk_at "fl") => `(tactic| simp only [ap_var, ap_c, ap_un, ap_unV, ap_op, ap_opO, ap_fn, ap_nil, ap_cons, ap_tr, ap_b, ap_tand, ap_tor, ap_tnot, ap_and, ap_or, ap_not, ap_if, ap_chain, ap_tup, ap_lst, ap_lstO, ap_dictO, ap_frz, ap_sl, ap_no, ap_part, ap_mut, ap_call, ap_callK, ap_get, ap_dict, ap_isi, ap_rep, ap_listO, ap_seq, ap_iargs, ap_lc, ap_lcO, ap_yes, ap_sq, ap_ret, ap_drop, ap_sif, ap_nx, ap_bk, ap_ct, ap_asg, ap_setR, ap_runT, ap_bb0, ap_bbs, ap_bbn, ap_bbd, ap_bbc, ap_bbb, ap_sfrz, ap_setI, ap_setK, ap_for, ap_par, ap_asgT, ap_run, ap_see, ap_seeo, ap_seer, ap_getC, ap_setC, ap_sees0, ap_sees1, ap_parN, ap_view, ap_frza0, ap_frza, ap_frzc, ap_frzb, ap_frzd, ap_frzn, ap_call1, ap_c1o, ap_sar0, ap_sar1, ap_frv, ap_fro, ap_tgN, ap_tgT, fin_val, fin_own, fin_ref, fin_nx, bors_nil, bors_d, bors_b, R.bind_ok, ofO_some, ofB_some, ofOL_list, seeV, frV, vals, setAllF, wipeF, restF, callR, refsOf, argVs, putBack, setR2, setI, setK, ap_glt, ap_gle, ap_ggt, ap_gge, ap_gsub, ap_gadd, ap_gneg, ap_gix, ap_cutl, ap_cutt, ap_gtup, ap_glist, ap_glen, ap_gint, ap_gintb, ap_gabs, ap_gmax, ap_gmin, ap_isN, ap_notN, ap_geq, ap_gne, ap_eqi, ap_eqb, ap_eqs, ap_iol, ap_iot, ap_gtn, ap_gtb, ap_gti, ap_gtl, ap_gtt, ap_isn0, ap_isni, ap_isnl, ap_isnt, ap_revl, ap_revt, ap_enum, ap_zipl, ap_zipt, intsOf_map, boolsOf_map, ap_cellL, startF, List.map_cons, List.map_nil, List.length_cons, List.length_nil, List.replicate_succ, List.replicate_zero, List.cons_append, List.nil_append, List.append_nil, List.getElem?_cons_zero, List.getElem?_cons_succ, List.getElem?_nil, List.set_cons_zero, List.set_cons_succ, List.set_nil, Option.map_some, Option.map_none, Option.bind_some, Option.bind_none, Nat.reduceSub, Nat.reduceAdd, if_true, if_false, Bool.false_eq_true, reduceIte, true_and, and_true, Nat.sub_zero, Nat.zero_add, reduceCtorEq, List.nodup_nil, List.nodup_cons, List.not_mem_nil, not_false_eq_true, and_self, Bool.not_true, Bool.not_false, Bool.not_not, decide_true, decide_false, Nat.reduceLeDiff, atI0, atI1, req_true])
/-! ### draws -/
/-- what is drawn from -/
def Pot (n : Nat) (c : Cell) : Prop := ∃ a b k : Int, c = .lst [.int a, .int b, .int k] ∧ 0 ≤ b ∧ b < 10 ^ 30 ∧ 0 ≤ k ∧ k ≤ n
theorem Pot.mono {n m : Nat} {c : Cell} (h : Pot n c) (hl : n ≤ m) : Pot m c := by
  obtain ⟨a, b, k, h0, h1, h2, h3, h4⟩ := h
  exact ⟨a, b, k, h0, h1, h2, h3, by omega⟩
theorem ix0 {a b c : PyData} : atI [a, b, c] 0 = some a := atI0
theorem ix1 {a b c : PyData} : atI [a, b, c] 1 = some b := atI1
theorem ix2 {a b c : PyData} : atI [a, b, c] 2 = some c := (show atI [a, b, c] ((2 : Nat) : Int) = some c from atI_nat rfl)
theorem jx0 {n : Nat} (h : n = 3) : ixN n 0 = some 0 := h ▸ (by decide : ixN 3 0 = some 0)
theorem jx2 {n : Nat} (h : n = 3) : ixN n 2 = some 2 := h ▸ (by decide : ixN 3 2 = some 2)
theorem pw (k : Nat) (h : k ≤ 1000) : CPowB 10 (k : Int) := powB (k := 4) (by omega) (by decide) (by omega)
theorem gI_pos {C : Int → Int → Prop} {g : Int → Int → PyData} {i j : Int} (h : C i j) : gI C g (.int i) (.int j) = some (g i j) := req_pos h
theorem g_mod {i j : Int} (h : 0 < j) : FL.gMod (.int i) (.int j) = some (.int (i % j)) := gI_pos (C := fun _ j => 0 < j) h
theorem g_fdiv {i j : Int} (h : CDivW i j) : FL.gFdiv (.int i) (.int j) = some (.int (i / j)) := gI_pos h
theorem g_pow {i j : Int} (h : CPowB i j) : FL.gPow (.int i) (.int j) = some (.int (i ^ j.toNat)) := gI_pos h
theorem g_mul {i j : Int} (h : Bits i j) : FL.gMul (.int i) (.int j) = some (.int (i * j)) := gI_pos h
theorem g_add {i j : Int} : FL.gAdd (.int i) (.int j) = some (.int (i + j)) := rfl
theorem e_pick {c : Cell} {n : Nat} {many : Int} (h : Pot n c) (h1 : 1 ≤ many) (h2 : many ≤ 10 ^ 60) (hn : n ≤ 1000000) :
    ∃ r c', F__law_pick [.b c, .d (.int many)] = .ok (.val (.int r)) [c'] ∧ 0 ≤ r ∧ r < many ∧ Pot (n + 1) c' := by
  obtain ⟨a, b, k, rfl, hb0, hb1, hc0, hc1⟩ := h
  unfold F__law_pick fb__law_pick
  have j0 : ixN [PyData.int a, PyData.int b, PyData.int k].length 0 = some 0 := jx0 rfl
  have hm : (0 : Int) < many := by omega
  by_cases ha : 0 < a
  · refine ⟨a % many, _, ?_, Int.emod_nonneg _ (by omega), Int.emod_lt_of_pos _ hm, ⟨a / many, b, k, rfl, hb0, hb1, hc0, by omega⟩⟩
    repeat first | simp only [ix0, ha, decide_true, g_mod hm, g_fdiv (divW hm (Int.lt_of_le_of_lt h2 (by decide)) _), jx0] | walk_at "fl"
  · have e1 : (0 : Int) < 10 ^ (28 : Int).toNat + 331 := by decide
    have e2 : (0 : Int) < 10 ^ (26 : Int).toNat + 67 := by decide
    have k1 : Bits 773741389 (k + 1) := Bits.of (a := 30) (b := 30) (by decide) (bits_le (by omega)) (by decide)
    have k2 : CPowB (b + 773741389 * (k + 1)) 3 := powB (k := 120) (by decide) (bits_le (by have : b < 2 ^ 110 := Int.lt_of_lt_of_le hb1 (by decide); omega)) (by decide)
    have k3 : Bits 11 (k + 1) := Bits.of (a := 4) (b := 30) (by decide) (bits_le (by omega)) (by decide)
    have k4 : Bits 5413 (k + 1) := Bits.of (a := 13) (b := 30) (by decide) (bits_le (by omega)) (by decide)
    generalize hx : ((b + 773741389 * (k + 1)) ^ (3 : Int).toNat + 11 * (k + 1)) % (10 ^ (28 : Int).toNat + 331) = x
    have x0 : 0 ≤ x := by rw [← hx]; exact Int.emod_nonneg _ (by decide)
    have x1 : x < 2 ^ 100 := by rw [← hx]; exact Int.lt_of_lt_of_le (Int.emod_lt_of_pos _ e1) (by decide)
    have k5 : Bits x (x + 5413 * (k + 1)) := Bits.of (a := 100) (b := 120) (bits_le (by omega)) (bits_le (by omega)) (by decide)
    refine ⟨x * (x + 5413 * (k + 1)) % (10 ^ (26 : Int).toNat + 67) / 7331 % many, _, ?_, Int.emod_nonneg _ (by omega), Int.emod_lt_of_pos _ hm, ⟨a, b, k + 1, rfl, hb0, hb1, by omega, by omega⟩⟩
    repeat first | simp only [ix0, ix1, ix2, ha, decide_false, g_add, g_mul k1, g_pow k2, g_mul k3, g_pow (show CPowB 10 28 from pw 28 (by decide)), g_mod e1, hx, g_mul k4, g_mul k5, g_pow (show CPowB 10 26 from pw 26 (by decide)), g_mod e2, g_fdiv (divW (j := 7331) (by decide) (by decide) _), g_mod hm, jx2] | walk_at "fl"
end NA

namespace NA
open PySem PySem.Spec PyProof.Rows L2 DL FL RF
local macro_rules | `(tactic| walk_at "fl") => `(tactic| simp only [ap_var, ap_c, ap_un, ap_unV, ap_op, ap_opO, ap_fn, ap_nil, ap_cons, ap_tr, ap_b, ap_tand, ap_tor, ap_tnot, ap_and, ap_or, ap_not, ap_if, ap_chain, ap_tup, ap_lst, ap_lstO, ap_dictO, ap_frz, ap_sl, ap_no, ap_part, ap_mut, ap_call, ap_callK, ap_get, ap_dict, ap_isi, ap_rep, ap_listO, ap_seq, ap_iargs, ap_lc, ap_lcO, ap_yes, ap_sq, ap_ret, ap_drop, ap_sif, ap_nx, ap_bk, ap_ct, ap_asg, ap_setR, ap_runT, ap_bb0, ap_bbs, ap_bbn, ap_bbd, ap_bbc, ap_bbb, ap_sfrz, ap_setI, ap_setK, ap_for, ap_par, ap_asgT, ap_run, ap_see, ap_seeo, ap_seer, ap_getC, ap_setC, ap_sees0, ap_sees1, ap_parN, ap_view, ap_frza0, ap_frza, ap_frzc, ap_frzb, ap_frzd, ap_frzn, ap_call1, ap_c1o, ap_sar0, ap_sar1, ap_frv, ap_fro, ap_tgN, ap_tgT, fin_val, fin_own, fin_ref, fin_nx, bors_nil, bors_d, bors_b, R.bind_ok, ofO_some, ofB_some, ofOL_list, seeV, frV, vals, setAllF, wipeF, restF, callR, refsOf, argVs, putBack, setR2, setI, setK, ap_glt, ap_gle, ap_ggt, ap_gge, ap_gsub, ap_gadd, ap_gneg, ap_gix, ap_cutl, ap_cutt, ap_gtup, ap_glist, ap_glen, ap_gint, ap_gintb, ap_gabs, ap_gmax, ap_gmin, ap_isN, ap_notN, ap_geq, ap_gne, ap_eqi, ap_eqb, ap_eqs, ap_iol, ap_iot, ap_gtn, ap_gtb, ap_gti, ap_gtl, ap_gtt, ap_isn0, ap_isni, ap_isnl, ap_isnt, ap_revl, ap_revt, ap_enum, ap_zipl, ap_zipt, intsOf_map, boolsOf_map, ap_cellL, startF, List.map_cons, List.map_nil, List.length_cons, List.length_nil, List.replicate_succ, List.replicate_zero, List.cons_append, List.nil_append, List.append_nil, List.getElem?_cons_zero, List.getElem?_cons_succ, List.getElem?_nil, List.set_cons_zero, List.set_cons_succ, List.set_nil, Option.map_some, Option.map_none, Option.bind_some, Option.bind_none, Nat.reduceSub, Nat.reduceAdd, if_true, if_false, Bool.false_eq_true, reduceIte, true_and, and_true, Nat.sub_zero, Nat.zero_add, reduceCtorEq, List.nodup_nil, List.nodup_cons, List.not_mem_nil, not_false_eq_true, and_self, Bool.not_true, Bool.not_false, Bool.not_not, decide_true, decide_false, Nat.reduceLeDiff, atI0, atI1, req_true])
/-- what is so of an answer -/
def Told (P : FR → List Cell → Prop) : FO → Prop
  | .ok r bs => P r bs
  | _ => False
theorem told_ex {P : FR → List Cell → Prop} {o : FO} (h : Told P o) : ∃ r bs, o = .ok r bs ∧ P r bs := by
  cases o with
  | ok r bs => exact ⟨r, bs, rfl, h⟩
  | no => exact h.elim
  | ex _ _ => exact h.elim
/-! ### comprehensions that draw -/
theorem lc_rel {gf : GF} {tt : FTT} {fe : FT} {vs : List Nat} (I : Nat → FSt → Prop) (P : PyData → PyData → Prop) (B N : Nat) : ∀ (ds acc : List PyData) (n : Nat) (ε : FSt), acc.length + ds.length ≤ 1000000 → n + B * ds.length ≤ N → I n ε →
    (∀ d ∈ ds, ∀ n ε, I n ε → n + B ≤ N → ∃ ε1 ε0 y ε2, gf d (wipeF ε vs) = some ε1 ∧ tt ε1 = .ok true ε0 ∧ fe ε0 = .ok (.val y) ε2 ∧ P d y ∧ I (n + B) (restF ε ε2 vs)) →
    ∃ ys ε', fLcGo gf tt fe vs ds acc ε = .ok (acc ++ ys) ε' ∧ Paired P ds ys ∧ I (n + B * ds.length) ε'
  | [], acc, n, ε, hl, hN, hi, h => ⟨[], ε, by simp [fLcGo], .nil, by simpa using hi⟩
  | d :: ds, acc, n, ε, hl, hN, hi, h => by
    simp only [List.length_cons] at hl hN
    have hB : B * (ds.length + 1) = B + B * ds.length := by rw [Nat.mul_add, Nat.mul_one, Nat.add_comm]
    obtain ⟨ε1, ε0, y, ε2, h1, h2, h3, h4, h5⟩ := h d List.mem_cons_self n ε hi (by omega)
    obtain ⟨ys, ε', e1, e2, e3⟩ := lc_rel I P B N ds (acc ++ [y]) (n + B) (restF ε ε2 vs) (by simp; omega) (by omega) h5 fun e he => h e (List.mem_cons_of_mem _ he)
    refine ⟨y :: ys, ε', ?_, .cons h4 e2, by rw [List.length_cons, hB, ← Nat.add_assoc]; exact e3⟩
    unfold fLcGo
    simp only [h1, h2, R.bind_ok, if_true, h3]
    rw [if_pos (by omega), e1]
    simp
theorem Paired.rights {α β : Type} {F : α → β → Prop} {G : β → Prop} (h : ∀ a b, F a b → G b) {l : List α} {r : List β} (p : Paired F l r) : ∀ b ∈ r, G b := fun b hb => by
  obtain ⟨a, ha⟩ := PySem.Paired.right p b hb
  exact h _ _ ha
theorem getI {xs : List PyData} {r : Int} (h0 : 0 ≤ r) (h1 : r < xs.length) : ∃ d, atI xs r = some d ∧ d ∈ xs := by
  obtain ⟨k, rfl⟩ := Int.eq_ofNat_of_zero_le h0
  have hk : k < xs.length := by omega
  exact ⟨xs[k], atI_nat (List.getElem?_eq_getElem hk), List.getElem_mem hk⟩
/-! ### the first draws -/
theorem absB {i : Int} {k : Nat} (h : Builtin.Int.intBits i ≤ k) : Builtin.Int.intBits (if i < 0 then -i else i) ≤ k := by
  split
  · have e : Builtin.Int.intBits (-i) = Builtin.Int.intBits i := by
      unfold Builtin.Int.intBits
      simp only [Int.natAbs_neg]
      by_cases h0 : i = 0
      · subst h0; rfl
      · have h1 : ¬ -i = 0 := by omega
        simp [h0, h1]
    omega
  · exact h
def crowdF : PyData → PyData
  | .tuple [.int a, .int b] => .int (b % (10 ^ (20 : Int).toNat + 39) * (a + 3))
  | _ => .none
theorem enumD_len : ∀ (k : Nat) (xs : List PyData), (enumD k xs).length = xs.length
  | _, [] => rfl
  | k, x :: xs => by simp [enumD, enumD_len (k + 1) xs]
theorem enumD_mem : ∀ (k : Nat) (xs : List PyData) (d : PyData), d ∈ enumD k xs → ∃ (i : Nat) (x : PyData), k ≤ i ∧ i < k + xs.length ∧ xs[i - k]? = some x ∧ d = .tuple [.int i, x]
  | _, [], d, h => by simp [enumD] at h
  | k, x :: xs, d, h => by
    rcases List.mem_cons.mp h with e | h
    · exact ⟨k, x, Nat.le_refl _, by simp, by simp, e⟩
    · obtain ⟨i, y, h1, h2, h3, h4⟩ := enumD_mem (k + 1) xs d h
      refine ⟨i, y, by omega, by simp; omega, ?_, h4⟩
      rw [show i - k = (i - (k + 1)) + 1 by omega]
      simpa using h3
theorem crowd : ∀ (ns : List Int) (k : Nat), k + ns.length ≤ 63 → ∃ zs : List Int, (enumD k (iv ns)).map crowdF = iv zs ∧ 0 ≤ zs.sum ∧ zs.sum ≤ ns.length * 10 ^ 22
  | [], k, _ => ⟨[], by simp [enumD, iv], by simp, by simp⟩
  | x :: ns, k, h => by
    simp only [List.length_cons] at h
    obtain ⟨zs, h2, h3, h4⟩ := crowd ns (k + 1) (by omega)
    simp only [iv, List.map_cons, enumD] at h2 ⊢
    refine ⟨(x % (10 ^ (20 : Int).toNat + 39) * ((k : Int) + 3)) :: zs, ?_, ?_, ?_⟩
    · rw [List.map_cons, h2]; rfl
    · rw [List.sum_cons]
      have := Int.mul_nonneg (Int.emod_nonneg x (b := 10 ^ (20 : Int).toNat + 39) (by decide)) (show (0 : Int) ≤ (k : Int) + 3 by omega)
      omega
    · rw [List.sum_cons, List.length_cons]
      have a1 : x % (10 ^ (20 : Int).toNat + 39) ≤ 10 ^ 20 + 39 := Int.le_of_lt (Int.emod_lt_of_pos _ (by decide))
      have a2 : x % (10 ^ (20 : Int).toNat + 39) * ((k : Int) + 3) ≤ (10 ^ 20 + 39) * 66 := Int.mul_le_mul a1 (by omega) (by omega) (by decide)
      omega
theorem gSum_iv (zs : List Int) : gSum [.list (iv zs)] = some (.int zs.sum) := by
  simp only [gSum, iv, intsOf_map, Option.map_some]
theorem e_source {ns : List Int} {k : Nat} (hl : ns.length ≤ 63) (hb : ∀ z ∈ ns, Builtin.Int.intBits z ≤ 1048576) (hk : k ≤ 1000) : ∃ c, F__law_source [.d (.list (iv ns)), .d (.int k)] = .ok (.own c) [] ∧ Pot 0 c := by
  have e27 : (0 : Int) < 10 ^ (27 : Int).toNat + 103 := by decide
  have e20 : (0 : Int) < 10 ^ (20 : Int).toNat + 39 := by decide
  obtain ⟨zs, z1, z2, z3⟩ := crowd ns 0 (by omega)
  have z4 : zs.sum ≤ 10 ^ 24 := Int.le_trans z3 (by omega)
  have hB : Bits (zs.sum + 73 * (ns.length : Int)) 6367 := Bits.of (a := 100) (b := 13) (bits_le (by omega)) (bits_le (by decide)) (by decide)
  have hL : Bits 73 (ns.length : Int) := Bits.of (a := 7) (b := 7) (bits_le (by decide)) (bits_le (by omega)) (by decide)
  have h5 : ∀ b : Bool, Bits 5 (if b = true then 1 else 0) := fun b => by cases b <;> exact Bits.of (a := 7) (b := 7) (bits_le (by decide)) (bits_le (by decide)) (by decide)
  have h31 : Bits 31 (k : Int) := Bits.of (a := 5) (b := 10) (bits_le (by decide)) (bits_le (by omega)) (by decide)
  have hlc : ∀ ε0 ε1 ε2 ε3 ε6 : Option FV, fLcGo (tgT [4, 5]) fYes (fOp FL.gMul (fOp FL.gMod (fFn gInt (faCons (fVar 5) faNil)) (fOp FL.gAdd (fOp FL.gPow (fC (.int 10)) (fC (.int 20))) (fC (.int 39)))) (fOp FL.gAdd (fVar 4) (fC (.int 3)))) [4, 5] (enumD 0 (iv ns)) [] [ε0, ε1, ε2, ε3, none, none, ε6] = .ok (iv zs) [ε0, ε1, ε2, ε3, none, none, ε6] := fun ε0 ε1 ε2 ε3 ε6 => by
    rw [lc_all crowdF (by rw [enumD_len]; simp [iv]; omega), z1]
    intro d hd
    obtain ⟨i, x, h1, h2, h3, rfl⟩ := enumD_mem _ _ _ hd
    obtain ⟨z, hz, rfl⟩ := iv_mem (List.mem_of_getElem? h3)
    have h2' : i < 63 := by simp [iv] at h2; omega
    refine ⟨_, rfl, by walk_at "fl", ?_⟩
    have b0 := Int.emod_nonneg z (b := 10 ^ (20 : Int).toNat + 39) (by decide)
    have b1 : z % (10 ^ (20 : Int).toNat + 39) < 2 ^ 100 := Int.lt_of_lt_of_le (Int.emod_lt_of_pos _ (by decide)) (by decide)
    have k1 : Bits (z % (10 ^ (20 : Int).toNat + 39)) ((i : Int) + 3) := Bits.of (a := 100) (b := 100) (bits_le (by omega)) (bits_le (by omega)) (by decide)
    repeat first | simp only [g_add, g_pow (show CPowB 10 20 from pw 20 (by decide)), g_mod e20, g_mul k1, crowdF] | walk_at "fl"
  have hlen : ((iv ns).length : Int) = (ns.length : Int) := by simp [iv]
  have main : ∀ x : Int, Builtin.Int.intBits x ≤ 1048576 → (if (k : Int) < (ns.length : Int) then atI (iv ns) (k : Int) = some (.int x) else x = 31 * (k : Int) + 19) → ∃ c, F__law_source [.d (.list (iv ns)), .d (.int k)] = .ok (.own c) [] ∧ Pot 0 c := fun x hx hxx => by
    have k1 : Bits (if x < 0 then -x else x) 48017 := Bits.of (a := 1048576) (b := 16) (absB hx) (bits_le (by decide)) (by decide)
    have pot : ∀ a b : Int, Pot 0 (.lst [.int a, .int (b % (10 ^ (27 : Int).toNat + 103)), .int 0]) := fun a b => ⟨_, _, _, rfl, Int.emod_nonneg _ (by decide), Int.lt_of_lt_of_le (Int.emod_lt_of_pos _ e27) (by decide), by decide, by decide⟩
    suffices h : Told (fun r bs => ∃ c, r = .own c ∧ bs = [] ∧ Pot 0 c) (F__law_source [.d (.list (iv ns)), .d (.int k)]) by
      obtain ⟨r, bs, e, c, rfl, rfl, h⟩ := told_ex h
      exact ⟨c, e, h⟩
    unfold F__law_source fb__law_source
    by_cases hlt : (k : Int) < (ns.length : Int)
    · rw [if_pos hlt] at hxx
      repeat first | simp only [g_add, g_mul h31, hlen, hlt, decide_true, hxx, gEnum, hlc, gSum_iv, g_mul hL, g_mul k1, g_mul (h5 _), g_mul hB, g_pow (show CPowB 10 27 from pw 27 (by decide)), g_mod e27, g_pow (show CPowB 10 18 from pw 18 (by decide))] | walk_at "fl"
      exact ⟨_, rfl, rfl, pot _ _⟩
    · rw [if_neg hlt] at hxx
      subst hxx
      repeat first | simp only [g_add, g_mul h31, hlen, hlt, decide_false, gEnum, hlc, gSum_iv, g_mul hL, g_mul k1, g_mul (h5 _), g_mul hB, g_pow (show CPowB 10 27 from pw 27 (by decide)), g_mod e27, g_pow (show CPowB 10 18 from pw 18 (by decide))] | walk_at "fl"
      exact ⟨_, rfl, rfl, pot _ _⟩
  by_cases hlt : (k : Int) < (ns.length : Int)
  · have hlt' : k < ns.length := by omega
    refine main ns[k] (hb _ (List.getElem_mem hlt')) ?_
    rw [if_pos hlt]
    exact atI_nat (by simp [iv, hlt'])
  · refine main (31 * (k : Int) + 19) (Nat.le_trans (bits_le (k := 100) (by omega)) (by decide)) ?_
    rw [if_neg hlt]
end NA

namespace NA
open PySem PySem.Spec PyProof.Rows L2 DL FL RF
local macro_rules | `(tactic| walk_at "fl") => `(tactic| simp only [ap_var, ap_c, ap_un, ap_unV, ap_op, ap_opO, ap_fn, ap_nil, ap_cons, ap_tr, ap_b, ap_tand, ap_tor, ap_tnot, ap_and, ap_or, ap_not, ap_if, ap_chain, ap_tup, ap_lst, ap_lstO, ap_dictO, ap_frz, ap_sl, ap_no, ap_part, ap_mut, ap_call, ap_callK, ap_get, ap_dict, ap_isi, ap_rep, ap_listO, ap_seq, ap_iargs, ap_lc, ap_lcO, ap_yes, ap_sq, ap_ret, ap_drop, ap_sif, ap_nx, ap_bk, ap_ct, ap_asg, ap_setR, ap_runT, ap_bb0, ap_bbs, ap_bbn, ap_bbd, ap_bbc, ap_bbb, ap_sfrz, ap_setI, ap_setK, ap_for, ap_par, ap_asgT, ap_run, ap_see, ap_seeo, ap_seer, ap_getC, ap_setC, ap_sees0, ap_sees1, ap_parN, ap_view, ap_frza0, ap_frza, ap_frzc, ap_frzb, ap_frzd, ap_frzn, ap_call1, ap_c1o, ap_sar0, ap_sar1, ap_frv, ap_fro, ap_tgN, ap_tgT, fin_val, fin_own, fin_ref, fin_nx, bors_nil, bors_d, bors_b, R.bind_ok, ofO_some, ofB_some, ofOL_list, seeV, frV, vals, setAllF, wipeF, restF, callR, refsOf, argVs, putBack, setR2, setI, setK, ap_glt, ap_gle, ap_ggt, ap_gge, ap_gsub, ap_gadd, ap_gneg, ap_gix, ap_cutl, ap_cutt, ap_gtup, ap_glist, ap_glen, ap_gint, ap_gintb, ap_gabs, ap_gmax, ap_gmin, ap_isN, ap_notN, ap_geq, ap_gne, ap_eqi, ap_eqb, ap_eqs, ap_iol, ap_iot, ap_gtn, ap_gtb, ap_gti, ap_gtl, ap_gtt, ap_isn0, ap_isni, ap_isnl, ap_isnt, ap_revl, ap_revt, ap_enum, ap_zipl, ap_zipt, intsOf_map, boolsOf_map, ap_cellL, startF, List.map_cons, List.map_nil, List.length_cons, List.length_nil, List.replicate_succ, List.replicate_zero, List.cons_append, List.nil_append, List.append_nil, List.getElem?_cons_zero, List.getElem?_cons_succ, List.getElem?_nil, List.set_cons_zero, List.set_cons_succ, List.set_nil, Option.map_some, Option.map_none, Option.bind_some, Option.bind_none, Nat.reduceSub, Nat.reduceAdd, if_true, if_false, Bool.false_eq_true, reduceIte, true_and, and_true, Nat.sub_zero, Nat.zero_add, reduceCtorEq, List.nodup_nil, List.nodup_cons, List.not_mem_nil, not_false_eq_true, and_self, Bool.not_true, Bool.not_false, Bool.not_not, decide_true, decide_false, Nat.reduceLeDiff, atI0, atI1, req_true])
theorem e_law_primes (m : Int) : F__law_primes [.d (.int m)] = .ok (.own (.lst (iv (primesOf m)))) [] := by
  unfold F__law_primes fb__law_primes
  walk_at "fl"
  rw [lc_some (fun d => d) (fun d => match d with
    | .int p => decide (m % p = 0)
    | _ => false) (by decide)]
  · walk_at "fl"
    have e2 : (([PyData.int 2, .int 3, .int 5, .int 7, .int 11, .int 13].filter fun d => match d with
      | .int p => decide (m % p = 0)
      | _ => false).map fun d => d) = iv (primesOf m) := by
      unfold primesOf iv
      have : [PyData.int 2, .int 3, .int 5, .int 7, .int 11, .int 13] = [2, 3, 5, 7, 11, 13].map PyData.int := rfl
      rw [this, List.filter_map]
      simp [Function.comp_def]
    rw [e2]
  · intro d hd
    have hd' : ∃ p : Int, d = .int p ∧ 0 < p := by
      simp only [List.mem_cons, List.not_mem_nil, or_false] at hd
      rcases hd with rfl | rfl | rfl | rfl | rfl | rfl <;> exact ⟨_, rfl, by decide⟩
    obtain ⟨p, rfl, hp⟩ := hd'
    refine ⟨_, rfl, by walk_at "fl", ?_, fun _ => by walk_at "fl"⟩
    repeat first | simp only [g_mod hp, eqP] | walk_at "fl"
theorem e_modulus {c : Cell} {n : Nat} (h : Pot n c) (hn : n ≤ 1000000) : ∃ m c', F__law_modulus [.b c] = .ok (.val (.int m)) [c'] ∧ m ∈ mods ∧ Pot (n + 1) c' := by
  obtain ⟨r, c', e, r0, r1, hp⟩ := e_pick h (many := 10) (by decide) (by decide) hn
  obtain ⟨d, e2, hd⟩ := getI (xs := [PyData.int 2, .int 3, .int 5, .int 6, .int 7, .int 10, .int 11, .int 13, .int 14, .int 15]) r0 r1
  have : [PyData.int 2, .int 3, .int 5, .int 6, .int 7, .int 10, .int 11, .int 13, .int 14, .int 15] = iv mods := rfl
  rw [this] at hd
  obtain ⟨m, hm, rfl⟩ := iv_mem hd
  refine ⟨m, c', ?_, hm, hp⟩
  unfold F__law_modulus fb__law_modulus
  repeat first | simp only [e, e2] | walk_at "fl"
theorem e_factor {c : Cell} {n : Nat} {m s : Int} (h : Pot n c) (hn : n ≤ 1000000) (hs0 : 0 < s) (hs1 : s ≤ 20) (hm : m ≤ 20) (hms : 1 ≤ m / s - 1) :
    ∃ f c', F__law_factor [.b c, .d (.int m), .d (.int s)] = .ok (.val (.int f)) [c'] ∧ 0 < f ∧ f < m ∧ Pot (n + 1) c' := by
  have hle : m / s ≤ 20 := by
    rcases Int.lt_or_le (m / s) 21 with h | h
    · omega
    · have h1 := Int.mul_le_of_le_ediv hs0 h
      omega
  obtain ⟨r, c', e, h0, h1, hp⟩ := e_pick h (many := m / s - 1) hms (Int.le_trans (b := 20) (by omega) (by decide)) hn
  have hb : (s * (1 + r)).natAbs ≤ 20 * 20 := by
    rw [Int.natAbs_mul]
    exact Nat.mul_le_mul (by omega) (by omega)
  have h3 : s * (1 + r) ≤ s * (m / s - 1) := Int.mul_le_mul_of_nonneg_left (by omega) (by omega)
  have h4 : s * (m / s) ≤ m := Int.mul_ediv_self_le (by omega)
  rw [Int.mul_sub, Int.mul_one] at h3
  have h5 : 0 < s * (1 + r) := Int.mul_pos hs0 (by omega)
  have k1 : Bits s (1 + r) := Bits.of (a := 10) (b := 10) (bits_le (by omega)) (bits_le (by omega)) (by decide)
  refine ⟨s * (1 + r), c', ?_, h5, by omega, hp⟩
  unfold F__law_factor fb__law_factor
  repeat first | simp only [g_fdiv (divW hs0 (Int.lt_of_le_of_lt hs1 (by decide)) _), e, g_add, g_mul k1] | walk_at "fl"
theorem shares : ∀ m ∈ mods, (primesOf m).length = 2 → ∀ d ∈ primesOf m, 0 < d ∧ d ≤ 20 ∧ 1 ≤ m / d - 1 := by decide
def rangeI : List Int := [-4, -3, -2, -1, 0, 1, 2, 3, 4]
theorem paired_terms {m : Int} : ∀ {ns : List Int} {rs : List PyData}, Paired (fun d r => ∃ o f : Int, d = .int o ∧ r = .tuple [.int o, .int f] ∧ 0 < f ∧ f < m) (iv ns) rs → ∃ a : Tm, rs = a.map pr ∧ a.map (·.1) = ns ∧ ∀ p ∈ a, 0 < p.2 ∧ p.2 < m
  | [], _, .nil => ⟨[], rfl, rfl, fun p h => by cases h⟩
  | n :: ns, _, .cons h t => by
    obtain ⟨o, f, e, rfl, h1, h2⟩ := h
    cases e
    obtain ⟨a, rfl, e2, h3⟩ := paired_terms t
    exact ⟨(n, f) :: a, rfl, by rw [List.map_cons, e2], fun p hp => (List.mem_cons.mp hp).elim (fun e => by rw [e]; exact ⟨h1, h2⟩) (h3 p)⟩
theorem terms_go {c : Cell} {n : Nat} {m s : Int} {x2 x3 x5 x7 : Option FV} {offs : List Int} (h : Pot n c) (h1 : 0 < s) (h2 : s ≤ 20) (h3 : m ≤ 20) (h4 : 1 ≤ m / s - 1) (ho : offs.Sublist rangeI) (hn : n + 9 ≤ 1000000) :
    ∃ a c', fLcGo (tgN 6) fYes (fTup (faCons (fVar 6) (faCons (fCall F__law_factor (faCons (fVar 0) (faCons (fVar 1) (faCons (fVar 4) faNil)))) faNil))) [6] (iv offs) [] [some (.b c), some (.d (.int m)), x2, x3, some (.d (.int s)), x5, none, x7]
      = .ok (a.map pr) [some (.b c'), some (.d (.int m)), x2, x3, some (.d (.int s)), x5, none, x7] ∧ Cn m a ∧ Wd 4 a ∧ Pot (n + 9) c' := by
  have hl : offs.length ≤ 9 := ho.length_le
  obtain ⟨ys, ε', e1, e2, c', rfl, e4⟩ := lc_rel (gf := tgN 6) (tt := fYes) (fe := fTup (faCons (fVar 6) (faCons (fCall F__law_factor (faCons (fVar 0) (faCons (fVar 1) (faCons (fVar 4) faNil)))) faNil))) (vs := [6])
    (fun k ε => ∃ c, ε = [some (.b c), some (.d (.int m)), x2, x3, some (.d (.int s)), x5, none, x7] ∧ Pot k c)
    (fun d r => ∃ o f : Int, d = .int o ∧ r = .tuple [.int o, .int f] ∧ 0 < f ∧ f < m) 1 1000000 (iv offs) [] n _ (by simp [iv]; omega) (by simp [iv]; omega) ⟨c, rfl, h⟩ (by
      rintro d hd k ε ⟨c, rfl, hc⟩ hk
      obtain ⟨o, ho, rfl⟩ := iv_mem hd
      obtain ⟨f, c', e, f0, f1, hp⟩ := e_factor hc (by omega) h1 h2 h3 h4
      refine ⟨_, _, .tuple [.int o, .int f], [some (.b c'), some (.d (.int m)), x2, x3, some (.d (.int s)), x5, some (.d (.int o)), x7], rfl, rfl, ?_, ⟨o, f, rfl, rfl, f0, f1⟩, c', by walk_at "fl", hp⟩
      walk_at "fl"
      simp only [e]
      walk_at "fl")
  obtain ⟨a, rfl, ea, hv⟩ := paired_terms e2
  rw [List.nil_append] at e1
  have hso : a.Pairwise fun x y => x.1 < y.1 := by
    have : (a.map (·.1)).Pairwise (· < ·) := by rw [ea]; exact List.Pairwise.sublist ho (by decide)
    exact List.pairwise_map.mp this
  refine ⟨a, c', e1, ⟨hso, hv⟩, fun p hp => ?_, e4.mono (by simp [iv]; omega)⟩
  have : p.1 ∈ rangeI := ho.subset (by rw [← ea]; exact List.mem_map_of_mem hp)
  revert this
  generalize p.1 = x
  intro hx
  simp only [rangeI, List.mem_cons, List.not_mem_nil, or_false] at hx
  omega
theorem e_terms {c : Cell} {n : Nat} {m : Int} (h : Pot n c) (hm : m ∈ mods) (hn : n + 20 ≤ 1000000) : ∃ a c', F__law_terms [.b c, .d (.int m)] = .ok (.val (tm a)) [c'] ∧ Cn m a ∧ Wd 4 a ∧ Pot (n + 20) c' := by
  obtain ⟨m2, m15⟩ := modsB hm
  obtain ⟨way, c1, ew, w0, w1, hp1⟩ := e_pick h (many := 8) (by decide) (by decide) (by omega)
  -- the marks
  have hmarks : ∀ x2 x3 x4 x5 x7 : Option FV, ∃ ms c2, fLcGo (tgN 6) fYes (fCall F__law_pick (faCons (fVar 0) (faCons (fC (.int 3)) faNil))) [6] (rangeD 0 (Int.toNat 9)) [] [some (.b c1), some (.d (.int m)), x2, x3, x4, x5, none, x7]
      = .ok ms [some (.b c2), some (.d (.int m)), x2, x3, x4, x5, none, x7] ∧ ms.length = 9 ∧ (∀ d ∈ ms, ∃ i : Int, d = .int i) ∧ Pot (n + 10) c2 := fun x2 x3 x4 x5 x7 => by
    obtain ⟨ys, ε', e1, e2, c', rfl, e4⟩ := lc_rel (gf := tgN 6) (tt := fYes) (fe := fCall F__law_pick (faCons (fVar 0) (faCons (fC (.int 3)) faNil))) (vs := [6])
      (fun k ε => ∃ c, ε = [some (.b c), some (.d (.int m)), x2, x3, x4, x5, none, x7] ∧ Pot k c) (fun _ r => ∃ i : Int, r = .int i) 1 1000000 (rangeD 0 (Int.toNat 9)) [] (n + 1) _ (by decide) (by
        have : (rangeD 0 (Int.toNat 9)).length = 9 := rfl
        omega) ⟨c1, rfl, hp1⟩ (by
        rintro d hd k ε ⟨c, rfl, hc⟩ hk
        obtain ⟨f, c', e, f0, f1, hp⟩ := e_pick hc (many := 3) (by decide) (by decide) (by omega)
        refine ⟨_, _, .int f, [some (.b c'), some (.d (.int m)), x2, x3, x4, x5, some (.d d), x7], rfl, rfl, ?_, ⟨f, rfl⟩, c', by walk_at "fl", hp⟩
        walk_at "fl"
        simp only [e]
        walk_at "fl")
    have h9 : (rangeD 0 (Int.toNat 9)).length = 9 := rfl
    refine ⟨ys, c', by rw [e1]; rfl, by rw [← PySem.Paired.length e2]; exact h9, Paired.rights (G := fun b => ∃ i : Int, b = PyData.int i) (fun _ _ h => h) e2, e4.mono (by omega)⟩
  obtain ⟨ms, c2, em, hml, hmi, hp2⟩ := hmarks (some (.d (.int way))) (some (.d (.list (iv (primesOf m))))) none none none
  -- the offsets
  have hoffs : ∃ ns : List Int, ns.Sublist rangeI ∧ ∀ x0 x1 x2 x3 x4 x7 : Option FV, fLcGo (tgN 6) (fB (fOp gGt (fOp gIx (fVar 5) (fOp gAdd (fVar 6) (fC (.int 4)))) (fC (.int 0)))) (fVar 6) [6] (rangeD (-4) (Int.toNat (5 - -4))) [] [x0, x1, x2, x3, x4, some (.d (.list ms)), none, x7]
      = .ok (iv ns) [x0, x1, x2, x3, x4, some (.d (.list ms)), none, x7] := by
    have key : ∃ ns : List Int, ns.Sublist rangeI ∧ (((rangeD (-4) (Int.toNat (5 - -4))).filter fun d => match d with
      | .int o => match atI ms (o + 4) with
        | some (.int k) => decide (0 < k)
        | _ => false
      | _ => false).map fun d => d) = iv ns := by
      rw [List.map_id', show rangeD (-4) (Int.toNat (5 - -4)) = rangeI.map PyData.int from rfl, List.filter_map]
      exact ⟨_, List.filter_sublist, rfl⟩
    obtain ⟨ns, hns, en⟩ := key
    refine ⟨ns, hns, fun x0 x1 x2 x3 x4 x7 => ?_⟩
    rw [lc_some (fun d => d) (fun d => match d with
      | .int o => match atI ms (o + 4) with
        | some (.int k) => decide (0 < k)
        | _ => false
      | _ => false) (by decide), en]
    intro d hd
    have hd' : ∃ o : Int, d = .int o ∧ 0 ≤ o + 4 ∧ o + 4 < 9 := by
      unfold rangeD at hd
      obtain ⟨i, hi, rfl⟩ := List.mem_map.mp hd
      have hi := List.mem_range.mp hi
      have h9 : Int.toNat (5 - -4) = 9 := by decide
      exact ⟨_, rfl, by omega, by omega⟩
    obtain ⟨o, rfl, h0, h9⟩ := hd'
    obtain ⟨x, hx, hx2⟩ := getI (xs := ms) h0 (by omega)
    obtain ⟨k, rfl⟩ := hmi x hx2
    refine ⟨_, rfl, by walk_at "fl", ?_, fun _ => by walk_at "fl"⟩
    repeat first | simp only [g_add, hx] | walk_at "fl"
  obtain ⟨ns, hns, en⟩ := hoffs
  have hc : ∀ lo hi, ∃ l : List Int, DL.cutD (iv ns) lo hi = iv l ∧ l.Sublist rangeI := fun lo hi => by
    unfold DL.cutD iv
    rw [← List.map_drop, ← List.map_take]
    exact ⟨_, rfl, ((List.take_sublist _ _).trans (List.drop_sublist _ _)).trans hns⟩
  have s1 : 1 ≤ m / 1 - 1 := by rw [Int.ediv_one]; omega
  have rg : FL.gRange1 [.int 9] = some (rangeD 0 (Int.toNat 9)) := req_pos (by decide)
  have rg2 : FL.gRange2 [.int (-4), .int 5] = some (rangeD (-4) (Int.toNat (5 - -4))) := req_pos (by decide)
  have hlen : ((iv (primesOf m)).length : Int) = ((primesOf m).length : Int) := by simp [iv]
  suffices ht : Told (fun r bs => ∃ a c', r = .val (tm a) ∧ bs = [c'] ∧ Cn m a ∧ Wd 4 a ∧ Pot (n + 20) c') (F__law_terms [.b c, .d (.int m)]) by
    obtain ⟨r, bs, e, a, c', rfl, rfl, h1, h2, h3⟩ := told_ex ht
    exact ⟨a, c', e, h1, h2, h3⟩
  unfold F__law_terms fb__law_terms
  repeat first | simp only [ew, e_law_primes, rg, em, rg2, en] | walk_at "fl"
  by_cases c3 : way < 3
  · have c5 : ¬ 5 < way := by omega
    obtain ⟨l, e, hl⟩ := hc none (some way)
    obtain ⟨a, c', eg, g1, g2, g3⟩ := terms_go (x2 := some (.d (.int way))) (x3 := some (.d (.list (iv (primesOf m))))) (x5 := some (.d (.list ms))) (x7 := some (.d (.list (iv l)))) (s := 1) hp2 (by decide) (by decide) (show m ≤ 20 by omega) s1 hl (by omega)
    repeat first | simp only [c3, c5, decide_true, decide_false, e, eg] | walk_at "fl"
    exact ⟨a, c', rfl, rfl, g1, g2, g3.mono (by omega)⟩
  · by_cases c5 : 5 < way
    · by_cases c2 : (primesOf m).length = 2
      · have c2' : ((primesOf m).length : Int) = 2 := by omega
        obtain ⟨x, h1, h2⟩ := getI (xs := iv (primesOf m)) (r := way - 6) (by omega) (by rw [hlen]; omega)
        obtain ⟨d, hd, rfl⟩ := iv_mem h2
        obtain ⟨d0, d1, d2⟩ := shares m hm c2 d hd
        obtain ⟨a, c', eg, g1, g2, g3⟩ := terms_go (x2 := some (.d (.int way))) (x3 := some (.d (.list (iv (primesOf m))))) (x5 := some (.d (.list ms))) (x7 := some (.d (.list (iv ns)))) (s := d) hp2 d0 d1 (show m ≤ 20 by omega) d2 hns (by omega)
        repeat first | simp only [c3, c5, hlen, c2', eqP, h1, decide_true, decide_false, eg] | walk_at "fl"
        exact ⟨a, c', rfl, rfl, g1, g2, g3.mono (by omega)⟩
      · have c2' : ¬ ((primesOf m).length : Int) = 2 := by omega
        obtain ⟨a, c', eg, g1, g2, g3⟩ := terms_go (x2 := some (.d (.int way))) (x3 := some (.d (.list (iv (primesOf m))))) (x5 := some (.d (.list ms))) (x7 := some (.d (.list (iv ns)))) (s := 1) hp2 (by decide) (by decide) (show m ≤ 20 by omega) s1 hns (by omega)
        repeat first | simp only [c3, c5, hlen, c2', eqP, decide_true, decide_false, eg] | walk_at "fl"
        exact ⟨a, c', rfl, rfl, g1, g2, g3.mono (by omega)⟩
    · obtain ⟨a, c', eg, g1, g2, g3⟩ := terms_go (x2 := some (.d (.int way))) (x3 := some (.d (.list (iv (primesOf m))))) (x5 := some (.d (.list ms))) (x7 := some (.d (.list (iv ns)))) (s := 1) hp2 (by decide) (by decide) (show m ≤ 20 by omega) s1 hns (by omega)
      repeat first | simp only [c3, c5, decide_true, decide_false, eg] | walk_at "fl"
      exact ⟨a, c', rfl, rfl, g1, g2, g3.mono (by omega)⟩
end NA

namespace NA
open PySem PySem.Spec PyProof.Rows L2 DL FL RF
local macro_rules | `(tactic| walk_at "fl") => `(tactic| simp only [ap_var, ap_c, ap_un, ap_unV, ap_op, ap_opO, ap_fn, ap_nil, ap_cons, ap_tr, ap_b, ap_tand, ap_tor, ap_tnot, ap_and, ap_or, ap_not, ap_if, ap_chain, ap_tup, ap_lst, ap_lstO, ap_dictO, ap_frz, ap_sl, ap_no, ap_part, ap_mut, ap_call, ap_callK, ap_get, ap_dict, ap_isi, ap_rep, ap_listO, ap_seq, ap_iargs, ap_lc, ap_lcO, ap_yes, ap_sq, ap_ret, ap_drop, ap_sif, ap_nx, ap_bk, ap_ct, ap_asg, ap_setR, ap_runT, ap_bb0, ap_bbs, ap_bbn, ap_bbd, ap_bbc, ap_bbb, ap_sfrz, ap_setI, ap_setK, ap_for, ap_par, ap_asgT, ap_run, ap_see, ap_seeo, ap_seer, ap_getC, ap_setC, ap_sees0, ap_sees1, ap_parN, ap_view, ap_frza0, ap_frza, ap_frzc, ap_frzb, ap_frzd, ap_frzn, ap_call1, ap_c1o, ap_sar0, ap_sar1, ap_frv, ap_fro, ap_tgN, ap_tgT, fin_val, fin_own, fin_ref, fin_nx, bors_nil, bors_d, bors_b, R.bind_ok, ofO_some, ofB_some, ofOL_list, seeV, frV, vals, setAllF, wipeF, restF, callR, refsOf, argVs, putBack, setR2, setI, setK, ap_glt, ap_gle, ap_ggt, ap_gge, ap_gsub, ap_gadd, ap_gneg, ap_gix, ap_cutl, ap_cutt, ap_gtup, ap_glist, ap_glen, ap_gint, ap_gintb, ap_gabs, ap_gmax, ap_gmin, ap_isN, ap_notN, ap_geq, ap_gne, ap_eqi, ap_eqb, ap_eqs, ap_iol, ap_iot, ap_gtn, ap_gtb, ap_gti, ap_gtl, ap_gtt, ap_isn0, ap_isni, ap_isnl, ap_isnt, ap_revl, ap_revt, ap_enum, ap_zipl, ap_zipt, intsOf_map, boolsOf_map, ap_cellL, startF, List.map_cons, List.map_nil, List.length_cons, List.length_nil, List.replicate_succ, List.replicate_zero, List.cons_append, List.nil_append, List.append_nil, List.getElem?_cons_zero, List.getElem?_cons_succ, List.getElem?_nil, List.set_cons_zero, List.set_cons_succ, List.set_nil, Option.map_some, Option.map_none, Option.bind_some, Option.bind_none, Nat.reduceSub, Nat.reduceAdd, if_true, if_false, Bool.false_eq_true, reduceIte, true_and, and_true, Nat.sub_zero, Nat.zero_add, reduceCtorEq, List.nodup_nil, List.nodup_cons, List.not_mem_nil, not_false_eq_true, and_self, Bool.not_true, Bool.not_false, Bool.not_not, decide_true, decide_false, Nat.reduceLeDiff, atI0, atI1, req_true])
/-! ### tables of sums -/
def tbk (t : Tm) : KVs := t.map fun p => ((Sum.inl p.1 : Key), PyData.int p.2)
theorem tb_val {t : Tm} {k : Int} : valD (tbk t) (Sum.inl k : Key) = (tget t k).map PyData.int := by
  unfold valD tbk tget
  induction t with
  | nil => rfl
  | cons p t ih =>
    rw [List.map_cons, List.find?_cons, List.find?_cons]
    by_cases e : p.1 = k
    · simp [e]
    · have e' : ¬ (Sum.inl p.1 : Key) = Sum.inl k := fun z => e (Sum.inl.inj z)
      simp only [e, e', decide_false]
      exact ih
theorem tb_put {t : Tm} {k v : Int} : putD (tbk t) (Sum.inl k : Key) (PyData.int v) = tbk (tput t k v) := by
  unfold putD tput
  have h1 : ((tbk t).any fun kv => decide (kv.1 = (Sum.inl k : Key))) = t.any fun p => decide (p.1 = k) := by
    unfold tbk
    rw [List.any_map]
    congr 1
    funext p
    simp [Function.comp, inl_eq]
  rw [h1]
  split
  · unfold tbk
    rw [List.map_map, List.map_map]
    apply List.map_congr_left
    intro p hp
    simp only [Function.comp, inl_eq]
    split <;> rfl
  · simp [tbk]
theorem tb_get {t : Tm} {k d : Int} : (valD (tbk t) (Sum.inl k : Key)).getD (PyData.int d) = .int ((tget t k).getD d) := by
  rw [tb_val]
  cases tget t k <;> rfl
theorem tbk_len {t : Tm} : (tbk t).length = t.length := by simp [tbk]
theorem kvs_tbk {t : Tm} : kvsOf (cellD (.dct (tbk t))) = some (tbk t) := kvsOf_cell _
theorem ik_tbk : ∀ {t : Tm}, intKeys (tbk t) = some (t.map (·.1))
  | [] => rfl
  | p :: t => by
    have ih := ik_tbk (t := t)
    simp only [tbk, List.map_cons, intKeys] at ih ⊢
    rw [ih]; rfl
theorem _root_.RF.Tb.to {t : Tm} {n k : Nat} {F G : (Int → Int) → Int} (h : Tb t n F) (hn : n ≤ k) (hf : ∀ f, F f = G f) : Tb t k G := ⟨h.nd, Nat.le_trans h.ln hn, fun f => (h.ev f).trans (hf f)⟩
theorem _root_.RF.Tb.put {t : Tm} {n : Nat} {F : (Int → Int) → Int} (h : Tb t n F) (k v : Int) : Tb (tput t k ((tget t k).getD 0 + v)) (n + 1) (fun f => F f + v * f k) := by
  rw [put_ins h.nd]; exact h.ins
theorem cell_dict {kvs : KVs} : kvsOf (.dict (kvs.map fun p => (kD p.1, p.2))) = some kvs := kvsL_map kvs
theorem key_int {i : Int} : keyOf (.int i) = some (Sum.inl i) := rfl
theorem dict_nil : Cell.dct [] = .dct (tbk []) := rfl
theorem loop_sums {x0 x1 : Option FV} : ∀ (l t : Tm) (n : Nat) (F : (Int → Int) → Int) (y z : Option FV), bb y = false → bb z = false → Tb t n F → n + l.length ≤ 890000 →
    ∃ t' y' z', fsGo (tgT [3, 4]) lb_sums_of_1 (l.map pr) [x0, x1, some (.c (.dct (tbk t))), y, z] = .ok .nx [x0, x1, some (.c (.dct (tbk t'))), y', z'] ∧ Tb t' (n + l.length) (fun f => F f + ev l f)
  | [], t, n, F, y, z, _, _, h, hl => ⟨t, y, z, rfl, h.to (by simp) (fun f => by simp [ev])⟩
  | p :: l, t, n, F, y, z, b3, b4, h, hl => by
    simp only [List.length_cons] at hl
    obtain ⟨t', y', z', e, ht⟩ := loop_sums l _ (n + 1) _ (some (.d (.int p.1))) (some (.d (.int p.2))) rfl rfl (h.put p.1 p.2) (by omega)
    refine ⟨t', y', z', ?_, ht.to (by simp only [List.length_cons]; omega) fun f => by rw [ev_cons]; omega⟩
    have hlt : (tbk t).length < 900000 := by rw [tbk_len]; have := h.ln; omega
    refine (go_nx ?_).trans e
    unfold lb_sums_of_1 pr
    repeat first | simp only [kvs_tbk, key_int, tb_get, tb_put, hlt, b3, b4] | walk_at "fl"
theorem gadd_tup {xs ys : List PyData} (h : xs.length + ys.length ≤ 900000) : FL.gAdd (.tuple xs) (.tuple ys) = some (.tuple (xs ++ ys)) := req_pos h
theorem e_sums_of {a b : Tm} (h : a.length + b.length ≤ 890000) : ∃ t, F_sums_of [.d (tm a), .d (tm b)] = .ok (.own (.dct (tbk t))) [] ∧ Tb t (a.length + b.length) (fun f => ev a f + ev b f) := by
  obtain ⟨t, y, z, e, ht⟩ := loop_sums (x0 := some (.d (tm a))) (x1 := some (.d (tm b))) (a ++ b) [] 0 (fun _ => 0) none none rfl rfl Tb.nil (by simpa using h)
  refine ⟨t, ?_, ht.to (by simp) (fun f => by rw [ev_app]; omega)⟩
  rw [List.map_append] at e
  unfold F_sums_of fb_sums_of
  unfold tm at e ⊢
  repeat first | simp only [dict_nil, gadd_tup (show (a.map pr).length + (b.map pr).length ≤ 900000 by simp; omega), e] | walk_at "fl"
/-! products -/
theorem bits_small {v c : Int} (hv : v.natAbs < 2 ^ 20) (hc : c.natAbs < 2 ^ 20) : Bits v c := Bits.of (a := 20) (b := 20) (bits_le hv) (bits_le hc) (by decide)
theorem loop_prod_in {x0 x1 : Option FV} {i v : Int} (hv : v.natAbs < 2 ^ 20) : ∀ (l t : Tm) (n : Nat) (F : (Int → Int) → Int) (y z : Option FV), (∀ x ∈ l, x.2.natAbs < 2 ^ 20) →
    bb y = false → bb z = false → Tb t n F → n + l.length ≤ 890000 →
    ∃ t' y' z', fsGo (tgT [5, 6]) lb_products_of_2 (l.map pr) [x0, x1, some (.c (.dct (tbk t))), some (.d (.int i)), some (.d (.int v)), y, z] = .ok .nx [x0, x1, some (.c (.dct (tbk t'))), some (.d (.int i)), some (.d (.int v)), y', z'] ∧
      bb y' = false ∧ bb z' = false ∧ Tb t' (n + l.length) (fun f => F f + v * ev l fun q => f (i + q))
  | [], t, n, F, y, z, _, b5, b6, h, hl => ⟨t, y, z, rfl, b5, b6, h.to (by simp) (fun f => by simp [ev])⟩
  | p :: l, t, n, F, y, z, hs, b5, b6, h, hl => by
    simp only [List.length_cons] at hl
    obtain ⟨t', y', z', e, c5, c6, ht⟩ := loop_prod_in (x0 := x0) (x1 := x1) (i := i) hv l _ (n + 1) _ (some (.d (.int p.1))) (some (.d (.int p.2))) (fun x hx => hs x (List.mem_cons_of_mem _ hx)) rfl rfl (h.put (i + p.1) (v * p.2)) (by omega)
    refine ⟨t', y', z', ?_, c5, c6, ht.to (by simp only [List.length_cons]; omega) fun f => by rw [ev_cons, Int.mul_add, Int.mul_assoc]; omega⟩
    have hlt : (tbk t).length < 900000 := by rw [tbk_len]; have := h.ln; omega
    refine (go_nx ?_).trans e
    unfold lb_products_of_2 pr
    repeat first | simp only [kvs_tbk, key_int, tb_get, tb_put, hlt, b5, b6, g_mul (bits_small hv (hs p List.mem_cons_self))] | walk_at "fl"
/-- a list or a tuple of pairs -/
def Pairs2 (d : PyData) (b : Tm) : Prop := d = .tuple (b.map pr) ∨ d = .list (b.map pr)
theorem Pairs2.io {d : PyData} {b : Tm} (h : Pairs2 d b) : itemsOf d = some (b.map pr) := by rcases h with rfl | rfl <;> rfl
theorem loop_prod {x0 : Option FV} {d : PyData} {b : Tm} (hd : Pairs2 d b) (hb : ∀ x ∈ b, x.2.natAbs < 2 ^ 20) : ∀ (l t : Tm) (n : Nat) (F : (Int → Int) → Int) (y z u w : Option FV), (∀ x ∈ l, x.2.natAbs < 2 ^ 20) →
    bb y = false → bb z = false → bb u = false → bb w = false → Tb t n F → n + l.length * b.length ≤ 890000 →
    ∃ t' y' z' u' w', fsGo (tgT [3, 4]) lb_products_of_1 (l.map pr) [x0, some (.d d), some (.c (.dct (tbk t))), y, z, u, w] = .ok .nx [x0, some (.d d), some (.c (.dct (tbk t'))), y', z', u', w'] ∧ Tb t' (n + l.length * b.length) (fun f => F f + ev l fun p => ev b fun q => f (p + q))
  | [], t, n, F, y, z, u, w, _, _, _, _, _, h, hl => ⟨t, y, z, u, w, rfl, h.to (by simp) (fun f => by simp [ev])⟩
  | p :: l, t, n, F, y, z, u, w, hs, b3, b4, b5, b6, h, hl => by
    have hm : (l.length + 1) * b.length = l.length * b.length + b.length := by rw [Nat.add_mul, Nat.one_mul]
    simp only [List.length_cons] at hl
    rw [hm] at hl
    obtain ⟨t1, u1, w1, e1, c5, c6, h1⟩ := loop_prod_in (x0 := x0) (x1 := some (.d d)) (i := p.1) (hs p List.mem_cons_self) b t n F u w hb b5 b6 h (by omega)
    obtain ⟨t', y', z', u', w', e, ht⟩ := loop_prod hd hb l t1 _ _ (some (.d (.int p.1))) (some (.d (.int p.2))) u1 w1 (fun x hx => hs x (List.mem_cons_of_mem _ hx)) rfl rfl c5 c6 h1 (by omega)
    refine ⟨t', y', z', u', w', ?_, ht.to (by simp only [List.length_cons]; rw [hm]; omega) fun f => by rw [ev_cons]; omega⟩
    refine (go_nx ?_).trans e
    unfold lb_products_of_1
    rw [show pr p = .tuple [.int p.1, .int p.2] from rfl]
    repeat first | simp only [b3, b4, hd.io, e1] | walk_at "fl"
structure Sm (a : Tm) : Prop where
  ln : a.length ≤ 900
  vl : ∀ p ∈ a, p.2.natAbs < 2 ^ 20
theorem e_products_of {a b : Tm} {d : PyData} (hd : Pairs2 d b) (ha : Sm a) (hb : Sm b) : ∃ t, F_products_of [.d (tm a), .d d] = .ok (.own (.dct (tbk t))) [] ∧ Tb t (a.length * b.length) (fun f => ev a fun p => ev b fun q => f (p + q)) := by
  have hl : a.length * b.length ≤ 900 * 900 := Nat.mul_le_mul ha.ln hb.ln
  obtain ⟨t, y, z, u, w, e, ht⟩ := loop_prod (x0 := some (.d (tm a))) hd hb.vl a [] 0 (fun _ => 0) none none none none ha.vl rfl rfl rfl rfl Tb.nil (by omega)
  refine ⟨t, ?_, ht.to (by simp) (fun f => by omega)⟩
  unfold F_products_of fb_products_of
  unfold tm at e ⊢
  repeat first | simp only [dict_nil, e] | walk_at "fl"
/-! what is left -/
def itemP (t : Tm) (m : Int) : PyData → Bool
  | .int k => decide (gt t k % m ≠ 0)
  | _ => false
def itemF (t : Tm) (m : Int) : PyData → PyData
  | .int k => .tuple [.int k, .int (gt t k % m)]
  | _ => .none
theorem tidy_data {t : Tm} {m : Int} {ys : List Int} : .tuple (((iv ys).filter (itemP t m)).map (itemF t m)) = tm (tidyL t m ys) := by
  unfold tm tidyL iv
  rw [List.filter_map, List.map_map, List.map_map]
  rfl
theorem e_left_of {m : Int} {t : Tm} {n : Nat} {F : (Int → Int) → Int} (h : Tb t n F) (hm : 0 < m) (hn : n ≤ 900000) : ∃ r, F_left_of [.d (cellD (.dct (tbk t))), .d (.int m)] = tell (tm r) ∧ Cn m r ∧ r.length ≤ n ∧ ∀ f, Md m (ev r f) (F f) := by
  have hp := sortI_perm (t.map (·.1))
  have hlen : (sortI (t.map (·.1))).length = t.length := by rw [hp.length_eq]; simp
  obtain ⟨c, hev⟩ := tidy_ok h hm hp (sortI_sorted _)
  refine ⟨tidyL t m (sortI (t.map (·.1))), ?_, c, ?_, hev⟩
  · have hs : gSortD [cellD (.dct (tbk t))] = some (.list (iv (sortI (t.map (·.1))))) := by
      simp only [gSortD, kvs_tbk, ik_tbk, Option.bind_some]
      exact req_pos (by have := h.ln; simp; omega)
    unfold F_left_of fb_left_of
    generalize hd : cellD (.dct (tbk t)) = d at hs ⊢
    have hk : kvsOf d = some (tbk t) := by rw [← hd]; exact kvs_tbk
    repeat first | simp only [hs] | walk_at "fl"
    rw [lc_some (itemF t m) (itemP t m) (by have := h.ln; simp [iv, hlen]; omega)]
    · walk_at "fl"
      rw [tidy_data]
    · intro d' hd'
      obtain ⟨k, hk2, rfl⟩ := iv_mem hd'
      have hin : k ∈ t.map (·.1) := hp.mem_iff.mp hk2
      have hg : gIxD d (.int k) = some (.int (gt t k)) := by
        simp only [gIxD, hk, key_int, Option.bind_some, tb_val]
        obtain ⟨p, hp1, rfl⟩ := List.mem_map.mp hin
        have := gt_mem h.nd hp1
        simp [gt, this]
      refine ⟨_, rfl, by walk_at "fl", ?_, fun _ => ?_⟩
      · repeat first | simp only [hg, g_mod hm] | walk_at "fl"
        congr 1
        simp only [itemP, bne, ne_eq, decide_not]
        by_cases e : gt t k % m = 0 <;> simp [e]
      · repeat first | simp only [hg, g_mod hm, itemF] | walk_at "fl"
  · refine Nat.le_trans ?_ h.ln
    unfold tidyL
    rw [List.length_map, ← hlen]
    exact List.length_filter_le _ _
end NA

namespace NA
open PySem PySem.Spec PyProof.Rows L2 DL FL RF
local macro_rules | `(tactic| walk_at "fl") => `(tactic| simp only [ap_var, ap_c, ap_un, ap_unV, ap_op, ap_opO, ap_fn, ap_nil, ap_cons, ap_tr, ap_b, ap_tand, ap_tor, ap_tnot, ap_and, ap_or, ap_not, ap_if, ap_chain, ap_tup, ap_lst, ap_lstO, ap_dictO, ap_frz, ap_sl, ap_no, ap_part, ap_mut, ap_call, ap_callK, ap_get, ap_dict, ap_isi, ap_rep, ap_listO, ap_seq, ap_iargs, ap_lc, ap_lcO, ap_yes, ap_sq, ap_ret, ap_drop, ap_sif, ap_nx, ap_bk, ap_ct, ap_asg, ap_setR, ap_runT, ap_bb0, ap_bbs, ap_bbn, ap_bbd, ap_bbc, ap_bbb, ap_sfrz, ap_setI, ap_setK, ap_for, ap_par, ap_asgT, ap_run, ap_see, ap_seeo, ap_seer, ap_getC, ap_setC, ap_sees0, ap_sees1, ap_parN, ap_view, ap_frza0, ap_frza, ap_frzc, ap_frzb, ap_frzd, ap_frzn, ap_call1, ap_c1o, ap_sar0, ap_sar1, ap_frv, ap_fro, ap_tgN, ap_tgT, fin_val, fin_own, fin_ref, fin_nx, bors_nil, bors_d, bors_b, R.bind_ok, ofO_some, ofB_some, ofOL_list, seeV, frV, vals, setAllF, wipeF, restF, callR, refsOf, argVs, putBack, setR2, setI, setK, ap_glt, ap_gle, ap_ggt, ap_gge, ap_gsub, ap_gadd, ap_gneg, ap_gix, ap_cutl, ap_cutt, ap_gtup, ap_glist, ap_glen, ap_gint, ap_gintb, ap_gabs, ap_gmax, ap_gmin, ap_isN, ap_notN, ap_geq, ap_gne, ap_eqi, ap_eqb, ap_eqs, ap_iol, ap_iot, ap_gtn, ap_gtb, ap_gti, ap_gtl, ap_gtt, ap_isn0, ap_isni, ap_isnl, ap_isnt, ap_revl, ap_revt, ap_enum, ap_zipl, ap_zipt, intsOf_map, boolsOf_map, ap_cellL, startF, List.map_cons, List.map_nil, List.length_cons, List.length_nil, List.replicate_succ, List.replicate_zero, List.cons_append, List.nil_append, List.append_nil, List.getElem?_cons_zero, List.getElem?_cons_succ, List.getElem?_nil, List.set_cons_zero, List.set_cons_succ, List.set_nil, Option.map_some, Option.map_none, Option.bind_some, Option.bind_none, Nat.reduceSub, Nat.reduceAdd, if_true, if_false, Bool.false_eq_true, reduceIte, true_and, and_true, Nat.sub_zero, Nat.zero_add, reduceCtorEq, List.nodup_nil, List.nodup_cons, List.not_mem_nil, not_false_eq_true, and_self, Bool.not_true, Bool.not_false, Bool.not_not, decide_true, decide_false, Nat.reduceLeDiff, atI0, atI1, req_true])
/-! ### sums and products of rules -/
theorem mods_pos {m : Int} (h : m ∈ mods) : 0 < m := by have := modsB h; omega
theorem Sm.of {m : Int} {a : Tm} (hm : m ∈ mods) (c : Cn m a) (hl : a.length ≤ 900) : Sm a := ⟨hl, fun p hp => by have := c.vl p hp; have := modsB hm; omega⟩
theorem Ok.sm {m : Int} {a : Tm} (h : Ok m a) (hl : a.length ≤ 900) : Sm a := Sm.of h.mo h.cn hl
theorem Ok.wd {m : Int} {a : Tm} {A : Nat} (hm : m ∈ mods) (c : Cn m a) (w : Wd A a) (hA : A ≤ 400) : Ok m a := ⟨hm, c, by have := c.len w; omega⟩
theorem wd_len {m : Int} {a : Tm} {A : Nat} (c : Cn m a) (w : Wd A a) (hA : A ≤ 400) : a.length ≤ 900 := by have := c.len w; omega
theorem e_plus {m : Int} {a b : Tm} (ha : Ok m a) (hb : Ok m b) (hl : a.length + b.length ≤ 890000) : ∃ r, F_plus [.d (rule m a), .d (rule m b)] = tell (rule m r) ∧ IsS m a b r ∧ r.length ≤ a.length + b.length := by
  obtain ⟨t, e1, ht⟩ := e_sums_of hl
  obtain ⟨r, e2, cr, hr, er⟩ := e_left_of ht (mods_pos ha.mo) (by omega)
  refine ⟨r, ?_, ⟨cr, er⟩, hr⟩
  have e0 := e_need_rules ha hb
  unfold F_plus fb_plus
  unfold rule at e0 ⊢
  repeat first | simp only [e0, e1, e2] | walk_at "fl"
theorem e_behind {m : Int} {a b : Tm} (ha : Ok m a) (hb : Ok m b) (sa : a.length ≤ 900) (sb : b.length ≤ 900) : ∃ r, F_behind [.d (rule m a), .d (rule m b)] = tell (rule m r) ∧ IsP m a b r ∧ r.length ≤ a.length * b.length := by
  obtain ⟨t, e1, ht⟩ := e_products_of (b := b) (d := tm b) (.inl rfl) (ha.sm sa) (hb.sm sb)
  have hl : a.length * b.length ≤ 900 * 900 := Nat.mul_le_mul sa sb
  obtain ⟨r, e2, cr, hr, er⟩ := e_left_of ht (mods_pos ha.mo) (by omega)
  refine ⟨r, ?_, ⟨cr, er⟩, hr⟩
  have e0 := e_need_rules ha hb
  unfold F_behind fb_behind
  unfold rule at e0 ⊢
  repeat first | simp only [e0, e1, e2] | walk_at "fl"
theorem half_bit (n k : Nat) : n / 2 ^ k = 2 * (n / 2 ^ (k + 1)) + n / 2 ^ k % 2 := by
  rw [Nat.pow_succ, ← Nat.div_div_eq_div_mul]
  omega
theorem downD_succ (k : Nat) : downD (k + 1) = .int (k : Int) :: downD k := by
  unfold downD
  rw [List.range_succ_eq_map, List.map_cons, List.map_map]
  congr 1
  · congr 1; omega
  · refine List.map_congr_left fun i _ => ?_
    show PyData.int _ = PyData.int _
    congr 1
    show ((k + 1 : Nat) : Int) - 1 - ((i + 1 : Nat) : Int) = (k : Int) - 1 - (i : Int)
    omega
theorem _root_.RF.IsW.mono2 {m : Int} {a r : Tm} {A n : Nat} (h : IsW m a n r) (wa : Wd A a) (hA : n * A ≤ 400) : r.length ≤ 900 := wd_len h.1 (h.wd wa) hA
theorem loop_pow {m : Int} {a : Tm} {A n : Nat} (ha : Ok m a) (wa : Wd A a) (hA : n * A ≤ 400) (hA1 : A ≤ 400) : ∀ (k : Nat) (r : Tm) (y : Option FV), bb y = false → IsW m a (n / 2 ^ k) r →
    ∃ s y', fsGo (tgN 3) lb_power_1 (downD k) [some (.d (rule m a)), some (.d (.int n)), some (.d (rule m r)), y] = .ok .nx [some (.d (rule m a)), some (.d (.int n)), some (.d (rule m s)), y'] ∧ IsW m a n s
  | 0, r, y, hy, hr => ⟨r, y, rfl, by simpa using hr⟩
  | k + 1, r, y, hy, hr => by
    have small : ∀ j, n / 2 ^ j * A ≤ 400 := fun j => Nat.le_trans (Nat.mul_le_mul_right A (Nat.div_le_self _ _)) hA
    have hro : Ok m r := Ok.wd ha.mo hr.1 (hr.wd wa) (small _)
    have hrl := hr.mono2 wa (small _)
    obtain ⟨s, e1, hs, _⟩ := e_behind hro hro hrl hrl
    have hs2 : IsW m a (2 * (n / 2 ^ (k + 1))) s := by rw [Nat.two_mul]; exact hr.mul hr hs
    have le2 : 2 * (n / 2 ^ (k + 1)) ≤ n / 2 ^ k := by have := half_bit n k; omega
    have hs3 := Nat.le_trans (Nat.mul_le_mul_right A le2) (small k)
    have hso : Ok m s := Ok.wd ha.mo hs.1 (hs2.wd wa) hs3
    have hsl := hs2.mono2 wa hs3
    have hb : FL.gBand (.int ((n : Int) / 2 ^ ((k : Int)).toNat)) (.int 1) = some (.int ((n / 2 ^ k % 2 : Nat) : Int)) := by
      show some (PyData.int (Builtin.bitAnd _ _)) = _
      rw [Int.toNat_natCast, show (n : Int) / 2 ^ k = ((n / 2 ^ k : Nat) : Int) by simp]
      exact congrArg (fun z => some (PyData.int z)) (band1 _)
    have hsh : FL.gShr (.int (n : Int)) (.int (k : Int)) = some (.int ((n : Int) / 2 ^ ((k : Int)).toNat)) := gI_pos (C := fun _ j => 0 ≤ j) (by omega)
    have hh := half_bit n k
    rw [downD_succ]
    by_cases h1 : n / 2 ^ k % 2 = 1
    · obtain ⟨u, e2, hu, _⟩ := e_behind hso ha hsl (wd_len ha.cn wa hA1)
      have hu2 : IsW m a (n / 2 ^ k) u := by
        have := hs2.mul (.one ha.cn) hu
        rw [h1] at hh
        rw [hh]; exact this
      obtain ⟨v, y', e3, hv⟩ := loop_pow ha wa hA hA1 k u (some (.d (.int k))) rfl hu2
      refine ⟨v, y', (go_nx ?_).trans e3, hv⟩
      unfold lb_power_1
      have e0 : ((((n / 2 ^ k % 2 : Nat) : Int)) != 0) = true := by rw [h1]; rfl
      repeat first | simp only [hy, e1, hsh, hb, e0, e2] | walk_at "fl"
    · have h0 : n / 2 ^ k % 2 = 0 := by omega
      have hs4 : IsW m a (n / 2 ^ k) s := by
        rw [h0] at hh
        rw [hh]; exact hs2
      obtain ⟨v, y', e3, hv⟩ := loop_pow ha wa hA hA1 k s (some (.d (.int k))) rfl hs4
      refine ⟨v, y', (go_nx ?_).trans e3, hv⟩
      unfold lb_power_1
      have e0 : ((((n / 2 ^ k % 2 : Nat) : Int)) != 0) = false := by rw [h0]; rfl
      repeat first | simp only [hy, e1, hsh, hb, e0] | walk_at "fl"
theorem bits_up (n : Nat) : n / 2 ^ (Builtin.Int.intBits (n : Int)) = 0 := by
  refine Nat.div_eq_of_lt ?_
  unfold Builtin.Int.intBits
  by_cases h : n = 0
  · subst h; decide
  · have : ¬ (((n : Int)) == 0) = true := by simp; omega
    rw [if_neg this, Int.natAbs_natCast]
    exact Nat.lt_log2_self
theorem e_power {m : Int} {a : Tm} {A n : Nat} (ha : Ok m a) (wa : Wd A a) (hn : n ≤ 40) (hA : n * A ≤ 400) (hA1 : A ≤ 400) : ∃ r, F_power [.d (rule m a), .d (.int n)] = tell (rule m r) ∧ IsW m a n r := by
  obtain ⟨s, y, e, hs⟩ := loop_pow ha wa hA hA1 (Builtin.Int.intBits (n : Int)) [(0, 1)] none rfl (by rw [bits_up]; exact .zero (by have := modsB ha.mo; omega))
  refine ⟨s, ?_, hs⟩
  have hb : Builtin.Int.intBits (n : Int) ≤ 6 := bits_le (by omega)
  have e1 : decide ((0 : Int) ≤ (n : Int)) = true := decide_eq_true (by omega)
  have e2 : decide ((n : Int) ≤ 40) = true := decide_eq_true (by omega)
  have e3 : gDown [.int ((Builtin.Int.intBits (n : Int) : Nat) : Int)] = some (downD (Builtin.Int.intBits (n : Int))) := by
    rw [gDown]
    exact (req_pos ⟨by omega, by omega⟩).trans (by rw [Int.toNat_natCast])
  have e4 : gBitl (.int (n : Int)) = some (.int ((Builtin.Int.intBits (n : Int) : Nat) : Int)) := rfl
  have e0 := e_need_rule ha
  unfold F_power fb_power
  unfold rule at e e0 ⊢
  repeat first | simp only [e0, e1, e2, e_still ha.mo, rule, e4, e3, e] | walk_at "fl"
end NA

namespace NA
open PySem PySem.Spec PyProof.Rows L2 DL FL RF
local macro_rules | `(tactic| walk_at "fl") => `(tactic| simp only [ap_var, ap_c, ap_un, ap_unV, ap_op, ap_opO, ap_fn, ap_nil, ap_cons, ap_tr, ap_b, ap_tand, ap_tor, ap_tnot, ap_and, ap_or, ap_not, ap_if, ap_chain, ap_tup, ap_lst, ap_lstO, ap_dictO, ap_frz, ap_sl, ap_no, ap_part, ap_mut, ap_call, ap_callK, ap_get, ap_dict, ap_isi, ap_rep, ap_listO, ap_seq, ap_iargs, ap_lc, ap_lcO, ap_yes, ap_sq, ap_ret, ap_drop, ap_sif, ap_nx, ap_bk, ap_ct, ap_asg, ap_setR, ap_runT, ap_bb0, ap_bbs, ap_bbn, ap_bbd, ap_bbc, ap_bbb, ap_sfrz, ap_setI, ap_setK, ap_for, ap_par, ap_asgT, ap_run, ap_see, ap_seeo, ap_seer, ap_getC, ap_setC, ap_sees0, ap_sees1, ap_parN, ap_view, ap_frza0, ap_frza, ap_frzc, ap_frzb, ap_frzd, ap_frzn, ap_call1, ap_c1o, ap_sar0, ap_sar1, ap_frv, ap_fro, ap_tgN, ap_tgT, fin_val, fin_own, fin_ref, fin_nx, bors_nil, bors_d, bors_b, R.bind_ok, ofO_some, ofB_some, ofOL_list, seeV, frV, vals, setAllF, wipeF, restF, callR, refsOf, argVs, putBack, setR2, setI, setK, ap_glt, ap_gle, ap_ggt, ap_gge, ap_gsub, ap_gadd, ap_gneg, ap_gix, ap_cutl, ap_cutt, ap_gtup, ap_glist, ap_glen, ap_gint, ap_gintb, ap_gabs, ap_gmax, ap_gmin, ap_isN, ap_notN, ap_geq, ap_gne, ap_eqi, ap_eqb, ap_eqs, ap_iol, ap_iot, ap_gtn, ap_gtb, ap_gti, ap_gtl, ap_gtt, ap_isn0, ap_isni, ap_isnl, ap_isnt, ap_revl, ap_revt, ap_enum, ap_zipl, ap_zipt, intsOf_map, boolsOf_map, ap_cellL, startF, List.map_cons, List.map_nil, List.length_cons, List.length_nil, List.replicate_succ, List.replicate_zero, List.cons_append, List.nil_append, List.append_nil, List.getElem?_cons_zero, List.getElem?_cons_succ, List.getElem?_nil, List.set_cons_zero, List.set_cons_succ, List.set_nil, Option.map_some, Option.map_none, Option.bind_some, Option.bind_none, Nat.reduceSub, Nat.reduceAdd, if_true, if_false, Bool.false_eq_true, reduceIte, true_and, and_true, Nat.sub_zero, Nat.zero_add, reduceCtorEq, List.nodup_nil, List.nodup_cons, List.not_mem_nil, not_false_eq_true, and_self, Bool.not_true, Bool.not_false, Bool.not_not, decide_true, decide_false, Nat.reduceLeDiff, atI0, atI1, req_true])
/-! ### steps -/
def neg (a : Tm) : Tm := a.map fun p => (-p.1, p.2)
theorem ev_neg : ∀ {a : Tm} {f : Int → Int}, ev (neg a) f = ev a fun o => f (-o)
  | [], f => rfl
  | p :: a, f => by
    have ih := ev_neg (a := a) (f := f)
    unfold neg at ih ⊢
    rw [List.map_cons, ev_cons, ev_cons, ih]
/-- what a step leaves -/
def IsStep (m : Int) (a c r : Tm) : Prop := Cn m r ∧ ∀ f, Md m (ev r f) (ev c fun p => ev a fun o => f (p - o))
theorem neg_sm {a : Tm} (h : Sm a) : Sm (neg a) := ⟨by simp [neg]; exact h.ln, fun p hp => by
  unfold neg at hp
  obtain ⟨q, hq, rfl⟩ := List.mem_map.mp hp
  exact h.vl q hq⟩
def negP : PyData → PyData
  | .tuple [.int o, f] => .tuple [.int (-o), f]
  | _ => .none
theorem e_row_behind {m : Int} {a c : Tm} (hm : m ∈ mods) (sa : Sm a) (sc : Sm c) : ∃ r, F_row_behind [.d (rule m a), .d (rule m c)] = tell (rule m r) ∧ IsStep m a c r ∧ r.length ≤ c.length * a.length := by
  have hl : c.length * (neg a).length ≤ 900 * 900 := Nat.mul_le_mul sc.ln (neg_sm sa).ln
  obtain ⟨t, e1, ht⟩ := e_products_of (a := c) (b := neg a) (d := .list ((neg a).map pr)) (.inr rfl) sc (neg_sm sa)
  obtain ⟨r, e2, cr, hr, er⟩ := e_left_of ht (mods_pos hm) (by omega)
  refine ⟨r, ?_, ⟨cr, fun f => ?_⟩, by simpa [neg] using hr⟩
  · unfold F_row_behind fb_row_behind rule
    unfold tm at e1 ⊢
    walk_at "fl"
    rw [lc_all negP (by have := sa.ln; simp; omega)]
    · have e : (a.map pr).map negP = (neg a).map pr := by
        unfold neg
        rw [List.map_map, List.map_map]
        rfl
      rw [e]
      repeat first | simp only [e1, e2] | walk_at "fl"
      rfl
    · intro d hd
      obtain ⟨p, _, rfl⟩ := pr_mem hd
      exact ⟨_, rfl, by walk_at "fl", by walk_at "fl"; rfl⟩
  · refine (er f).trans (.of ?_)
    congr 1
    funext p
    rw [ev_neg]
    rfl
theorem e_step {m : Int} {a c : Tm} (ha : Ok m a) (hc : Ok m c) (sa : a.length ≤ 900) (sc : c.length ≤ 900) : ∃ r, F_step [.d (rule m a), .d (rule m c)] = tell (rule m r) ∧ IsStep m a c r ∧ r.length ≤ c.length * a.length := by
  obtain ⟨r, e1, hr⟩ := e_row_behind ha.mo (ha.sm sa) (hc.sm sc)
  refine ⟨r, ?_, hr⟩
  have e2 := e_need_rule ha
  have e3 := e_need_row hc
  unfold F_step fb_step
  unfold rule at e1 e2 e3 ⊢
  repeat first | simp only [e1, e2, e3, e_need_same] | walk_at "fl"
theorem e_added {m : Int} {a b : Tm} (ha : Ok m a) (hb : Ok m b) (hl : a.length + b.length ≤ 890000) : ∃ r, F_added [.d (rule m a), .d (rule m b)] = tell (rule m r) ∧ IsS m a b r ∧ r.length ≤ a.length + b.length := by
  obtain ⟨t, e1, ht⟩ := e_sums_of hl
  obtain ⟨r, e2, cr, hr, er⟩ := e_left_of ht (mods_pos ha.mo) (by omega)
  refine ⟨r, ?_, ⟨cr, er⟩, hr⟩
  have e0 := e_need_row ha
  have e0' := e_need_row hb
  unfold F_added fb_added
  unfold rule at e0 e0' ⊢
  repeat first | simp only [e0, e0', e_need_same, e1, e2] | walk_at "fl"
/-! round rows -/
/-- the value at a place of a round row -/
def at' (vs : List Int) (k : Int) : Int := (vs[(k % vs.length).toNat]?).getD 0
theorem at_ix {vs : List Int} (k : Int) (hn : vs ≠ []) : atI (iv vs) (k % vs.length) = some (.int (at' vs k)) := by
  have hl : (0 : Int) < vs.length := by
    cases vs with
    | nil => exact (hn rfl).elim
    | cons x r => simp <;> omega
  have h0 := Int.emod_nonneg k (Int.ne_of_gt hl)
  have h1 := Int.emod_lt_of_pos k hl
  unfold at'
  generalize k % (vs.length : Int) = j at *
  obtain ⟨n, rfl⟩ := Int.eq_ofNat_of_zero_le h0
  have hn : n < vs.length := by omega
  have : (iv vs)[n]? = some (.int vs[n]) := by simp [iv, hn]
  rw [atI_nat this]
  simp [hn]
theorem at_rg {vs : List Int} {m : Int} (h : ∀ v ∈ vs, 0 ≤ v ∧ v < m) (hm : 0 < m) (k : Int) : 0 ≤ at' vs k ∧ at' vs k < m := by
  unfold at'
  cases e : vs[(k % vs.length).toNat]? with
  | none => simp [hm]
  | some v => exact h v (List.mem_of_getElem? e)
/-- what a step leaves of a round row -/
def stepR (m : Int) (a : Tm) (vs : List Int) : List Int := (List.range vs.length).map fun (i : Nat) => (ev a fun o => at' vs ((i : Int) + o)) % m
theorem rangeD0 (n : Nat) : rangeD 0 n = iv ((List.range n).map fun (i : Nat) => (i : Int)) := by
  unfold rangeD iv
  rw [List.map_map]
  refine List.map_congr_left fun i _ => ?_
  simp
theorem prod_f {a : Tm} {vs : List Int} {i : Int} : (a.map pr).map (fun d => match d with
    | .tuple [.int o, .int f] => PyData.int (f * at' vs (i + o))
    | _ => .none) = iv (a.map fun p => p.2 * at' vs (i + p.1)) := by
  simp [iv, pr, Function.comp_def]
theorem e_round_step {m : Int} {a : Tm} {vs : List Int} (ha : Ok m a) (hv : Rnd m vs) : F_round_step [.d (rule m a), .d (rnd m vs)] = tell (rnd m (stepR m a vs)) := by
  have e2 := e_need_rule ha
  have e3 := e_need_round hv
  have m0 := mods_pos ha.mo
  have hlen : ((iv vs).length : Int) = (vs.length : Int) := by simp [iv]
  have hl : (0 : Int) < vs.length := by
    have := hv.ne
    cases vs with
    | nil => exact (this rfl).elim
    | cons x r => simp <;> omega
  have rg : gRange1 [.int (vs.length : Int)] = some (rangeD 0 vs.length) := by
    rw [gRange1]
    exact (req_pos (by have := hv.len; omega)).trans (by rw [Int.toNat_natCast])
  unfold F_round_step fb_round_step
  unfold rule at e2 ⊢
  unfold rnd at e3 ⊢
  repeat first | simp only [e2, e3, e_need_same, hlen, rg] | walk_at "fl"
  rw [lc_all (fun d => match d with
    | .int i => .int (ev a fun o => at' vs (i + o))
    | _ => .none) (by have := hv.len; simp [rangeD]; omega)]
  · walk_at "fl"
    rw [lc_all (fun d => match d with
      | .int i => .int (i % m)
      | _ => .none) (by have := hv.len; simp [rangeD]; omega)]
    · walk_at "fl"
      rw [rangeD0]
      simp [iv, stepR, Function.comp_def]
    · intro d hd
      obtain ⟨d0, h0, rfl⟩ := List.mem_map.mp hd
      rw [rangeD0] at h0
      obtain ⟨i, _, rfl⟩ := iv_mem h0
      refine ⟨_, rfl, by walk_at "fl", ?_⟩
      repeat first | simp only [g_mod m0] | walk_at "fl"
  · intro d hd
    rw [rangeD0] at hd
    obtain ⟨i, _, rfl⟩ := iv_mem hd
    refine ⟨_, rfl, by walk_at "fl", ?_⟩
    unfold tm
    walk_at "fl"
    rw [lc_all (fun d => match d with
      | .tuple [.int o, .int f] => .int (f * at' vs (i + o))
      | _ => .none) (by have := ha.len; simp; omega), prod_f]
    · repeat first | simp only [gSum_iv] | walk_at "fl"
      rfl
    · intro d hd
      obtain ⟨p, hp, rfl⟩ := pr_mem hd
      have h1 := ha.cn.vl p hp
      have h2 := at_rg hv.rg m0 (i + p.1)
      have h3 := modsB ha.mo
      refine ⟨_, rfl, by walk_at "fl", ?_⟩
      repeat first | simp only [hlen, g_mod hl, at_ix _ hv.ne, g_mul (bits_small (v := p.2) (c := at' vs (i + p.1)) (by omega) (by omega))] | walk_at "fl"
theorem stepR_rnd {m : Int} {a : Tm} {vs : List Int} (hv : Rnd m vs) : Rnd m (stepR m a vs) := by
  have m0 := mods_pos hv.mo
  refine ⟨hv.mo, ?_, fun v h => ?_, by simpa [stepR] using hv.len⟩
  · have := hv.ne
    unfold stepR
    cases vs with
    | nil => exact (this rfl).elim
    | cons x r => simp [List.range_succ_eq_map]
  · unfold stepR at h
    obtain ⟨i, _, rfl⟩ := List.mem_map.mp h
    exact ⟨Int.emod_nonneg _ (by omega), Int.emod_lt_of_pos _ m0⟩
end NA

namespace NA
open PySem PySem.Spec PyProof.Rows L2 DL FL RF
local macro_rules | `(tactic| walk_at "fl") => `(tactic| simp only [ap_var, ap_c, ap_un, ap_unV, ap_op, ap_opO, ap_fn, ap_nil, ap_cons, ap_tr, ap_b, ap_tand, ap_tor, ap_tnot, ap_and, ap_or, ap_not, ap_if, ap_chain, ap_tup, ap_lst, ap_lstO, ap_dictO, ap_frz, ap_sl, ap_no, ap_part, ap_mut, ap_call, ap_callK, ap_get, ap_dict, ap_isi, ap_rep, ap_listO, ap_seq, ap_iargs, ap_lc, ap_lcO, ap_yes, ap_sq, ap_ret, ap_drop, ap_sif, ap_nx, ap_bk, ap_ct, ap_asg, ap_setR, ap_runT, ap_bb0, ap_bbs, ap_bbn, ap_bbd, ap_bbc, ap_bbb, ap_sfrz, ap_setI, ap_setK, ap_for, ap_par, ap_asgT, ap_run, ap_see, ap_seeo, ap_seer, ap_getC, ap_setC, ap_sees0, ap_sees1, ap_parN, ap_view, ap_frza0, ap_frza, ap_frzc, ap_frzb, ap_frzd, ap_frzn, ap_call1, ap_c1o, ap_sar0, ap_sar1, ap_frv, ap_fro, ap_tgN, ap_tgT, fin_val, fin_own, fin_ref, fin_nx, bors_nil, bors_d, bors_b, R.bind_ok, ofO_some, ofB_some, ofOL_list, seeV, frV, vals, setAllF, wipeF, restF, callR, refsOf, argVs, putBack, setR2, setI, setK, ap_glt, ap_gle, ap_ggt, ap_gge, ap_gsub, ap_gadd, ap_gneg, ap_gix, ap_cutl, ap_cutt, ap_gtup, ap_glist, ap_glen, ap_gint, ap_gintb, ap_gabs, ap_gmax, ap_gmin, ap_isN, ap_notN, ap_geq, ap_gne, ap_eqi, ap_eqb, ap_eqs, ap_iol, ap_iot, ap_gtn, ap_gtb, ap_gti, ap_gtl, ap_gtt, ap_isn0, ap_isni, ap_isnl, ap_isnt, ap_revl, ap_revt, ap_enum, ap_zipl, ap_zipt, intsOf_map, boolsOf_map, ap_cellL, startF, List.map_cons, List.map_nil, List.length_cons, List.length_nil, List.replicate_succ, List.replicate_zero, List.cons_append, List.nil_append, List.append_nil, List.getElem?_cons_zero, List.getElem?_cons_succ, List.getElem?_nil, List.set_cons_zero, List.set_cons_succ, List.set_nil, Option.map_some, Option.map_none, Option.bind_some, Option.bind_none, Nat.reduceSub, Nat.reduceAdd, if_true, if_false, Bool.false_eq_true, reduceIte, true_and, and_true, Nat.sub_zero, Nat.zero_add, reduceCtorEq, List.nodup_nil, List.nodup_cons, List.not_mem_nil, not_false_eq_true, and_self, Bool.not_true, Bool.not_false, Bool.not_not, decide_true, decide_false, Nat.reduceLeDiff, atI0, atI1, req_true])
/-! ### sums over places -/
def vl (c : Tm) (k : Int) : Int := ev c (ind k)
def ones (Q : List Int) : Tm := Q.map fun q => (q, 1)
theorem ev_ones {Q : List Int} {f : Int → Int} : ev (ones Q) f = (Q.map f).sum := by
  unfold ones ev
  rw [List.map_map]
  congr 1
  refine List.map_congr_left fun q _ => ?_
  simp [Function.comp]
theorem sum_zero : ∀ {Q : List Int} {f : Int → Int}, (∀ q ∈ Q, f q = 0) → (Q.map f).sum = 0
  | [], _, _ => rfl
  | q :: Q, f, h => by rw [List.map_cons, List.sum_cons, h q List.mem_cons_self, sum_zero fun x hx => h x (List.mem_cons_of_mem _ hx)]; rfl
theorem sum_pick : ∀ {Q : List Int} {x : Int} {f : Int → Int}, Q.Nodup → x ∈ Q → (Q.map fun q => if q = x then f q else 0).sum = f x
  | q :: Q, x, f, nd, h => by
    rw [List.nodup_cons] at nd
    rw [List.map_cons, List.sum_cons]
    by_cases e : q = x
    · subst e
      rw [sum_zero fun y hy => if_neg (fun (z : y = q) => nd.1 (z ▸ hy))]
      simp
    · have hx : x ∈ Q := (List.mem_cons.mp h).resolve_left fun z => e z.symm
      rw [if_neg e, sum_pick nd.2 hx]; simp
/-- places that hold all of a row's cells -/
theorem sum_vl {c : Tm} {Q : List Int} {o : Int} {f : Int → Int} (nd : Q.Nodup) (h : ∀ p ∈ c, p.1 - o ∈ Q) : (Q.map fun q => vl c (q + o) * f q).sum = ev c fun p => f (p - o) := by
  have e1 : (Q.map fun q => vl c (q + o) * f q).sum = ev (ones Q) fun q => ev c fun p => ind (q + o) p * f q := by
    rw [ev_ones]
    congr 1
    refine List.map_congr_left fun q _ => ?_
    unfold vl
    rw [Int.mul_comm, ← ev_mul]
    congr 1
    funext p
    rw [Int.mul_comm]
  rw [e1, ev_swap]
  refine ev_congr fun p hp => ?_
  rw [ev_ones]
  have := sum_pick (f := f) nd (h p hp)
  rw [← this]
  congr 1
  refine List.map_congr_left fun q _ => ?_
  unfold ind
  by_cases e : q = p.1 - o
  · rw [if_pos e, if_pos (by omega)]; simp
  · rw [if_neg e, if_neg (by omega)]; simp
/-- the pairs that are left -/
def madeL (m : Int) (Q : List Int) (s : Int → Int) : Tm := (Q.filter fun q => decide (s q % m ≠ 0)).map fun q => (q, s q % m)
theorem made_cn {m : Int} {Q : List Int} {s : Int → Int} (hm : 0 < m) (h : Q.Pairwise (· < ·)) : Cn m (madeL m Q s) := by
  refine ⟨?_, fun p hp => ?_⟩
  · unfold madeL
    exact List.pairwise_map.mpr (List.Pairwise.sublist List.filter_sublist h)
  · unfold madeL at hp
    obtain ⟨q, hq, rfl⟩ := List.mem_map.mp hp
    have h2 := (List.mem_filter.mp hq).2
    have h0 := Int.emod_nonneg (s q) (show m ≠ 0 by omega)
    have h1 := Int.emod_lt_of_pos (s q) hm
    simp at h2
    show 0 < s q % m ∧ s q % m < m
    omega
theorem made_ev {m : Int} {s f : Int → Int} : ∀ {Q : List Int}, Md m (ev (madeL m Q s) f) ((Q.map fun q => s q * f q).sum)
  | [] => .of rfl
  | q :: Q => by
    have ih := made_ev (m := m) (s := s) (f := f) (Q := Q)
    unfold madeL at ih ⊢
    rw [List.map_cons, List.sum_cons]
    by_cases e : s q % m = 0
    · rw [List.filter_cons_of_neg (by simpa using e)]
      have : Md m 0 (s q * f q) := by
        have h1 : Md m (s q % m) (s q) := Md.rest
        rw [e] at h1
        have := h1.mulr (c := f q)
        rwa [Int.zero_mul] at this
      have := this.add ih
      rwa [Int.zero_add] at this
    · rw [List.filter_cons_of_pos (by simpa using e), List.map_cons, ev_cons]
      exact Md.rest.mulr.add ih
/-! shown -/
theorem Cn.pl {m : Int} {a : Tm} (hm : m ≤ 100) (c : Cn m a) (hp : ∀ p ∈ a, p.1.natAbs < 10 ^ 62) : ∀ x ∈ a.map pr, Pl 1 2 x := fun x hx => by
  obtain ⟨p, h1, rfl⟩ := List.mem_map.mp hx
  have := c.vl p h1
  exact Pl.pair (Pl.int (hp p h1)) (Pl.int (Nat.lt_of_lt_of_le (m := 100) (by omega) (by decide)))
theorem rule_show {m : Int} {a : Tm} (hm : m ∈ mods) (c : Cn m a) (hp : ∀ p ∈ a, p.1.natAbs < 10 ^ 62) (hl : a.length ≤ 10000) : Show (rule m a) := by
  have hb := modsB hm
  have h1 : Pl 2 (10000 * 3) (tm a) := Pl.tup (k := 1) (n := 2) (m := 10000) (Cn.pl (by omega) c hp) (by rw [List.length_map]; exact hl)
  have h2 : Pl 2 0 (.int m) := (Pl.int (Nat.lt_of_lt_of_le (m := 16) (by omega) (by decide))).mono (by decide) (by decide)
  exact (Pl.pair h2 h1).sz.show (by decide) (by decide)
theorem rnd_show {m : Int} {vs : List Int} (h : Rnd m vs) (hl : vs.length ≤ 10000) : Show (rnd m vs) := by
  have hb := modsB h.mo
  have h1 : Pl 1 (10000 * 1) (.tuple (iv vs)) := Pl.tup (k := 0) (n := 0) (m := 10000) (fun x hx => by
    obtain ⟨v, hv, rfl⟩ := iv_mem hx
    have := h.rg v hv
    exact Pl.int (Nat.lt_of_lt_of_le (m := 100) (by omega) (by decide))) (by simpa [iv] using hl)
  have h2 : Pl 1 0 (.int m) := (Pl.int (Nat.lt_of_lt_of_le (m := 16) (by omega) (by decide))).mono (by decide) (by decide)
  exact (Pl.pair h2 h1).sz.show (by decide) (by decide)
theorem g_repr {d : PyData} (h : Show d) : gRepr [d] = some (.str d.shown) := req_pos h
theorem Cn.near {m : Int} {r : Tm} {B : Nat} (c : Cn m r) (h : ∀ x : Int, B ≤ x.natAbs → Md m (ev r (ind x)) 0) : ∀ p ∈ r, p.1.natAbs < B := fun p hp => by
  rcases Nat.lt_or_ge p.1.natAbs B with z | z
  · exact z
  · have h1 := h p.1 z
    rw [co_mem c.so (show (p.1, p.2) ∈ r from hp)] at h1
    have := c.vl p hp
    have := h1.eq (by omega) (by omega) (by omega) (by omega)
    omega
end NA

namespace NA
open PySem PySem.Spec PyProof.Rows L2 DL FL RF
local macro_rules | `(tactic| walk_at "fl") => `(tactic| simp only [ap_var, ap_c, ap_un, ap_unV, ap_op, ap_opO, ap_fn, ap_nil, ap_cons, ap_tr, ap_b, ap_tand, ap_tor, ap_tnot, ap_and, ap_or, ap_not, ap_if, ap_chain, ap_tup, ap_lst, ap_lstO, ap_dictO, ap_frz, ap_sl, ap_no, ap_part, ap_mut, ap_call, ap_callK, ap_get, ap_dict, ap_isi, ap_rep, ap_listO, ap_seq, ap_iargs, ap_lc, ap_lcO, ap_yes, ap_sq, ap_ret, ap_drop, ap_sif, ap_nx, ap_bk, ap_ct, ap_asg, ap_setR, ap_runT, ap_bb0, ap_bbs, ap_bbn, ap_bbd, ap_bbc, ap_bbb, ap_sfrz, ap_setI, ap_setK, ap_for, ap_par, ap_asgT, ap_run, ap_see, ap_seeo, ap_seer, ap_getC, ap_setC, ap_sees0, ap_sees1, ap_parN, ap_view, ap_frza0, ap_frza, ap_frzc, ap_frzb, ap_frzd, ap_frzn, ap_call1, ap_c1o, ap_sar0, ap_sar1, ap_frv, ap_fro, ap_tgN, ap_tgT, fin_val, fin_own, fin_ref, fin_nx, bors_nil, bors_d, bors_b, R.bind_ok, ofO_some, ofB_some, ofOL_list, seeV, frV, vals, setAllF, wipeF, restF, callR, refsOf, argVs, putBack, setR2, setI, setK, ap_glt, ap_gle, ap_ggt, ap_gge, ap_gsub, ap_gadd, ap_gneg, ap_gix, ap_cutl, ap_cutt, ap_gtup, ap_glist, ap_glen, ap_gint, ap_gintb, ap_gabs, ap_gmax, ap_gmin, ap_isN, ap_notN, ap_geq, ap_gne, ap_eqi, ap_eqb, ap_eqs, ap_iol, ap_iot, ap_gtn, ap_gtb, ap_gti, ap_gtl, ap_gtt, ap_isn0, ap_isni, ap_isnl, ap_isnt, ap_revl, ap_revt, ap_enum, ap_zipl, ap_zipt, intsOf_map, boolsOf_map, ap_cellL, startF, List.map_cons, List.map_nil, List.length_cons, List.length_nil, List.replicate_succ, List.replicate_zero, List.cons_append, List.nil_append, List.append_nil, List.getElem?_cons_zero, List.getElem?_cons_succ, List.getElem?_nil, List.set_cons_zero, List.set_cons_succ, List.set_nil, Option.map_some, Option.map_none, Option.bind_some, Option.bind_none, Nat.reduceSub, Nat.reduceAdd, if_true, if_false, Bool.false_eq_true, reduceIte, true_and, and_true, Nat.sub_zero, Nat.zero_add, reduceCtorEq, List.nodup_nil, List.nodup_cons, List.not_mem_nil, not_false_eq_true, and_self, Bool.not_true, Bool.not_false, Bool.not_not, decide_true, decide_false, Nat.reduceLeDiff, atI0, atI1, req_true])
/-! ### pots and draws -/
theorem e_draw {c : Cell} {n : Nat} {many : Int} (h : Pot n c) (h1 : 1 ≤ many) (h2 : many ≤ 10 ^ 60) (hn : n ≤ 1000000) :
    ∃ r c', F__law_draw [.b c, .d (.int many)] = .ok (.val (.int r)) [c'] ∧ 0 ≤ r ∧ r < many ∧ Pot (n + 1) c' := by
  obtain ⟨a, b, k, rfl, hb0, hb1, hc0, hc1⟩ := h
  unfold F__law_draw fb__law_draw
  have hm : (0 : Int) < many := by omega
  by_cases ha : 0 < a
  · refine ⟨a % many, _, ?_, Int.emod_nonneg _ (by omega), Int.emod_lt_of_pos _ hm, ⟨a / many, b, k, rfl, hb0, hb1, hc0, by omega⟩⟩
    repeat first | simp only [ix0, ha, decide_true, g_mod hm, g_fdiv (divW hm (Int.lt_of_le_of_lt h2 (by decide)) _), jx0] | walk_at "fl"
  · have e1 : (0 : Int) < 10 ^ (30 : Int).toNat + 57 := by decide
    have e2 : (0 : Int) < 10 ^ (28 : Int).toNat + 331 := by decide
    have k1 : Bits 86028121 (k + 1) := Bits.of (a := 30) (b := 30) (by decide) (bits_le (by omega)) (by decide)
    have k2 : CPowB (b + 86028121 * (k + 1)) 3 := powB (k := 120) (by decide) (bits_le (by have : b < 2 ^ 110 := Int.lt_of_lt_of_le hb1 (by decide); omega)) (by decide)
    generalize hx : ((b + 86028121 * (k + 1)) ^ (3 : Int).toNat) % (10 ^ (30 : Int).toNat + 57) = x
    have x0 : 0 ≤ x := by rw [← hx]; exact Int.emod_nonneg _ (by decide)
    have x1 : x < 2 ^ 101 := by rw [← hx]; exact Int.lt_of_lt_of_le (Int.emod_lt_of_pos _ e1) (by decide)
    have k5 : Bits x (x + 2903) := Bits.of (a := 101) (b := 120) (bits_le (by omega)) (bits_le (by omega)) (by decide)
    refine ⟨x * (x + 2903) % (10 ^ (28 : Int).toNat + 331) / 3571 % many, _, ?_, Int.emod_nonneg _ (by omega), Int.emod_lt_of_pos _ hm, ⟨a, b, k + 1, rfl, hb0, hb1, by omega, by omega⟩⟩
    repeat first | simp only [ix0, ix1, ix2, ha, decide_false, g_add, g_mul k1, g_pow k2, g_pow (show CPowB 10 30 from pw 30 (by decide)), g_mod e1, hx, g_mul k5, g_pow (show CPowB 10 28 from pw 28 (by decide)), g_mod e2, g_fdiv (divW (j := 3571) (by decide) (by decide) _), g_mod hm, jx2] | walk_at "fl"
theorem sum_mod {P : Int} (hP : 0 < P) : ∀ ns : List Int, 0 ≤ (ns.map fun x => x % P).sum ∧ (ns.map fun x => x % P).sum ≤ ns.length * P
  | [] => by simp
  | x :: ns => by
    obtain ⟨h1, h2⟩ := sum_mod hP ns
    have h3 := Int.emod_nonneg x (b := P) (by omega)
    have h4 := Int.emod_lt_of_pos x hP
    rw [List.map_cons, List.sum_cons, List.length_cons]
    refine ⟨by omega, ?_⟩
    have : ((ns.length + 1 : Nat) : Int) * P = ns.length * P + P := by rw [Int.natCast_add, Int.add_mul]; simp
    omega
theorem e_pot {ns : List Int} {k : Nat} (hl : ns.length ≤ 63) (hb : ∀ z ∈ ns, Builtin.Int.intBits z ≤ 1048576) (hk : k ≤ 1000) : ∃ c, F__law_pot [.d (.list (iv ns)), .d (.int k)] = .ok (.own c) [] ∧ Pot 0 c := by
  have e27 : (0 : Int) < 10 ^ (27 : Int).toNat + 103 := by decide
  have e24 : (0 : Int) < 10 ^ (24 : Int).toNat + 7 := by decide
  obtain ⟨z2, z3⟩ := sum_mod e24 ns
  have z4 : (ns.map fun x => x % (10 ^ (24 : Int).toNat + 7)).sum ≤ 63 * (10 ^ (24 : Int).toNat + 7) := Int.le_trans z3 (Int.mul_le_mul_of_nonneg_right (by omega) (by decide))
  have z5 : (63 : Int) * (10 ^ (24 : Int).toNat + 7) < 2 ^ 100 := by decide
  generalize hT : (ns.map fun x => x % (10 ^ (24 : Int).toNat + 7)).sum = T at z2 z4
  have hB : Bits T 1299709 := Bits.of (a := 100) (b := 30) (bits_le (by omega)) (bits_le (by decide)) (by decide)
  have h43 : Bits 43 (k : Int) := Bits.of (a := 6) (b := 10) (bits_le (by decide)) (bits_le (by omega)) (by decide)
  have hkk : Bits (k : Int) 611953 := Bits.of (a := 10) (b := 20) (bits_le (by omega)) (bits_le (by decide)) (by decide)
  have hlc : ∀ ε0 ε1 ε2 ε3 ε5 : Option FV, fLcGo (tgN 4) fYes (fOp FL.gMod (fFn gInt (faCons (fVar 4) faNil)) (fOp FL.gAdd (fOp FL.gPow (fC (.int 10)) (fC (.int 24))) (fC (.int 7)))) [4] (iv ns) [] [ε0, ε1, ε2, ε3, none, ε5] = .ok (iv (ns.map fun x => x % (10 ^ (24 : Int).toNat + 7))) [ε0, ε1, ε2, ε3, none, ε5] := fun ε0 ε1 ε2 ε3 ε5 => by
    rw [lc_all (fun d => match d with
      | .int x => .int (x % (10 ^ (24 : Int).toNat + 7))
      | _ => .none) (by simp [iv]; omega)]
    · congr 1
      simp [iv, Function.comp_def]
    · intro d hd
      obtain ⟨z, hz, rfl⟩ := iv_mem hd
      refine ⟨_, rfl, by walk_at "fl", ?_⟩
      repeat first | simp only [g_add, g_pow (show CPowB 10 24 from pw 24 (by decide)), g_mod e24] | walk_at "fl"
  have hlen : ((iv ns).length : Int) = (ns.length : Int) := by simp [iv]
  have main : ∀ x : Int, Builtin.Int.intBits x ≤ 1048576 → (if (k : Int) < (ns.length : Int) then atI (iv ns) (k : Int) = some (.int x) else x = 43 * (k : Int) + 19 + (ns.length : Int)) → ∃ c, F__law_pot [.d (.list (iv ns)), .d (.int k)] = .ok (.own c) [] ∧ Pot 0 c := fun x hx hxx => by
    have k1 : Bits x 104729 := Bits.of (a := 1048576) (b := 20) hx (bits_le (by decide)) (by decide)
    have pot : ∀ a b : Int, Pot 0 (.lst [.int a, .int (b % (10 ^ (27 : Int).toNat + 103)), .int 0]) := fun a b => ⟨_, _, _, rfl, Int.emod_nonneg _ (by decide), Int.lt_of_lt_of_le (Int.emod_lt_of_pos _ e27) (by decide), by decide, by decide⟩
    suffices h : Told (fun r bs => ∃ c, r = .own c ∧ bs = [] ∧ Pot 0 c) (F__law_pot [.d (.list (iv ns)), .d (.int k)]) by
      obtain ⟨r, bs, e, c, rfl, rfl, h⟩ := told_ex h
      exact ⟨c, e, h⟩
    unfold F__law_pot fb__law_pot
    by_cases hlt : (k : Int) < (ns.length : Int)
    · rw [if_pos hlt] at hxx
      repeat first | simp only [g_add, g_mul h43, hlen, hlt, decide_true, hxx, hlc, gSum_iv, hT, g_mul k1, g_mul hB, g_mul hkk, g_pow (show CPowB 10 27 from pw 27 (by decide)), g_mod e27, g_pow (show CPowB 10 18 from pw 18 (by decide))] | walk_at "fl"
      exact ⟨_, rfl, rfl, pot _ _⟩
    · rw [if_neg hlt] at hxx
      subst hxx
      repeat first | simp only [g_add, g_mul h43, hlen, hlt, decide_false, hlc, gSum_iv, hT, g_mul k1, g_mul hB, g_mul hkk, g_pow (show CPowB 10 27 from pw 27 (by decide)), g_mod e27, g_pow (show CPowB 10 18 from pw 18 (by decide))] | walk_at "fl"
      exact ⟨_, rfl, rfl, pot _ _⟩
  by_cases hlt : (k : Int) < (ns.length : Int)
  · have hlt' : k < ns.length := by omega
    refine main ns[k] (hb _ (List.getElem_mem hlt')) ?_
    rw [if_pos hlt]
    exact atI_nat (by simp [iv, hlt'])
  · refine main (43 * (k : Int) + 19 + (ns.length : Int)) (Nat.le_trans (bits_le (k := 100) (by omega)) (by decide)) ?_
    rw [if_neg hlt]
/-! primes -/
def primes6 : List Int := [2, 3, 5, 7, 11, 13]
theorem p6_mods {p : Int} (h : p ∈ primes6) : p ∈ mods := by
  revert h; revert p; decide
theorem p6_primes {p : Int} (h : p ∈ primes6) : primesOf p = [p] := by
  have : ∀ p ∈ primes6, primesOf p = [p] := by decide
  exact this p h
def backI (v p : Int) : Int := (((List.range p.toNat).map fun (i : Nat) => (i : Int)).filter fun k => decide (k * v % p = 1)).headD 0
theorem back_ok {p v : Int} (hp : p ∈ primes6) (h0 : 0 < v) (h1 : v < p) : 0 < backI v p ∧ backI v p < p ∧ backI v p * v % p = 1 := by
  have key : ∀ p ∈ primes6, ∀ v ∈ (List.range p.toNat).map fun (i : Nat) => (i : Int), 0 < v → 0 < backI v p ∧ backI v p < p ∧ backI v p * v % p = 1 := by decide
  refine key p hp v ?_ h0
  exact List.mem_map.mpr ⟨v.toNat, List.mem_range.mpr (by omega), by omega⟩
end NA

namespace NA
open PySem PySem.Spec PyProof.Rows L2 DL FL RF
local macro_rules | `(tactic| walk_at "fl") => `(tactic| simp only [ap_var, ap_c, ap_un, ap_unV, ap_op, ap_opO, ap_fn, ap_nil, ap_cons, ap_tr, ap_b, ap_tand, ap_tor, ap_tnot, ap_and, ap_or, ap_not, ap_if, ap_chain, ap_tup, ap_lst, ap_lstO, ap_dictO, ap_frz, ap_sl, ap_no, ap_part, ap_mut, ap_call, ap_callK, ap_get, ap_dict, ap_isi, ap_rep, ap_listO, ap_seq, ap_iargs, ap_lc, ap_lcO, ap_yes, ap_sq, ap_ret, ap_drop, ap_sif, ap_nx, ap_bk, ap_ct, ap_asg, ap_setR, ap_runT, ap_bb0, ap_bbs, ap_bbn, ap_bbd, ap_bbc, ap_bbb, ap_sfrz, ap_setI, ap_setK, ap_for, ap_par, ap_asgT, ap_run, ap_see, ap_seeo, ap_seer, ap_getC, ap_setC, ap_sees0, ap_sees1, ap_parN, ap_view, ap_frza0, ap_frza, ap_frzc, ap_frzb, ap_frzd, ap_frzn, ap_call1, ap_c1o, ap_sar0, ap_sar1, ap_frv, ap_fro, ap_tgN, ap_tgT, fin_val, fin_own, fin_ref, fin_nx, bors_nil, bors_d, bors_b, R.bind_ok, ofO_some, ofB_some, ofOL_list, seeV, frV, vals, setAllF, wipeF, restF, callR, refsOf, argVs, putBack, setR2, setI, setK, ap_glt, ap_gle, ap_ggt, ap_gge, ap_gsub, ap_gadd, ap_gneg, ap_gix, ap_cutl, ap_cutt, ap_gtup, ap_glist, ap_glen, ap_gint, ap_gintb, ap_gabs, ap_gmax, ap_gmin, ap_isN, ap_notN, ap_geq, ap_gne, ap_eqi, ap_eqb, ap_eqs, ap_iol, ap_iot, ap_gtn, ap_gtb, ap_gti, ap_gtl, ap_gtt, ap_isn0, ap_isni, ap_isnl, ap_isnt, ap_revl, ap_revt, ap_enum, ap_zipl, ap_zipt, intsOf_map, boolsOf_map, ap_cellL, startF, List.map_cons, List.map_nil, List.length_cons, List.length_nil, List.replicate_succ, List.replicate_zero, List.cons_append, List.nil_append, List.append_nil, List.getElem?_cons_zero, List.getElem?_cons_succ, List.getElem?_nil, List.set_cons_zero, List.set_cons_succ, List.set_nil, Option.map_some, Option.map_none, Option.bind_some, Option.bind_none, Nat.reduceSub, Nat.reduceAdd, if_true, if_false, Bool.false_eq_true, reduceIte, true_and, and_true, Nat.sub_zero, Nat.zero_add, reduceCtorEq, List.nodup_nil, List.nodup_cons, List.not_mem_nil, not_false_eq_true, and_self, Bool.not_true, Bool.not_false, Bool.not_not, decide_true, decide_false, Nat.reduceLeDiff, atI0, atI1, req_true])
/-! ### polynomials: rows of coefficients -/
def pv : List Int → (Int → Int) → Int
  | [], _ => 0
  | x :: r, f => x * f 0 + pv r (fun i => f (i + 1))
theorem pv_cons {x : Int} {r : List Int} {f : Int → Int} : pv (x :: r) f = x * f 0 + pv r (fun i => f (i + 1)) := rfl
theorem pv_nil {f : Int → Int} : pv [] f = 0 := rfl
theorem pv_congr : ∀ {a : List Int} {f g : Int → Int}, (∀ i : Int, 0 ≤ i → i < a.length → f i = g i) → pv a f = pv a g
  | [], _, _, _ => rfl
  | x :: r, f, g, h => by
    unfold pv
    rw [h 0 (by omega) (by simp <;> omega), pv_congr fun i h0 h1 => h (i + 1) (by omega) (by simp <;> omega)]
theorem pv_add : ∀ {a : List Int} {f g : Int → Int}, pv a (fun i => f i + g i) = pv a f + pv a g
  | [], _, _ => rfl
  | x :: r, f, g => by
    unfold pv
    rw [pv_add (a := r) (f := fun i => f (i + 1)) (g := fun i => g (i + 1)), Int.mul_add]; omega
theorem pv_mul : ∀ {a : List Int} {c : Int} {f : Int → Int}, pv a (fun i => c * f i) = c * pv a f
  | [], c, f => by simp [pv]
  | x :: r, c, f => by
    unfold pv
    rw [pv_mul (a := r) (c := c) (f := fun i => f (i + 1)), Int.mul_add, Int.mul_left_comm]
theorem pv_zero : ∀ {a : List Int} {f : Int → Int}, (∀ i : Int, 0 ≤ i → i < a.length → f i = 0) → pv a f = 0
  | [], _, _ => rfl
  | x :: r, f, h => by
    unfold pv
    rw [h 0 (by omega) (by simp <;> omega), pv_zero fun i h0 h1 => h (i + 1) (by omega) (by simp <;> omega)]; simp
theorem pv_md {m : Int} : ∀ {a : List Int} {f g : Int → Int}, (∀ x, Md m (f x) (g x)) → Md m (pv a f) (pv a g)
  | [], _, _, _ => .refl
  | x :: r, f, g, h => by unfold pv; exact (h 0).mul.add (pv_md fun i => h (i + 1))
theorem pv_swap : ∀ {a b : List Int} {f : Int → Int → Int}, pv a (fun i => pv b (fun j => f i j)) = pv b (fun j => pv a (fun i => f i j))
  | [], b, f => (pv_zero fun _ _ _ => rfl).symm
  | x :: r, b, f => by
    rw [pv_cons, pv_swap (a := r)]
    simp only [pv_cons]
    rw [pv_add, pv_mul]
theorem pv_app : ∀ {a b : List Int} {f : Int → Int}, pv (a ++ b) f = pv a f + pv b (fun i => f (i + a.length))
  | [], b, f => by simp [pv]
  | x :: r, b, f => by
    rw [List.cons_append, pv_cons, pv_cons, pv_app (a := r), Int.add_assoc]
    congr 2
    refine pv_congr fun i _ _ => ?_
    rw [List.length_cons]
    congr 1
    omega
theorem pv_set : ∀ {a : List Int} {k : Nat} {x : Int} {f : Int → Int} (h : k < a.length), pv (a.set k x) f = pv a f + (x - a[k]) * f k
  | y :: r, 0, x, f, h => by
    rw [List.set_cons_zero]
    unfold pv
    simp only [List.getElem_cons_zero, Int.sub_mul]
    simp
    omega
  | y :: r, k + 1, x, f, h => by
    rw [List.set_cons_succ]
    unfold pv
    rw [pv_set (by simpa using h)]
    simp only [List.getElem_cons_succ]
    have : (((k + 1 : Nat)) : Int) = (k : Int) + 1 := by omega
    rw [this]
    omega
theorem pv_rep : ∀ {n : Nat} {f : Int → Int}, pv (List.replicate n 0) f = 0
  | 0, f => rfl
  | n + 1, f => by rw [List.replicate_succ]; unfold pv; rw [pv_rep]; simp
theorem pv_mod {m : Int} : ∀ {a : List Int} {f : Int → Int}, Md m (pv (a.map fun x => x % m) f) (pv a f)
  | [], _ => .refl
  | x :: r, f => by rw [List.map_cons]; unfold pv; exact Md.rest.mulr.add pv_mod
/-- one coefficient -/
def at1 (n : Int) : Int → Int := fun i => if i = n then 1 else 0
theorem pv_at : ∀ {a : List Int} {k : Nat} (h : k < a.length), pv a (at1 k) = a[k]
  | x :: r, 0, h => by
    unfold pv
    rw [pv_zero fun i h0 _ => by unfold at1; rw [if_neg (by omega)]]
    simp [at1]
  | x :: r, k + 1, h => by
    unfold pv
    have e : (fun i : Int => at1 ((k + 1 : Nat) : Int) (i + 1)) = at1 (k : Int) := by
      funext i
      unfold at1
      by_cases z : i = (k : Int)
      · rw [if_pos (by omega), if_pos z]
      · rw [if_neg (by omega), if_neg z]
    rw [e, pv_at (by simpa using h)]
    have : at1 ((k + 1 : Nat) : Int) 0 = 0 := by unfold at1; rw [if_neg (by omega)]
    rw [this]
    simp
theorem pv_off {a : List Int} {n : Int} (h : (a.length : Int) ≤ n) : pv a (at1 n) = 0 := pv_zero fun i _ h1 => by unfold at1; rw [if_neg (by omega)]
/-! sums and products of rows -/
def padd : List Int → List Int → List Int
  | [], b => b
  | a, [] => a
  | x :: a, y :: b => (x + y) :: padd a b
theorem pv_padd : ∀ {a b : List Int} {f : Int → Int}, pv (padd a b) f = pv a f + pv b f
  | [], b, f => by simp [padd, pv]
  | x :: a, [], f => by simp [padd, pv]
  | x :: a, y :: b, f => by
    unfold padd pv
    rw [pv_padd (a := a) (b := b), Int.add_mul]; omega
theorem pv_scale : ∀ {a : List Int} {c : Int} {f : Int → Int}, pv (a.map (c * ·)) f = c * pv a f
  | [], c, f => by simp [pv]
  | x :: a, c, f => by
    rw [List.map_cons]
    unfold pv
    rw [pv_scale, Int.mul_add, Int.mul_assoc]
def pmul : List Int → List Int → List Int
  | [], _ => []
  | x :: a, b => padd (b.map (x * ·)) (0 :: pmul a b)
theorem pv_pmul : ∀ {a b : List Int} {f : Int → Int}, pv (pmul a b) f = pv a fun i => pv b fun j => f (i + j)
  | [], b, f => rfl
  | x :: a, b, f => by
    unfold pmul
    rw [pv_padd, pv_scale]
    show x * pv b f + (0 * f 0 + pv (pmul a b) fun i => f (i + 1)) = x * (pv b fun j => f (0 + j)) + pv a fun i => pv b fun j => f (i + 1 + j)
    rw [pv_pmul]
    have e1 : pv b f = pv b fun j => f (0 + j) := pv_congr fun i _ _ => by rw [Int.zero_add]
    have e2 : (pv a fun i => pv b fun j => f (i + j + 1)) = pv a fun i => pv b fun j => f (i + 1 + j) := pv_congr fun i _ _ => pv_congr fun j _ _ => by congr 1; omega
    rw [e1, e2]; simp
/-! divisors -/
def Dv (p : Int) (d : List Int) (A : (Int → Int) → Int) : Prop := ∃ q : List Int, ∀ f, Md p (A f) (pv q fun i => pv d fun j => f (i + j))
theorem Dv.congr {p : Int} {d : List Int} {A B : (Int → Int) → Int} (h : Dv p d A) (e : ∀ f, Md p (B f) (A f)) : Dv p d B := let ⟨q, h⟩ := h; ⟨q, fun f => (e f).trans (h f)⟩
theorem Dv.add {p : Int} {d : List Int} {A B : (Int → Int) → Int} (h : Dv p d A) (g : Dv p d B) : Dv p d (fun f => A f + B f) := by
  obtain ⟨q, h⟩ := h
  obtain ⟨r, g⟩ := g
  exact ⟨padd q r, fun f => by rw [pv_padd]; exact (h f).add (g f)⟩
theorem Dv.mul {p : Int} {d b q : List Int} (h : Dv p d (pv b)) : Dv p d (fun f => pv q fun i => pv b fun j => f (i + j)) := by
  obtain ⟨r, h⟩ := h
  refine ⟨pmul q r, fun f => ?_⟩
  rw [pv_pmul]
  refine pv_md fun i => (h fun j => f (i + j)).trans (.of ?_)
  refine pv_congr fun k _ _ => pv_congr fun j _ _ => ?_
  rw [Int.add_assoc]
theorem Dv.scale {p : Int} {d : List Int} {A : (Int → Int) → Int} {c : Int} (h : Dv p d A) : Dv p d (fun f => c * A f) := by
  obtain ⟨q, h⟩ := h
  exact ⟨q.map (c * ·), fun f => by rw [pv_scale]; exact (h f).mul⟩
theorem Dv.self {p : Int} {d : List Int} : Dv p d (pv d) := ⟨[1], fun f => .of (by
  rw [pv_cons, pv_nil, Int.one_mul, Int.add_zero]
  exact pv_congr fun i _ _ => by rw [Int.zero_add])⟩
theorem Dv.nil {p : Int} {d : List Int} : Dv p d (pv []) := ⟨[], fun f => .refl⟩
/-- rests modulo p -/
def Pn (p : Int) (a : List Int) : Prop := ∀ x ∈ a, 0 ≤ x ∧ x < p
/-- no nought at the end -/
def Td (a : List Int) : Prop := ∀ h : a ≠ [], a.getLast h ≠ 0
structure IsRem (p : Int) (a b r : List Int) : Prop where
  pn : Pn p r
  td : Td r
  lt : r.length < b.length
  ev : ∃ q, ∀ f, Md p (pv a f) (pv r f + pv q fun i => pv b fun j => f (i + j))
theorem IsRem.dv {p : Int} {a b r d : List Int} (h : IsRem p a b r) (hb : Dv p d (pv b)) : Dv p d (pv a) ↔ Dv p d (pv r) := by
  obtain ⟨q, e⟩ := h.ev
  constructor
  · intro ha
    have h1 := ha.add ((hb.mul (q := q)).scale (c := -1))
    exact h1.congr fun f => by
      obtain ⟨k, hk⟩ := e f
      exact ⟨-k, by rw [Int.mul_neg]; omega⟩
  · intro hr
    exact (hr.add (hb.mul (q := q))).congr e
inductive Euc (p : Int) : List Int → List Int → List Int → Prop
  | done (a : List Int) : Euc p a [] a
  | turn {a b r g : List Int} : b ≠ [] → IsRem p a b r → Euc p b r g → Euc p a b g
theorem Euc.dv {p : Int} {a b g d : List Int} (h : Euc p a b g) : Dv p d (pv g) ↔ Dv p d (pv a) ∧ Dv p d (pv b) := by
  induction h with
  | done a => exact ⟨fun h => ⟨h, .nil⟩, fun h => h.1⟩
  | turn hb hr _ ih =>
    rw [ih]
    exact ⟨fun h => ⟨(hr.dv h.1).mpr h.2, h.1⟩, fun h => ⟨h.2, (hr.dv h.2).mp h.1⟩⟩
theorem Euc.good {p : Int} {a b g : List Int} (h : Euc p a b g) (pa : Pn p a) (pb : Pn p b) (ta : Td a) (tb : Td b) (na : a ≠ []) : Pn p g ∧ Td g ∧ g ≠ [] := by
  induction h with
  | done a => exact ⟨pa, ta, na⟩
  | turn hb hr _ ih => exact ih pb hr.pn tb hr.td hb
theorem dv_len {p : Int} (hp : p ∈ primes6) {d g : List Int} (pd : Pn p d) (td : Td d) (nd : d ≠ []) (pg : Pn p g) (tg : Td g) (ng : g ≠ []) (h : Dv p d (pv g)) : d.length ≤ g.length := by
  have hp0 : 0 < p := by have := modsB (p6_mods hp); omega
  obtain ⟨q, hq⟩ := h
  have ld : 0 < d.length := List.length_pos_iff.mpr nd
  have lg : 0 < g.length := List.length_pos_iff.mpr ng
  have main : ∀ (n : Nat) (q : List Int), q.length = n → (∀ f, Md p (pv g f) (pv q fun i => pv d fun j => f (i + j))) → d.length ≤ g.length := by
    intro n
    induction n with
    | zero =>
      intro q hl hq
      obtain rfl : q = [] := List.length_eq_zero_iff.mp hl
      have h1 := hq (at1 (g.length - 1 : Nat))
      rw [pv_at (by omega)] at h1
      have h2 : g[g.length - 1]'(by omega) ∈ g := List.getElem_mem _
      have h3 := pg _ h2
      have h4 := h1.eq h3.1 h3.2 (b := 0) (by omega) (by omega)
      have h5 := tg ng
      rw [List.getLast_eq_getElem] at h5
      exact (h5 h4).elim
    | succ n ih =>
      intro q hl hq
      have nq : q ≠ [] := fun z => by rw [z] at hl; simp at hl
      obtain ⟨q', x, rfl⟩ : ∃ q' x, q = q' ++ [x] := ⟨q.dropLast, q.getLast nq, (List.dropLast_concat_getLast nq).symm⟩
      have hl' : q'.length = n := by simpa using hl
      have split : ∀ F : Int → Int, pv (q' ++ [x]) F = pv q' F + x * F q'.length := fun F => by
        rw [pv_app, pv_cons, pv_nil]
        simp
      by_cases hx : x % p = 0
      · refine ih q' hl' fun f => ?_
        have h1 := hq f
        rw [split] at h1
        refine h1.trans ?_
        have h2 : Md p (x * pv d fun j => f (q'.length + j)) 0 := by
          have h3 : Md p (x % p) x := Md.rest
          rw [hx] at h3
          have := (h3.mulr (c := pv d fun j => f (q'.length + j))).symm
          rwa [Int.zero_mul] at this
        have h4 := (Md.refl (m := p) (a := pv q' fun i => pv d fun j => f (i + j))).add h2
        rwa [Int.add_zero] at h4
      · have h1 := hq (at1 ((q'.length : Int) + (d.length - 1 : Nat)))
        rw [split] at h1
        have e1 : (pv q' fun i => pv d fun j => at1 ((q'.length : Int) + (d.length - 1 : Nat)) (i + j)) = 0 := pv_zero fun i h0 h2 => pv_zero fun j h3 h4 => by
          unfold at1
          rw [if_neg (by omega)]
        have e2 : (pv d fun j => at1 ((q'.length : Int) + (d.length - 1 : Nat)) ((q'.length : Int) + j)) = d[d.length - 1]'(by omega) := by
          rw [← pv_at (a := d) (k := d.length - 1) (by omega)]
          refine pv_congr fun i _ _ => ?_
          unfold at1
          by_cases z : i = ((d.length - 1 : Nat) : Int)
          · rw [if_pos (by omega), if_pos z]
          · rw [if_neg (by omega), if_neg z]
        rw [e1, e2, Int.zero_add] at h1
        rcases Nat.lt_or_ge g.length d.length with z | z
        · exfalso
          rw [pv_off (by omega)] at h1
          have h5 := td nd
          rw [List.getLast_eq_getElem] at h5
          have h6 : d[d.length - 1]'(by omega) ∈ d := List.getElem_mem _
          have h7 := pd _ h6
          generalize d[d.length - 1]'(by omega) = y at h1 h5 h7
          obtain ⟨u0, u1, u2⟩ := back_ok hp (v := y) (by omega) h7.2
          have h8 : Md p (backI y p * y) 1 := by
            have := (Md.rest (m := p) (a := backI y p * y)).symm
            rw [u2] at this
            exact this
          have h9 : Md p x 0 := by
            have k1 := h8.mul (c := x)
            rw [Int.mul_one] at k1
            have k2 := h1.mul (c := backI y p)
            rw [Int.mul_zero] at k2
            refine k1.symm.trans (Md.trans (.of ?_) k2.symm)
            rw [Int.mul_left_comm]
          have ha := ((Md.rest (m := p) (a := x)).trans h9).eq (Int.emod_nonneg _ (by omega)) (Int.emod_lt_of_pos _ hp0) (by omega) hp0
          exact hx ha
        · exact z
  exact main _ q rfl hq
theorem euc_len {p : Int} (hp : p ∈ primes6) {g g' : List Int} (pg : Pn p g) (tg : Td g) (ng : g ≠ []) (pg' : Pn p g') (tg' : Td g') (ng' : g' ≠ []) (h : ∀ d, Dv p d (pv g) ↔ Dv p d (pv g')) : g.length = g'.length :=
  Nat.le_antisymm (dv_len hp pg tg ng pg' tg' ng' ((h g).mp .self)) (dv_len hp pg' tg' ng' pg tg ng ((h g').mpr .self))
end NA

namespace NA
open PySem PySem.Spec PyProof.Rows L2 DL FL RF
local macro_rules | `(tactic| walk_at "fl") => `(tactic| simp only [ap_var, ap_c, ap_un, ap_unV, ap_op, ap_opO, ap_fn, ap_nil, ap_cons, ap_tr, ap_b, ap_tand, ap_tor, ap_tnot, ap_and, ap_or, ap_not, ap_if, ap_chain, ap_tup, ap_lst, ap_lstO, ap_dictO, ap_frz, ap_sl, ap_no, ap_part, ap_mut, ap_call, ap_callK, ap_get, ap_dict, ap_isi, ap_rep, ap_listO, ap_seq, ap_iargs, ap_lc, ap_lcO, ap_yes, ap_sq, ap_ret, ap_drop, ap_sif, ap_nx, ap_bk, ap_ct, ap_asg, ap_setR, ap_runT, ap_bb0, ap_bbs, ap_bbn, ap_bbd, ap_bbc, ap_bbb, ap_sfrz, ap_setI, ap_setK, ap_for, ap_par, ap_asgT, ap_run, ap_see, ap_seeo, ap_seer, ap_getC, ap_setC, ap_sees0, ap_sees1, ap_parN, ap_view, ap_frza0, ap_frza, ap_frzc, ap_frzb, ap_frzd, ap_frzn, ap_call1, ap_c1o, ap_sar0, ap_sar1, ap_frv, ap_fro, ap_tgN, ap_tgT, fin_val, fin_own, fin_ref, fin_nx, bors_nil, bors_d, bors_b, R.bind_ok, ofO_some, ofB_some, ofOL_list, seeV, frV, vals, setAllF, wipeF, restF, callR, refsOf, argVs, putBack, setR2, setI, setK, ap_glt, ap_gle, ap_ggt, ap_gge, ap_gsub, ap_gadd, ap_gneg, ap_gix, ap_cutl, ap_cutt, ap_gtup, ap_glist, ap_glen, ap_gint, ap_gintb, ap_gabs, ap_gmax, ap_gmin, ap_isN, ap_notN, ap_geq, ap_gne, ap_eqi, ap_eqb, ap_eqs, ap_iol, ap_iot, ap_gtn, ap_gtb, ap_gti, ap_gtl, ap_gtt, ap_isn0, ap_isni, ap_isnl, ap_isnt, ap_revl, ap_revt, ap_enum, ap_zipl, ap_zipt, intsOf_map, boolsOf_map, ap_cellL, startF, List.map_cons, List.map_nil, List.length_cons, List.length_nil, List.replicate_succ, List.replicate_zero, List.cons_append, List.nil_append, List.append_nil, List.getElem?_cons_zero, List.getElem?_cons_succ, List.getElem?_nil, List.set_cons_zero, List.set_cons_succ, List.set_nil, Option.map_some, Option.map_none, Option.bind_some, Option.bind_none, Nat.reduceSub, Nat.reduceAdd, if_true, if_false, Bool.false_eq_true, reduceIte, true_and, and_true, Nat.sub_zero, Nat.zero_add, reduceCtorEq, List.nodup_nil, List.nodup_cons, List.not_mem_nil, not_false_eq_true, and_self, Bool.not_true, Bool.not_false, Bool.not_not, decide_true, decide_false, Nat.reduceLeDiff, atI0, atI1, req_true])
/-! ### rows that are changed place by place -/
theorem ixN_of {n : Nat} {i : Int} (h0 : 0 ≤ i) (h1 : i < n) : ixN n i = some i.toNat := by
  unfold ixN
  rw [if_pos h0, if_pos h1]
def cg (a : List Int) (i : Int) : Int := (a[i.toNat]?).getD 0
theorem cg_ix {a : List Int} {i : Int} (h0 : 0 ≤ i) (h1 : i < a.length) : atI (iv a) i = some (.int (cg a i)) := by
  obtain ⟨k, rfl⟩ := Int.eq_ofNat_of_zero_le h0
  have hk : k < a.length := by omega
  refine atI_nat ?_
  simp [iv, cg, hk]
theorem cg_mem {a : List Int} {i : Int} (h0 : 0 ≤ i) (h1 : i < a.length) : cg a i ∈ a := by
  unfold cg
  have hk : i.toNat < a.length := by omega
  rw [List.getElem?_eq_getElem hk]
  exact List.getElem_mem hk
theorem pv_setI {a : List Int} {i x : Int} {f : Int → Int} (h0 : 0 ≤ i) (h1 : i < a.length) : pv (a.set i.toNat x) f = pv a f + (x - cg a i) * f i := by
  have hk : i.toNat < a.length := by omega
  rw [pv_set hk]
  unfold cg
  rw [List.getElem?_eq_getElem hk, Option.getD_some]
  congr 2
  congr 1
  omega
theorem iv_len {a : List Int} : (iv a).length = a.length := by simp [iv]
theorem iv_set {a : List Int} {k : Nat} {x : Int} : (iv a).set k (.int x) = iv (a.set k x) := by
  unfold iv
  rw [List.map_set]
theorem pn_set {p : Int} {a : List Int} {k : Nat} {x : Int} (h : Pn p a) (h0 : 0 ≤ x) (h1 : x < p) : Pn p (a.set k x) := fun y hy => by
  rcases List.mem_or_eq_of_mem_set hy with z | rfl
  · exact h y z
  · exact ⟨h0, h1⟩
theorem paired_rg {ys ds : List PyData} {m : Int} (h : PySem.Paired (fun _ r => ∃ v : Int, r = PyData.int v ∧ 0 ≤ v ∧ v < m) ds ys) : ∃ vs, ys = iv vs ∧ Pn m vs ∧ vs.length = ds.length := by
  induction h with
  | nil => exact ⟨[], rfl, (fun v h => by cases h), rfl⟩
  | cons h _ ih =>
    obtain ⟨v, rfl, h0, h1⟩ := h
    obtain ⟨vs, rfl, h2, h3⟩ := ih
    refine ⟨v :: vs, rfl, fun w hw => ?_, by simp [h3]⟩
    rcases List.mem_cons.mp hw with rfl | z
    · exact ⟨h0, h1⟩
    · exact h2 w z
/-- a polynomial: its first and its last coefficient are not nought -/
structure Pl (p : Int) (a : List Int) : Prop where
  pn : Pn p a
  ne : a ≠ []
  fs : cg a 0 ≠ 0
  ls : cg a (a.length - 1 : Nat) ≠ 0
theorem Pl.td {p : Int} {a : List Int} (h : Pl p a) : Td a := fun hn => by
  have := h.ls
  rw [List.getLast_eq_getElem]
  have hl := List.length_pos_iff.mpr hn
  unfold cg at this
  rw [Int.toNat_natCast, List.getElem?_eq_getElem (by omega), Option.getD_some] at this
  exact this
theorem Pl.pos {p : Int} {a : List Int} (h : Pl p a) : 0 < a.length := List.length_pos_iff.mpr h.ne
theorem cg_set_same {a : List Int} {i x : Int} (h0 : 0 ≤ i) (h1 : i < a.length) : cg (a.set i.toNat x) i = x := by
  have hk : i.toNat < a.length := by omega
  unfold cg
  rw [List.getElem?_set_self hk, Option.getD_some]
theorem cg_set_ne {a : List Int} {i j x : Int} (h0 : 0 ≤ i) (h2 : 0 ≤ j) (h : i ≠ j) : cg (a.set i.toNat x) j = cg a j := by
  unfold cg
  rw [List.getElem?_set_ne (by omega)]
theorem e_poly {c : Cell} {n w : Nat} {p : Int} (h : Pot n c) (hp : p ∈ primes6) (hw : w ≤ 40) (hn : n + 50 ≤ 1000000) :
    ∃ a c', F__law_poly [.b c, .d (.int p), .d (.int w)] = .ok (.own (.lst (iv a))) [c'] ∧ Pl p a ∧ a.length = w + 1 ∧ Pot (n + 50) c' := by
  have mb := modsB (p6_mods hp)
  have hL : (rangeD 0 ((w : Int) + 1).toNat).length = w + 1 := by simp [rangeD]
  have rg : gRange1 [.int ((w : Int) + 1)] = some (rangeD 0 ((w : Int) + 1).toNat) := req_pos (by omega)
  obtain ⟨ys, ε', e1, e2, c1, rfl, p1⟩ := lc_rel (gf := tgN 4) (tt := fYes) (fe := fCall F__law_draw (faCons (fVar 0) (faCons (fVar 1) faNil))) (vs := [4])
    (fun k ε => ∃ c, ε = [some (.b c), some (.d (.int p)), some (.d (.int w)), none, none] ∧ Pot k c)
    (fun _ r => ∃ v : Int, r = PyData.int v ∧ 0 ≤ v ∧ v < p) 1 1000000 (rangeD 0 ((w : Int) + 1).toNat) [] n _ (by rw [List.length_nil, hL]; omega) (by rw [hL]; omega) ⟨c, rfl, h⟩ (by
      rintro d hd k ε ⟨c, rfl, hc⟩ hk
      obtain ⟨f, c', e, f0, f1, hp⟩ := e_draw hc (many := p) (by omega) (Int.le_trans mb.2 (by decide)) (by omega)
      refine ⟨_, _, .int f, [some (.b c'), some (.d (.int p)), some (.d (.int w)), none, some (.d d)], rfl, rfl, ?_, ⟨f, rfl, f0, f1⟩, c', by walk_at "fl", hp⟩
      repeat first | simp only [e] | walk_at "fl")
  obtain ⟨vs, rfl, pn, hl⟩ := paired_rg e2
  rw [hL] at hl p1
  rw [List.nil_append] at e1
  obtain ⟨r1, c2, e3, r10, r11, p2⟩ := e_draw p1 (many := p - 1) (by omega) (Int.le_trans (b := 15) (by omega) (by decide)) (by omega)
  obtain ⟨r2, c3, e4, r20, r21, p3⟩ := e_draw p2 (many := p - 1) (by omega) (Int.le_trans (b := 15) (by omega) (by decide)) (by omega)
  have i0 : ixN (iv vs).length 0 = some 0 := ixN_of (i := 0) (by omega) (by rw [iv_len]; omega)
  have i1 : ixN (iv (vs.set 0 (1 + r1))).length (w : Int) = some w := ixN_of (i := (w : Int)) (by omega) (by rw [iv_len, List.length_set]; omega)
  refine ⟨(vs.set 0 (1 + r1)).set w (1 + r2), c3, ?_, ⟨pn_set (pn_set pn (by omega) (by omega)) (by omega) (by omega), ?_, ?_, ?_⟩, by simpa using hl, p3.mono (by omega)⟩
  · unfold F__law_poly fb__law_poly
    repeat first | simp only [rg, e1, e3, e4, i0, i1, iv_set, g_add] | walk_at "fl"
  · intro z
    have := congrArg List.length z
    rw [List.length_set, List.length_set, List.length_nil] at this
    omega
  · have hs := cg_set_same (a := vs) (i := 0) (x := 1 + r1) (by omega) (by omega)
    by_cases z : w = 0
    · subst z
      have := cg_set_same (a := vs.set 0 (1 + r1)) (i := 0) (x := 1 + r2) (by omega) (by rw [List.length_set]; omega)
      rw [show (0 : Int).toNat = 0 from rfl] at this
      rw [this]; omega
    · have := cg_set_ne (a := vs.set 0 (1 + r1)) (i := (w : Int)) (j := 0) (x := 1 + r2) (by omega) (by omega) (by omega)
      rw [Int.toNat_natCast] at this
      rw [this]
      rw [show (0 : Int).toNat = 0 from rfl] at hs
      rw [hs]; omega
  · have hl2 : ((vs.set 0 (1 + r1)).set w (1 + r2)).length - 1 = w := by rw [List.length_set, List.length_set]; omega
    rw [hl2]
    have := cg_set_same (a := vs.set 0 (1 + r1)) (i := (w : Int)) (x := 1 + r2) (by omega) (by rw [List.length_set]; omega)
    rw [Int.toNat_natCast] at this
    rw [this]; omega
/-! products -/
theorem prod_in {x0 x1 : Option FV} {p at0 v : Int} (hp : p ∈ primes6) (h0 : 0 ≤ at0) (v0 : 0 ≤ v) (v1 : v < p) : ∀ (b : List Int) (k : Nat) (cs : List Int) (y z u : Option FV), bb y = false → bb z = false → bb u = false → Pn p b → Pn p cs → at0 + k + b.length ≤ cs.length →
    ∃ cs' y' z' u', fsGo (tgT [6, 7]) lb__law_product_2 (enumD k (iv b)) [x0, x1, some (.d (.int p)), some (.c (.lst (iv cs))), some (.d (.int at0)), some (.d (.int v)), y, z, u]
      = .ok .nx [x0, x1, some (.d (.int p)), some (.c (.lst (iv cs'))), some (.d (.int at0)), some (.d (.int v)), y', z', u'] ∧ bb y' = false ∧ bb z' = false ∧ bb u' = false ∧ Pn p cs' ∧ cs'.length = cs.length ∧ ∀ f, Md p (pv cs' f) (pv cs f + v * pv b fun j => f (at0 + k + j))
  | [], k, cs, y, z, u, hy, hz, hu, _, pc, _ => ⟨cs, y, z, u, rfl, hy, hz, hu, pc, rfl, fun f => .of (by simp [pv])⟩
  | x :: b, k, cs, y, z, u, hy, hz, hu, pb, pc, hl => by
    have mb := modsB (p6_mods hp)
    have hx := pb x List.mem_cons_self
    simp only [List.length_cons] at hl
    have j0 : 0 ≤ at0 + (k : Int) := by omega
    have j1 : at0 + (k : Int) < cs.length := by omega
    have hc := pc _ (cg_mem j0 j1)
    have g1 := g_mul (i := v) (j := x) (bits_small (by omega) (by omega))
    have pm : 0 < p := by omega
    obtain ⟨cs', y', z', u', e, q1, q2, q3, q4, q5, q6⟩ := prod_in (x0 := x0) (x1 := x1) hp h0 v0 v1 b (k + 1) (cs.set (at0 + k).toNat ((cg cs (at0 + k) + v * x) % p)) (some (.d (.int k))) (some (.d (.int x))) (some (.d (.int (cg cs (at0 + k) + v * x)))) rfl rfl rfl
      (fun w hw => pb w (List.mem_cons_of_mem _ hw)) (pn_set pc (Int.emod_nonneg _ (by omega)) (Int.emod_lt_of_pos _ pm)) (by rw [List.length_set]; omega)
    refine ⟨cs', y', z', u', ?_, q1, q2, q3, q4, by rw [q5, List.length_set], fun f => ?_⟩
    · rw [show enumD k (iv (x :: b)) = .tuple [.int k, .int x] :: enumD (k + 1) (iv b) from rfl]
      refine (go_nx ?_).trans e
      have i1 : ixN (iv cs).length (at0 + (k : Int)) = some (at0 + (k : Int)).toNat := ixN_of j0 (by rw [iv_len]; exact j1)
      unfold lb__law_product_2
      repeat first | simp only [hy, hz, hu, g_add, g1, cg_ix j0 j1, g_mod pm, i1, iv_set] | walk_at "fl"
    · refine (q6 f).trans ?_
      rw [pv_setI j0 j1, pv_cons]
      have e1 : (pv b fun j => f (at0 + ((k + 1 : Nat) : Int) + j)) = pv b fun i => f (at0 + (k : Int) + (i + 1)) := pv_congr fun i _ _ => by congr 1; omega
      rw [e1, Int.add_zero, Int.mul_add, ← Int.add_assoc]
      refine Md.add ?_ .refl
      have h2 : Md p ((cg cs (at0 + k) + v * x) % p - cg cs (at0 + k)) (v * x) := by
        obtain ⟨t, ht⟩ := Md.rest (m := p) (a := cg cs (at0 + k) + v * x)
        exact ⟨t, by omega⟩
      have h3 := (Md.refl (m := p) (a := pv cs f)).add (h2.mulr (c := f (at0 + k)))
      refine h3.trans (.of ?_)
      rw [Int.mul_assoc]
theorem prod_out {x0 : Option FV} {p : Int} {b : List Int} (hp : p ∈ primes6) (pb : Pn p b) : ∀ (a : List Int) (k : Nat) (cs : List Int) (s t y z u : Option FV), bb s = false → bb t = false → bb y = false → bb z = false → bb u = false → Pn p a → Pn p cs → a.length + k + b.length ≤ cs.length + 1 →
    ∃ cs' s' t' y' z' u', fsGo (tgT [4, 5]) lb__law_product_1 (enumD k (iv a)) [x0, some (.d (.list (iv b))), some (.d (.int p)), some (.c (.lst (iv cs))), s, t, y, z, u]
      = .ok .nx [x0, some (.d (.list (iv b))), some (.d (.int p)), some (.c (.lst (iv cs'))), s', t', y', z', u'] ∧ Pn p cs' ∧ cs'.length = cs.length ∧ ∀ f, Md p (pv cs' f) (pv cs f + pv a fun i => pv b fun j => f (k + i + j))
  | [], k, cs, s, t, y, z, u, _, _, _, _, _, _, pc, _ => ⟨cs, s, t, y, z, u, rfl, pc, rfl, fun f => .of (by simp [pv])⟩
  | x :: a, k, cs, s, t, y, z, u, hs, ht, hy, hz, hu, pa, pc, hl => by
    have hx := pa x List.mem_cons_self
    simp only [List.length_cons] at hl
    obtain ⟨c1, y1, z1, u1, e1, b1, b2, b3, p1, l1, m1⟩ := prod_in (x0 := x0) (x1 := some (.d (.list (iv b)))) (at0 := (k : Int)) hp (by omega) hx.1 hx.2 b 0 cs y z u hy hz hu pb pc (by omega)
    obtain ⟨cs', s', t', y', z', u', e, q1, q2, q3⟩ := prod_out (x0 := x0) hp pb a (k + 1) c1 (some (.d (.int k))) (some (.d (.int x))) y1 z1 u1 rfl rfl b1 b2 b3 (fun w hw => pa w (List.mem_cons_of_mem _ hw)) p1 (by rw [l1]; omega)
    refine ⟨cs', s', t', y', z', u', ?_, q1, by rw [q2, l1], fun f => ?_⟩
    · rw [show enumD k (iv (x :: a)) = .tuple [.int k, .int x] :: enumD (k + 1) (iv a) from rfl]
      refine (go_nx ?_).trans e
      unfold lb__law_product_1
      repeat first | simp only [hs, ht, gEnum, e1] | walk_at "fl"
    · refine (q3 f).trans ?_
      rw [pv_cons, ← Int.add_assoc]
      refine ((m1 f).add ?_)
      refine .of (pv_congr fun i _ _ => pv_congr fun j _ _ => ?_)
      congr 1
      omega
theorem md_prime {p x y : Int} (hp : p ∈ primes6) (hx0 : 0 < x) (hx1 : x < p) (hy0 : 0 < y) (hy1 : y < p) : ¬ Md p (x * y) 0 := fun h => by
  obtain ⟨u0, u1, u2⟩ := back_ok hp hy0 hy1
  have h8 : Md p (backI y p * y) 1 := by
    have := (Md.rest (m := p) (a := backI y p * y)).symm
    rw [u2] at this
    exact this
  have h9 : Md p x 0 := by
    have k1 := h8.mul (c := x)
    rw [Int.mul_one] at k1
    have k2 := h.mul (c := backI y p)
    rw [Int.mul_zero] at k2
    refine k1.symm.trans (Md.trans (.of ?_) k2)
    rw [Int.mul_left_comm]
  have := h9.eq (by omega) hx1 (by omega) (by omega)
  omega
theorem pl_prod {p : Int} {a b r : List Int} (hp : p ∈ primes6) (ha : Pl p a) (hb : Pl p b) (pr : Pn p r) (hl : r.length + 1 = a.length + b.length) (h : ∀ f, Md p (pv r f) (pv a fun i => pv b fun j => f (i + j))) : Pl p r := by
  have la := ha.pos
  have lb := hb.pos
  have get : ∀ {c : List Int} {k : Nat}, k < c.length → cg c (k : Int) = pv c (at1 k) := fun {c k} hk => by
    rw [pv_at hk]
    unfold cg
    rw [Int.toNat_natCast, List.getElem?_eq_getElem hk, Option.getD_some]
  have rga := fun (k : Nat) (hk : k < a.length) => ha.pn _ (cg_mem (a := a) (i := (k : Int)) (by omega) (by omega))
  have rgb := fun (k : Nat) (hk : k < b.length) => hb.pn _ (cg_mem (a := b) (i := (k : Int)) (by omega) (by omega))
  refine ⟨pr, fun z => by rw [z] at hl; simp at hl; omega, fun z => ?_, fun z => ?_⟩
  · have h1 := h (at1 ((0 : Nat) : Int))
    rw [← get (by omega), show ((0 : Nat) : Int) = 0 from rfl, z] at h1
    have e1 : (pv a fun i => pv b fun j => at1 0 (i + j)) = cg a 0 * cg b 0 := by
      have e2 : (pv a fun i => pv b fun j => at1 0 (i + j)) = pv a fun i => cg b 0 * at1 0 i := pv_congr fun i i0 _ => by
        by_cases hi : i = 0
        · subst hi
          have := get (c := b) (k := 0) lb
          rw [show ((0 : Nat) : Int) = 0 from rfl] at this
          rw [this]
          simp only [Int.zero_add]
          unfold at1
          simp
        · rw [pv_zero fun j j0 _ => by unfold at1; rw [if_neg (by omega)]]
          unfold at1
          rw [if_neg hi]; simp
      have := get (c := a) (k := 0) la
      rw [show ((0 : Nat) : Int) = 0 from rfl] at this
      rw [e2, pv_mul, ← this, Int.mul_comm]
    rw [e1] at h1
    have qa := rga 0 la
    have qb := rgb 0 lb
    have fa := ha.fs
    have fb := hb.fs
    rw [show ((0 : Nat) : Int) = 0 from rfl] at qa qb
    exact md_prime hp (by omega) qa.2 (by omega) qb.2 h1.symm
  · have h1 := h (at1 ((r.length - 1 : Nat) : Int))
    rw [← get (by omega), z] at h1
    have e1 : (pv a fun i => pv b fun j => at1 ((r.length - 1 : Nat) : Int) (i + j)) = cg a (a.length - 1 : Nat) * cg b (b.length - 1 : Nat) := by
      have e2 : (pv a fun i => pv b fun j => at1 ((r.length - 1 : Nat) : Int) (i + j)) = pv a fun i => cg b (b.length - 1 : Nat) * at1 (a.length - 1 : Nat) i := pv_congr fun i i0 i1 => by
        by_cases hi : i = ((a.length - 1 : Nat) : Int)
        · rw [get (c := b) (by omega)]
          have e3 : (pv b fun j => at1 ((r.length - 1 : Nat) : Int) (i + j)) = pv b (at1 ((b.length - 1 : Nat) : Int)) := pv_congr fun j _ _ => by
            unfold at1
            by_cases hj : j = ((b.length - 1 : Nat) : Int)
            · rw [if_pos (by omega), if_pos hj]
            · rw [if_neg (by omega), if_neg hj]
          rw [e3, hi]
          unfold at1
          simp
        · rw [pv_zero fun j j0 j1 => by unfold at1; rw [if_neg (by omega)]]
          unfold at1
          rw [if_neg hi]; simp
      rw [e2, pv_mul, ← get (by omega), Int.mul_comm]
    rw [e1] at h1
    have qa := rga (a.length - 1) (by omega)
    have qb := rgb (b.length - 1) (by omega)
    have fa := ha.ls
    have fb := hb.ls
    exact md_prime hp (by omega) qa.2 (by omega) qb.2 h1.symm
theorem flat_rep {x : PyData} : ∀ {n : Nat}, (List.replicate n [x]).flatten = List.replicate n x
  | 0 => rfl
  | n + 1 => by rw [List.replicate_succ, List.flatten_cons, flat_rep, List.replicate_succ]; rfl
theorem rep_iv {n : Nat} : List.replicate n (PyData.int 0) = iv (List.replicate n 0) := by simp [iv]
theorem e_product {p : Int} {a b : List Int} (hp : p ∈ primes6) (ha : Pl p a) (hb : Pl p b) (hl : a.length + b.length ≤ 1000) :
    ∃ r, F__law_product [.d (.list (iv a)), .d (.list (iv b)), .d (.int p)] = .ok (.own (.lst (iv r))) [] ∧ Pl p r ∧ r.length + 1 = a.length + b.length ∧ ∀ f, Md p (pv r f) (pv a fun i => pv b fun j => f (i + j)) := by
  have la := ha.pos
  have lb := hb.pos
  have mb := modsB (p6_mods hp)
  let n := a.length + b.length - 1
  obtain ⟨r, s, t, y, z, u, e, q1, q2, q3⟩ := prod_out (x0 := some (.d (.list (iv a)))) (b := b) hp hb.pn a 0 (List.replicate n 0) none none none none none rfl rfl rfl rfl rfl ha.pn (fun x hx => by rw [(List.mem_replicate.mp hx).2]; omega) (by rw [List.length_replicate]; omega)
  rw [List.length_replicate] at q2
  have q4 : ∀ f, Md p (pv r f) (pv a fun i => pv b fun j => f (i + j)) := fun f => by
    refine (q3 f).trans (.of ?_)
    rw [pv_rep, Int.zero_add]
    exact pv_congr fun i _ _ => pv_congr fun j _ _ => by simp
  refine ⟨r, ?_, pl_prod hp ha hb q1 (by omega) q4, by omega, q4⟩
  have hn : ((a.length : Int) + (b.length : Int) - 1).toNat = n := by omega
  have hb1 : -(2 ^ 63) ≤ (a.length : Int) + (b.length : Int) - 1 ∧ (a.length : Int) + (b.length : Int) - 1 < 2 ^ 63 ∧ 1 * ((a.length : Int) + (b.length : Int) - 1).toNat ≤ 900000 := by omega
  have hb2 : 1 * n ≤ 900000 := by omega
  have hla : ((iv a).length : Int) = (a.length : Int) := by rw [iv_len]
  have hlb : ((iv b).length : Int) = (b.length : Int) := by rw [iv_len]
  unfold F__law_product fb__law_product
  repeat first | simp only [hla, hlb, g_add, gEnum, repR, lstOf, hb1, hn, hb2, flat_rep, rep_iv, e] | walk_at "fl"
end NA

namespace NA
open PySem PySem.Spec PyProof.Rows L2 DL FL RF
local macro_rules | `(tactic| walk_at "fl") => `(tactic| simp only [ap_var, ap_c, ap_un, ap_unV, ap_op, ap_opO, ap_fn, ap_nil, ap_cons, ap_tr, ap_b, ap_tand, ap_tor, ap_tnot, ap_and, ap_or, ap_not, ap_if, ap_chain, ap_tup, ap_lst, ap_lstO, ap_dictO, ap_frz, ap_sl, ap_no, ap_part, ap_mut, ap_call, ap_callK, ap_get, ap_dict, ap_isi, ap_rep, ap_listO, ap_seq, ap_iargs, ap_lc, ap_lcO, ap_yes, ap_sq, ap_ret, ap_drop, ap_sif, ap_nx, ap_bk, ap_ct, ap_asg, ap_setR, ap_runT, ap_bb0, ap_bbs, ap_bbn, ap_bbd, ap_bbc, ap_bbb, ap_sfrz, ap_setI, ap_setK, ap_for, ap_par, ap_asgT, ap_run, ap_see, ap_seeo, ap_seer, ap_getC, ap_setC, ap_sees0, ap_sees1, ap_parN, ap_view, ap_frza0, ap_frza, ap_frzc, ap_frzb, ap_frzd, ap_frzn, ap_call1, ap_c1o, ap_sar0, ap_sar1, ap_frv, ap_fro, ap_tgN, ap_tgT, fin_val, fin_own, fin_ref, fin_nx, bors_nil, bors_d, bors_b, R.bind_ok, ofO_some, ofB_some, ofOL_list, seeV, frV, vals, setAllF, wipeF, restF, callR, refsOf, argVs, putBack, setR2, setI, setK, ap_glt, ap_gle, ap_ggt, ap_gge, ap_gsub, ap_gadd, ap_gneg, ap_gix, ap_cutl, ap_cutt, ap_gtup, ap_glist, ap_glen, ap_gint, ap_gintb, ap_gabs, ap_gmax, ap_gmin, ap_isN, ap_notN, ap_geq, ap_gne, ap_eqi, ap_eqb, ap_eqs, ap_iol, ap_iot, ap_gtn, ap_gtb, ap_gti, ap_gtl, ap_gtt, ap_isn0, ap_isni, ap_isnl, ap_isnt, ap_revl, ap_revt, ap_enum, ap_zipl, ap_zipt, intsOf_map, boolsOf_map, ap_cellL, startF, List.map_cons, List.map_nil, List.length_cons, List.length_nil, List.replicate_succ, List.replicate_zero, List.cons_append, List.nil_append, List.append_nil, List.getElem?_cons_zero, List.getElem?_cons_succ, List.getElem?_nil, List.set_cons_zero, List.set_cons_succ, List.set_nil, Option.map_some, Option.map_none, Option.bind_some, Option.bind_none, Nat.reduceSub, Nat.reduceAdd, if_true, if_false, Bool.false_eq_true, reduceIte, true_and, and_true, Nat.sub_zero, Nat.zero_add, reduceCtorEq, List.nodup_nil, List.nodup_cons, List.not_mem_nil, not_false_eq_true, and_self, Bool.not_true, Bool.not_false, Bool.not_not, decide_true, decide_false, Nat.reduceLeDiff, atI0, atI1, req_true])
/-! ### inverses, trimmed rows -/
def backL (v p : Int) : List Int := ((List.range p.toNat).map fun (i : Nat) => (i : Int)).filter fun k => decide (k * v % p = 1)
theorem back_at {p v : Int} (hp : p ∈ primes6) (h0 : 0 < v) (h1 : v < p) : atI (iv (backL v p)) 0 = some (.int (backI v p)) := by
  obtain ⟨u0, u1, u2⟩ := back_ok hp h0 h1
  unfold backI at u0 ⊢
  unfold backL
  cases e : ((List.range p.toNat).map fun (i : Nat) => (i : Int)).filter fun k => decide (k * v % p = 1) with
  | nil => rw [e] at u0; simp at u0
  | cons x r => exact atI0
theorem back_f {p v : Int} : (rangeD 0 p.toNat).filter (fun d => match d with
    | .int k => decide (k * v % p = 1)
    | _ => false) = iv (backL v p) := by
  rw [rangeD0]
  unfold iv backL
  rw [List.filter_map]
  rfl
theorem e_inverse {p v : Int} (hp : p ∈ primes6) (h0 : 0 < v) (h1 : v < p) : F_inverse [.d (.int v), .d (.int p)] = tell (.int (backI v p)) := by
  have mb := modsB (p6_mods hp)
  have rg : gRange1 [.int p] = some (rangeD 0 p.toNat) := req_pos (by omega)
  have pm : 0 < p := by omega
  unfold F_inverse fb_inverse
  repeat first | simp only [rg] | walk_at "fl"
  rw [lc_some (fun d => d) (fun d => match d with
    | .int k => decide (k * v % p = 1)
    | _ => false) (by simp [rangeD]; omega), back_f, List.map_id']
  · repeat first | simp only [back_at hp h0 h1] | walk_at "fl"
  · intro d hd
    rw [rangeD0] at hd
    obtain ⟨k, hk, rfl⟩ := iv_mem hd
    obtain ⟨i, hi, rfl⟩ := List.mem_map.mp hk
    have hi := List.mem_range.mp hi
    refine ⟨_, rfl, by walk_at "fl", ?_, fun _ => by walk_at "fl"⟩
    repeat first | simp only [g_mul (i := (i : Int)) (j := v) (bits_small (by omega) (by omega)), g_mod pm, eqP] | walk_at "fl"
theorem e_back {p v : Int} (hp : p ∈ primes6) (h0 : 0 < v) (h1 : v < p) : F__law_back [.d (.int v), .d (.int p)] = tell (.int (backI v p)) := by
  have mb := modsB (p6_mods hp)
  have rg : gRange1 [.int p] = some (rangeD 0 p.toNat) := req_pos (by omega)
  have pm : 0 < p := by omega
  unfold F__law_back fb__law_back
  repeat first | simp only [rg] | walk_at "fl"
  rw [lc_some (fun d => d) (fun d => match d with
    | .int k => decide (k * v % p = 1)
    | _ => false) (by simp [rangeD]; omega), back_f, List.map_id']
  · repeat first | simp only [back_at hp h0 h1] | walk_at "fl"
  · intro d hd
    rw [rangeD0] at hd
    obtain ⟨k, hk, rfl⟩ := iv_mem hd
    obtain ⟨i, hi, rfl⟩ := List.mem_map.mp hk
    have hi := List.mem_range.mp hi
    refine ⟨_, rfl, by walk_at "fl", ?_, fun _ => by walk_at "fl"⟩
    repeat first | simp only [g_mul (i := (i : Int)) (j := v) (bits_small (by omega) (by omega)), g_mod pm, eqP] | walk_at "fl"
theorem iv_snoc {a : List Int} {x : Int} : iv (a ++ [x]) = iv a ++ [.int x] := by simp [iv]
theorem snoc_of {a : List Int} (h : a ≠ []) : ∃ a' x, a = a' ++ [x] ∧ a.getLast h = x := ⟨a.dropLast, a.getLast h, (List.dropLast_concat_getLast h).symm, rfl⟩
theorem while_trim {x0 x1 y : Option FV} : ∀ (n : Nat) (a : List Int), a.length = n →
    ∃ r k, fsWhile (ftAnd (fTr (fVar 2)) (fB (fOp gEq (fOp gIx (fVar 2) (fUn gNeg (fC (.int 1)))) (fC (.int 0))))) lb_trimmed_1 [x0, x1, some (.c (.lst (iv a))), y] = .ok .nx [x0, x1, some (.c (.lst (iv r))), y] ∧ a = r ++ List.replicate k 0 ∧ Td r := by
  intro n
  induction n with
  | zero =>
    intro a ha
    obtain rfl : a = [] := List.length_eq_zero_iff.mp ha
    refine ⟨[], 0, ?_, rfl, fun h => (h rfl).elim⟩
    rw [fsWhile_turn, show iv [] = [] from rfl]
    walk_at "fl"
    rfl
  | succ n ih =>
    intro a ha
    have hne : a ≠ [] := fun z => by rw [z] at ha; simp at ha
    obtain ⟨a', x, rfl, hx⟩ := snoc_of hne
    have hl : (iv a' ++ [PyData.int x]).isEmpty = false := by simp
    by_cases e : x = 0
    · subst e
      obtain ⟨r, k, e1, e2, e3⟩ := ih a' (by simpa using ha)
      refine ⟨r, k + 1, ?_, by rw [e2, List.append_assoc, List.replicate_succ'], e3⟩
      have gp : gPop (iv a' ++ [.int 0]) [] = some (.int 0, iv a') := by
        unfold gPop
        simp
      rw [fsWhile_turn, iv_snoc]
      unfold lb_trimmed_1 at e1 ⊢
      repeat first | simp only [hl, atI_last, eqP, gp, e1] | walk_at "fl"
    · refine ⟨a' ++ [x], 0, ?_, by simp, fun h => by simpa using e⟩
      rw [fsWhile_turn, iv_snoc]
      repeat first | simp only [hl, atI_last, eqP, e, decide_false] | walk_at "fl"
theorem e_trimmed {p : Int} {a : List Int} (hp : 0 < p) (hl : a.length ≤ 100000) : ∃ r k, F_trimmed [.d (.list (iv a)), .d (.int p)] = .ok (.own (.lst (iv r))) [] ∧ (a.map fun x => x % p) = r ++ List.replicate k 0 ∧ Td r := by
  obtain ⟨r, k, e1, e2, e3⟩ := while_trim (x0 := some (.d (.list (iv a)))) (x1 := some (.d (.int p))) (y := none) _ (a.map fun x => x % p) rfl
  refine ⟨r, k, ?_, e2, e3⟩
  unfold F_trimmed fb_trimmed
  walk_at "fl"
  rw [lc_all (fun d => match d with
    | .int x => .int (x % p)
    | _ => .none) (by rw [iv_len]; omega)]
  · have ee : (iv a).map (fun d => match d with
      | .int x => PyData.int (x % p)
      | _ => .none) = iv (a.map fun x => x % p) := by simp [iv, Function.comp_def]
    rw [ee]
    repeat first | simp only [e1] | walk_at "fl"
  · intro d hd
    obtain ⟨x, _, rfl⟩ := iv_mem hd
    refine ⟨_, rfl, by walk_at "fl", ?_⟩
    repeat first | simp only [g_mod hp] | walk_at "fl"
/-! ### division -/
def ents : Nat → List Int → Tm
  | _, [] => []
  | k, x :: r => if x = 0 then ents (k + 1) r else ((k : Int), x) :: ents (k + 1) r
theorem ents_ev : ∀ {b : List Int} {k : Nat} {f : Int → Int}, ev (ents k b) f = pv b fun j => f (k + j)
  | [], k, f => rfl
  | x :: r, k, f => by
    have e : (pv r fun j => f (((k + 1 : Nat) : Int) + j)) = pv r fun i => f ((k : Int) + (i + 1)) := pv_congr fun i _ _ => by congr 1; omega
    unfold ents
    rw [pv_cons]
    split
    · next h => rw [ents_ev, e, h]; simp
    · next h => rw [ev_cons, ents_ev, e]; simp
theorem ents_mem : ∀ {b : List Int} {k : Nat} {q : Int × Int}, q ∈ ents k b → (k : Int) ≤ q.1 ∧ q.1 < k + b.length ∧ q.2 ∈ b
  | [], k, q, h => by cases h
  | x :: r, k, q, h => by
    unfold ents at h
    split at h
    · obtain ⟨h1, h2, h3⟩ := ents_mem h
      simp only [List.length_cons]
      exact ⟨by omega, by omega, List.mem_cons_of_mem _ h3⟩
    · rcases List.mem_cons.mp h with rfl | h
      · simp only [List.length_cons]
        exact ⟨by omega, by omega, List.mem_cons_self⟩
      · obtain ⟨h1, h2, h3⟩ := ents_mem h
        simp only [List.length_cons]
        exact ⟨by omega, by omega, List.mem_cons_of_mem _ h3⟩
def ntP : PyData → Bool
  | .tuple [_, .int x] => !decide (x = 0)
  | _ => false
theorem ents_data : ∀ {b : List Int} {k : Nat}, ((enumD k (iv b)).filter ntP).map (fun d => d) = (ents k b).map pr
  | [], k => rfl
  | x :: r, k => by
    rw [show enumD k (iv (x :: r)) = .tuple [.int k, .int x] :: enumD (k + 1) (iv r) from rfl]
    unfold ents
    by_cases e : x = 0
    · rw [List.filter_cons_of_neg (by simp [ntP, e]), if_pos e]
      exact ents_data
    · rw [List.filter_cons_of_pos (by simp [ntP, e]), if_neg e, List.map_cons, List.map_cons, ents_data]
      rfl
theorem sub_in {x0 x1 x4 x5 x6 x7 : Option FV} {p at0 v : Int} (hp : p ∈ primes6) (h0 : 0 ≤ at0) (v0 : 0 ≤ v) (v1 : v < p) : ∀ (t : Tm) (cs : List Int) (y z : Option FV), bb y = false → bb z = false → (∀ q ∈ t, 0 ≤ q.1 ∧ at0 + q.1 < cs.length ∧ 0 ≤ q.2 ∧ q.2 < p) → Pn p cs →
    ∃ cs' y' z', fsGo (tgT [8, 9]) lb_divided_2 (t.map pr) [x0, x1, some (.d (.int p)), some (.c (.lst (iv cs))), x4, x5, x6, x7, y, z, some (.d (.int at0)), some (.d (.int v))]
      = .ok .nx [x0, x1, some (.d (.int p)), some (.c (.lst (iv cs'))), x4, x5, x6, x7, y', z', some (.d (.int at0)), some (.d (.int v))] ∧ bb y' = false ∧ bb z' = false ∧ Pn p cs' ∧ cs'.length = cs.length ∧ ∀ f, Md p (pv cs' f) (pv cs f - v * ev t fun j => f (at0 + j))
  | [], cs, y, z, hy, hz, _, pc => ⟨cs, y, z, rfl, hy, hz, pc, rfl, fun f => .of (by simp [ev])⟩
  | q :: t, cs, y, z, hy, hz, ht, pc => by
    have mb := modsB (p6_mods hp)
    obtain ⟨q0, q1, q2, q3⟩ := ht q List.mem_cons_self
    have j0 : 0 ≤ at0 + q.1 := by omega
    have hc := pc _ (cg_mem j0 q1)
    have g1 := g_mul (i := v) (j := q.2) (bits_small (by omega) (by omega))
    have pm : 0 < p := by omega
    obtain ⟨cs', y', z', e, r1, r2, r3, r4, r5⟩ := sub_in (x0 := x0) (x1 := x1) (x4 := x4) (x5 := x5) (x6 := x6) (x7 := x7) hp h0 v0 v1 t (cs.set (at0 + q.1).toNat ((cg cs (at0 + q.1) - v * q.2) % p)) (some (.d (.int q.1))) (some (.d (.int q.2))) rfl rfl
      (fun w hw => by rw [List.length_set]; exact ht w (List.mem_cons_of_mem _ hw)) (pn_set pc (Int.emod_nonneg _ (by omega)) (Int.emod_lt_of_pos _ pm))
    refine ⟨cs', y', z', ?_, r1, r2, r3, by rw [r4, List.length_set], fun f => ?_⟩
    · rw [List.map_cons, show pr q = .tuple [.int q.1, .int q.2] from rfl]
      refine (go_nx ?_).trans e
      have i1 : ixN (iv cs).length (at0 + q.1) = some (at0 + q.1).toNat := ixN_of j0 (by rw [iv_len]; exact q1)
      unfold lb_divided_2
      repeat first | simp only [hy, hz, g_add, g1, cg_ix j0 q1, g_mod pm, i1, iv_set] | walk_at "fl"
    · refine (r5 f).trans ?_
      rw [pv_setI j0 q1, ev_cons, Int.mul_add]
      have h2 : Md p ((cg cs (at0 + q.1) - v * q.2) % p - cg cs (at0 + q.1)) (- (v * q.2)) := by
        obtain ⟨t, ht⟩ := Md.rest (m := p) (a := cg cs (at0 + q.1) - v * q.2)
        exact ⟨t, by omega⟩
      have h3 := h2.mulr (c := f (at0 + q.1))
      obtain ⟨w, hw⟩ := h3
      rw [Int.neg_mul, Int.mul_assoc] at hw
      exact ⟨w, by omega⟩
/-- not nought: its last coefficient is none -/
structure Nz (p : Int) (a : List Int) : Prop where
  pn : Pn p a
  ne : a ≠ []
  ls : cg a (a.length - 1 : Nat) ≠ 0
theorem Nz.pos {p : Int} {a : List Int} (h : Nz p a) : 0 < a.length := List.length_pos_iff.mpr h.ne
theorem Pl.nz {p : Int} {a : List Int} (h : Pl p a) : Nz p a := ⟨h.pn, h.ne, h.ls⟩
theorem last_cg {a : List Int} (h : a ≠ []) : cg a (a.length - 1 : Nat) = a.getLast h := by
  have hl := List.length_pos_iff.mpr h
  rw [List.getLast_eq_getElem]
  unfold cg
  rw [Int.toNat_natCast, List.getElem?_eq_getElem (by omega), Option.getD_some]
theorem Nz.of {p : Int} {a : List Int} (h : Pn p a) (td : Td a) (ne : a ≠ []) : Nz p a := ⟨h, ne, by rw [last_cg ne]; exact td ne⟩
theorem Nz.td {p : Int} {a : List Int} (h : Nz p a) : Td a := fun ne => by rw [← last_cg ne]; exact h.ls
theorem Nz.lv {p : Int} {a : List Int} (h : Nz p a) : 0 < cg a (a.length - 1 : Nat) ∧ cg a (a.length - 1 : Nat) < p := by
  have := h.pos
  have := h.pn _ (cg_mem (a := a) (i := ((a.length - 1 : Nat) : Int)) (by omega) (by omega))
  have := h.ls
  omega
theorem Nz.ix {p : Int} {a : List Int} (h : Nz p a) : atI (iv a) (-1) = some (.int (cg a (a.length - 1 : Nat))) := by
  obtain ⟨a', x, rfl, hx⟩ := snoc_of h.ne
  rw [last_cg h.ne, hx, iv_snoc, atI_last]
/-- divided so far: what is left, and its last places are nought -/
structure Left (p : Int) (a b cs : List Int) (top : Int) : Prop where
  pn : Pn p cs
  ln : cs.length = a.length
  ev : ∃ q, ∀ f, Md p (pv a f) (pv cs f + pv q fun i => pv b fun j => f (i + j))
  zr : ∀ i : Int, 0 ≤ i → top ≤ i → i < cs.length → cg cs i = 0
theorem get_cg {c : List Int} {i : Int} (h0 : 0 ≤ i) (h1 : i < c.length) : cg c i = pv c (at1 i) := by
  obtain ⟨k, rfl⟩ := Int.eq_ofNat_of_zero_le h0
  have hk : k < c.length := by omega
  have := pv_at hk
  rw [this]
  unfold cg
  rw [Int.toNat_natCast, List.getElem?_eq_getElem hk, Option.getD_some]
/-- one turn of a division -/
theorem left_turn {p : Int} {a b cs cs' : List Int} {at0 s : Int} (hp : p ∈ primes6) (hb : Nz p b) (h0 : 0 ≤ at0) (h1 : at0 + b.length ≤ cs.length) (hs : s = cg cs (at0 + b.length - 1) * backI (cg b (b.length - 1 : Nat)) p % p) (L : Left p a b cs (at0 + b.length)) (pc : Pn p cs') (lc : cs'.length = cs.length) (hm : ∀ f, Md p (pv cs' f) (pv cs f - s * pv b fun j => f (at0 + j))) : Left p a b cs' (at0 + b.length - 1) := by
  have lb := hb.pos
  have mb := modsB (p6_mods hp)
  obtain ⟨q, hq⟩ := L.ev
  refine ⟨pc, lc.trans L.ln, ⟨padd q (List.replicate at0.toNat 0 ++ [s]), fun f => ?_⟩, fun i i0 i1 i2 => ?_⟩
  · rw [pv_padd, pv_app, pv_rep, List.length_replicate, pv_cons, pv_nil]
    have e : (pv b fun j => f (0 + (at0.toNat : Int) + j)) = pv b fun j => f (at0 + j) := pv_congr fun j _ _ => by congr 1; omega
    rw [e]
    obtain ⟨k, hk⟩ := hq f
    obtain ⟨l, hl⟩ := hm f
    exact ⟨k - l, by rw [Int.mul_sub]; omega⟩
  · rw [lc] at i2
    have i3 : i < cs'.length := by omega
    have rg := pc _ (cg_mem i0 i3)
    refine Md.eq (m := p) ?_ rg.1 rg.2 (by omega) (by omega)
    rw [get_cg i0 i3]
    refine (hm _).trans ?_
    rw [← get_cg i0 i2]
    by_cases hi : i = at0 + b.length - 1
    · have e : (pv b fun j => at1 i (at0 + j)) = cg b (b.length - 1 : Nat) := by
        rw [get_cg (c := b) (by omega) (by omega)]
        refine pv_congr fun j _ _ => ?_
        unfold at1
        by_cases hj : j = ((b.length - 1 : Nat) : Int)
        · rw [if_pos (by omega), if_pos hj]
        · rw [if_neg (by omega), if_neg hj]
      rw [e, hi]
      have rb := hb.pn _ (cg_mem (a := b) (i := ((b.length - 1 : Nat) : Int)) (by omega) (by omega))
      have nb := hb.ls
      generalize cg b ((b.length - 1 : Nat) : Int) = y at hs rb nb
      obtain ⟨u0, u1, u2⟩ := back_ok hp (v := y) (by omega) rb.2
      generalize backI y p = u at hs u0 u1 u2
      generalize cg cs (at0 + b.length - 1) = x at hs
      have h8 : Md p (u * y) 1 := by
        have := (Md.rest (m := p) (a := u * y)).symm
        rw [u2] at this
        exact this
      have h9 : Md p (s * y) x := by
        rw [hs]
        refine (Md.rest.mulr).trans ?_
        rw [Int.mul_assoc]
        have := h8.mul (c := x)
        rwa [Int.mul_one] at this
      obtain ⟨k, hk⟩ := h9
      exact ⟨-k, by rw [Int.mul_neg]; omega⟩
    · have e : (pv b fun j => at1 i (at0 + j)) = 0 := pv_zero fun j _ j1 => by
        unfold at1
        rw [if_neg (by omega)]
      rw [e, L.zr i i0 (by omega) i2]
      exact .of (by simp)
theorem left_rem {p : Int} {a b cs r : List Int} {k : Nat} (hb : Nz p b) (L : Left p a b cs (b.length - 1 : Nat)) (e : cs = r ++ List.replicate k 0) (td : Td r) : IsRem p a b r := by
  have lb := hb.pos
  obtain ⟨q, hq⟩ := L.ev
  refine ⟨fun x hx => L.pn x (by rw [e]; exact List.mem_append_left _ hx), td, ?_, q, fun f => ?_⟩
  · rcases Nat.lt_or_ge r.length b.length with z | z
    · exact z
    · exfalso
      have hr : r ≠ [] := fun h => by rw [h, List.length_nil] at z; omega
      have h1 := td hr
      have h2 := L.zr (r.length - 1 : Nat) (by omega) (by omega) (by rw [e, List.length_append]; omega)
      apply h1
      rw [List.getLast_eq_getElem]
      rw [← h2]
      unfold cg
      rw [e, Int.toNat_natCast, List.getElem?_append_left (by omega), List.getElem?_eq_getElem (by omega), Option.getD_some]
  · have := hq f
    rw [e, pv_app, pv_rep, Int.add_zero] at this
    exact this
end NA

namespace NA
open PySem PySem.Spec PyProof.Rows L2 DL FL RF
local macro_rules | `(tactic| walk_at "fl") => `(tactic| simp only [ap_var, ap_c, ap_un, ap_unV, ap_op, ap_opO, ap_fn, ap_nil, ap_cons, ap_tr, ap_b, ap_tand, ap_tor, ap_tnot, ap_and, ap_or, ap_not, ap_if, ap_chain, ap_tup, ap_lst, ap_lstO, ap_dictO, ap_frz, ap_sl, ap_no, ap_part, ap_mut, ap_call, ap_callK, ap_get, ap_dict, ap_isi, ap_rep, ap_listO, ap_seq, ap_iargs, ap_lc, ap_lcO, ap_yes, ap_sq, ap_ret, ap_drop, ap_sif, ap_nx, ap_bk, ap_ct, ap_asg, ap_setR, ap_runT, ap_bb0, ap_bbs, ap_bbn, ap_bbd, ap_bbc, ap_bbb, ap_sfrz, ap_setI, ap_setK, ap_for, ap_par, ap_asgT, ap_run, ap_see, ap_seeo, ap_seer, ap_getC, ap_setC, ap_sees0, ap_sees1, ap_parN, ap_view, ap_frza0, ap_frza, ap_frzc, ap_frzb, ap_frzd, ap_frzn, ap_call1, ap_c1o, ap_sar0, ap_sar1, ap_frv, ap_fro, ap_tgN, ap_tgT, fin_val, fin_own, fin_ref, fin_nx, bors_nil, bors_d, bors_b, R.bind_ok, ofO_some, ofB_some, ofOL_list, seeV, frV, vals, setAllF, wipeF, restF, callR, refsOf, argVs, putBack, setR2, setI, setK, ap_glt, ap_gle, ap_ggt, ap_gge, ap_gsub, ap_gadd, ap_gneg, ap_gix, ap_cutl, ap_cutt, ap_gtup, ap_glist, ap_glen, ap_gint, ap_gintb, ap_gabs, ap_gmax, ap_gmin, ap_isN, ap_notN, ap_geq, ap_gne, ap_eqi, ap_eqb, ap_eqs, ap_iol, ap_iot, ap_gtn, ap_gtb, ap_gti, ap_gtl, ap_gtt, ap_isn0, ap_isni, ap_isnl, ap_isnt, ap_revl, ap_revt, ap_enum, ap_zipl, ap_zipt, intsOf_map, boolsOf_map, ap_cellL, startF, List.map_cons, List.map_nil, List.length_cons, List.length_nil, List.replicate_succ, List.replicate_zero, List.cons_append, List.nil_append, List.append_nil, List.getElem?_cons_zero, List.getElem?_cons_succ, List.getElem?_nil, List.set_cons_zero, List.set_cons_succ, List.set_nil, Option.map_some, Option.map_none, Option.bind_some, Option.bind_none, Nat.reduceSub, Nat.reduceAdd, if_true, if_false, Bool.false_eq_true, reduceIte, true_and, and_true, Nat.sub_zero, Nat.zero_add, reduceCtorEq, List.nodup_nil, List.nodup_cons, List.not_mem_nil, not_false_eq_true, and_self, Bool.not_true, Bool.not_false, Bool.not_not, decide_true, decide_false, Nat.reduceLeDiff, atI0, atI1, req_true])
theorem loop_div {p : Int} {a b : List Int} {x5 : Option FV} (hp : p ∈ primes6) (hb : Nz p b) : ∀ (n : Nat) (cs qs : List Int) (y z w s : Option FV), bb y = false → bb z = false → bb w = false → bb s = false → Left p a b cs (n + b.length - 1) → (n = 0 ∨ n + b.length ≤ cs.length + 1) → n ≤ qs.length →
    ∃ cs' qs' y' z' w' s', fsGo (tgN 10) lb_divided_1 (downD n) [some (.d (.list (iv a))), some (.d (.list (iv b))), some (.d (.int p)), some (.c (.lst (iv cs))), some (.d (.int (backI (cg b (b.length - 1 : Nat)) p))), x5, some (.c (.lst (iv qs))), some (.d (.list ((ents 0 b).map pr))), y, z, w, s]
      = .ok .nx [some (.d (.list (iv a))), some (.d (.list (iv b))), some (.d (.int p)), some (.c (.lst (iv cs'))), some (.d (.int (backI (cg b (b.length - 1 : Nat)) p))), x5, some (.c (.lst (iv qs'))), some (.d (.list ((ents 0 b).map pr))), y', z', w', s'] ∧ Left p a b cs' (b.length - 1 : Nat)
  | 0, cs, qs, y, z, w, s, _, _, _, _, L, _, _ => by
    have := hb.pos
    exact ⟨cs, qs, y, z, w, s, rfl, ⟨L.pn, L.ln, L.ev, fun i h0 h1 h2 => L.zr i h0 (by omega) h2⟩⟩
  | n + 1, cs, qs, y, z, w, s, hy, hz, hw, hs, L, hn, hq => by
    have lb := hb.pos
    have mb := modsB (p6_mods hp)
    have pm : 0 < p := by omega
    have hn : n + b.length ≤ cs.length := by omega
    obtain ⟨u0, u1, u2⟩ := back_ok hp hb.lv.1 hb.lv.2
    have j0 : (0 : Int) ≤ (n : Int) + b.length - 1 := by omega
    have j1 : (n : Int) + b.length - 1 < cs.length := by omega
    have hc := L.pn _ (cg_mem j0 j1)
    have g1 := g_mul (i := cg cs ((n : Int) + b.length - 1)) (j := backI (cg b (b.length - 1 : Nat)) p) (bits_small (by omega) (by omega))
    have hlb : ((iv b).length : Int) = (b.length : Int) := by rw [iv_len]
    have L' : Left p a b cs ((n : Int) + b.length) := ⟨L.pn, L.ln, L.ev, fun i h0 h1 h2 => L.zr i h0 (by omega) h2⟩
    generalize hsh : cg cs ((n : Int) + b.length - 1) * backI (cg b (b.length - 1 : Nat)) p % p = sh
    have s0 : 0 ≤ sh := by rw [← hsh]; exact Int.emod_nonneg _ (by omega)
    have s1 : sh < p := by rw [← hsh]; exact Int.emod_lt_of_pos _ pm
    rw [downD_succ]
    by_cases e0 : sh = 0
    · have L2 := left_turn hp hb (by omega) (by omega) hsh.symm L' L.pn rfl fun f => .of (by rw [e0]; simp)
      obtain ⟨cs', qs', y', z', w', s', e, L3⟩ := loop_div (x5 := x5) hp hb n cs qs y z (some (.d (.int n))) (some (.d (.int sh))) hy hz rfl rfl ⟨L2.pn, L2.ln, L2.ev, fun i h0 h1 h2 => L2.zr i h0 (by omega) h2⟩ (.inr (by omega)) (by omega)
      refine ⟨cs', qs', y', z', w', s', (go_nx ?_).trans e, L3⟩
      unfold lb_divided_1
      repeat first | simp only [hw, hs, hlb, g_add, cg_ix j0 j1, g1, g_mod pm, hsh, e0] | walk_at "fl"
      rfl
    · have hen : ∀ q ∈ ents 0 b, 0 ≤ q.1 ∧ (n : Int) + q.1 < cs.length ∧ 0 ≤ q.2 ∧ q.2 < p := fun q hq => by
        obtain ⟨h1, h2, h3⟩ := ents_mem hq
        have := hb.pn _ h3
        omega
      obtain ⟨c1, y1, z1, e1, b1, b2, p1, l1, m1⟩ := sub_in (x0 := some (.d (.list (iv a)))) (x1 := some (.d (.list (iv b)))) (x4 := some (.d (.int (backI (cg b (b.length - 1 : Nat)) p)))) (x5 := x5) (x6 := some (.c (.lst (iv (qs.set n sh))))) (x7 := some (.d (.list ((ents 0 b).map pr)))) (at0 := (n : Int)) hp (by omega) s0 s1 (ents 0 b) cs y z hy hz hen L.pn
      have L2 := left_turn hp hb (by omega) (by omega) hsh.symm L' p1 l1 fun f => by
        refine (m1 f).trans (.of ?_)
        rw [ents_ev]
        congr 2
        exact pv_congr fun j _ _ => by congr 1; omega
      obtain ⟨cs', qs', y', z', w', s', e, L3⟩ := loop_div (x5 := x5) hp hb n c1 (qs.set n sh) y1 z1 (some (.d (.int n))) (some (.d (.int sh))) b1 b2 rfl rfl ⟨L2.pn, L2.ln, L2.ev, fun i h0 h1 h2 => L2.zr i h0 (by omega) h2⟩ (.inr (by rw [l1]; omega)) (by rw [List.length_set]; omega)
      refine ⟨cs', qs', y', z', w', s', (go_nx ?_).trans e, L3⟩
      have i1 : ixN (iv qs).length (n : Int) = some n := ixN_of (i := (n : Int)) (by omega) (by rw [iv_len]; omega)
      have t1 : gT (.int sh) = some true := by
        show some _ = _
        simp [e0]
      unfold lb_divided_1
      repeat first | simp only [hw, hs, hlb, g_add, cg_ix j0 j1, g1, g_mod pm, hsh, t1, i1, iv_set, e1] | walk_at "fl"
      rw [if_pos (by simp [e0])]
theorem e_divided {p : Int} {a b : List Int} (hp : p ∈ primes6) (hb : Nz p b) (ha : Pn p a) (hl : a.length ≤ 1000) (hl2 : b.length ≤ 1000) :
    ∃ q r, F_divided [.d (.list (iv a)), .d (.list (iv b)), .d (.int p)] = tell (.tuple [q, .list (iv r)]) ∧ IsRem p a b r := by
  have lb := hb.pos
  have mb := modsB (p6_mods hp)
  let n := ((a.length : Int) - (b.length : Int) + 1).toNat
  have L0 : Left p a b a (n + b.length - 1) := ⟨ha, rfl, ⟨[], fun f => .of (by rw [pv_nil, Int.add_zero])⟩, fun i h0 h1 h2 => by omega⟩
  obtain ⟨cs, qs, y, z, w, s, e, L⟩ := loop_div (x5 := some (.d (.int ((a.length : Int) - (b.length : Int) + 1)))) hp hb n a (List.replicate n 0) none none none none rfl rfl rfl rfl L0 (by omega) (by rw [List.length_replicate]; exact Nat.le_refl _)
  have hmap : (cs.map fun x => x % p) = cs := by
    refine (List.map_congr_left fun x hx => ?_).trans (List.map_id _)
    have := L.pn x hx
    exact Int.emod_eq_of_lt this.1 this.2
  obtain ⟨r, k, e2, e3, td⟩ := e_trimmed (p := p) (a := cs) (by omega) (by have := L.ln; omega)
  rw [hmap] at e3
  have hla : ((iv a).length : Int) = (a.length : Int) := by rw [iv_len]
  have hlb : ((iv b).length : Int) = (b.length : Int) := by rw [iv_len]
  have gd : gDown [.int ((a.length : Int) - (b.length : Int) + 1)] = some (downD n) := req_pos (by omega)
  have hmx : (if (a.length : Int) - (b.length : Int) + 1 > 0 then (a.length : Int) - (b.length : Int) + 1 else 0).toNat = n := by split <;> omega
  have hb1 : -(2 ^ 63) ≤ (if (a.length : Int) - (b.length : Int) + 1 > 0 then (a.length : Int) - (b.length : Int) + 1 else 0) ∧ (if (a.length : Int) - (b.length : Int) + 1 > 0 then (a.length : Int) - (b.length : Int) + 1 else 0) < 2 ^ 63 := by split <;> omega
  have hb2 : 1 * n ≤ 900000 := by omega
  have hlc : ∀ x0 x1 x2 x3 x4 x5 x6 x7 x10 x11 : Option FV, fLcGo (tgT [8, 9]) (fTr (fVar 9)) (fTup (faCons (fVar 8) (faCons (fVar 9) faNil))) [8, 9] (enumD 0 (iv b)) [] [x0, x1, x2, x3, x4, x5, x6, x7, none, none, x10, x11]
      = .ok ((ents 0 b).map pr) [x0, x1, x2, x3, x4, x5, x6, x7, none, none, x10, x11] := fun x0 x1 x2 x3 x4 x5 x6 x7 x10 x11 => by
    rw [lc_some (fun d => d) ntP (by rw [enumD_len, iv_len]; omega), ents_data]
    intro d hd
    obtain ⟨i, x, h1, h2, h3, rfl⟩ := enumD_mem _ _ _ hd
    obtain ⟨z, hz, rfl⟩ := iv_mem (List.mem_of_getElem? h3)
    refine ⟨_, rfl, by walk_at "fl", ?_, fun _ => by walk_at "fl"⟩
    walk_at "fl"
    rfl
  refine ⟨.list (iv qs), r, ?_, left_rem hb L e3 td⟩
  have e5 := e_inverse hp hb.lv.1 hb.lv.2
  unfold F_divided fb_divided
  repeat first | simp only [hla, hlb, g_add, hb.ix, e5, gEnum, repR, lstOf, hb1.1, hb1.2, hmx, hb2, flat_rep, rep_iv, hlc, gd, e, e2] | walk_at "fl"
def monicL (p : Int) (g : List Int) : List Int := g.map fun x => x * backI (cg g (g.length - 1 : Nat)) p % p
theorem e_monic {p : Int} {g : List Int} (hp : p ∈ primes6) (hg : Nz p g) (hl : g.length ≤ 1000) : F_monic [.d (.list (iv g)), .d (.int p)] = .ok (.own (.lst (iv (monicL p g)))) [] := by
  have lg := hg.pos
  have mb := modsB (p6_mods hp)
  obtain ⟨u0, u1, u2⟩ := back_ok hp hg.lv.1 hg.lv.2
  have e5 := e_inverse hp hg.lv.1 hg.lv.2
  have hne : (iv g).isEmpty = false := by
    cases g with
    | nil => exact (hg.ne rfl).elim
    | cons x r => rfl
  unfold F_monic fb_monic
  repeat first | simp only [hne, hg.ix, e5] | walk_at "fl"
  rw [lc_all (fun d => match d with
    | .int x => .int (x * backI (cg g (g.length - 1 : Nat)) p % p)
    | _ => .none) (by rw [iv_len]; omega)]
  · walk_at "fl"
    have ee : (iv g).map (fun d => match d with
      | .int x => PyData.int (x * backI (cg g (g.length - 1 : Nat)) p % p)
      | _ => .none) = iv (monicL p g) := by simp [iv, monicL, Function.comp_def]
    rw [ee]
  · intro d hd
    obtain ⟨x, hx, rfl⟩ := iv_mem hd
    have := hg.pn x hx
    refine ⟨_, rfl, by walk_at "fl", ?_⟩
    repeat first | simp only [g_mul (i := x) (j := backI (cg g (g.length - 1 : Nat)) p) (bits_small (by omega) (by omega)), g_mod (show 0 < p by omega)] | walk_at "fl"
theorem while_both {p : Int} (hp : p ∈ primes6) : ∀ (n : Nat) (a b : List Int), b.length ≤ n → Pn p a → Pn p b → Td b → a.length ≤ 1000 → b.length ≤ 1000 →
    ∃ g, fsWhile (fTr (fVar 1)) lb_in_both_1 [some (.d (.list (iv a))), some (.d (.list (iv b))), some (.d (.int p))] = .ok .nx [some (.d (.list (iv g))), some (.d (.list (iv []))), some (.d (.int p))] ∧ Euc p a b g ∧ g.length ≤ 1000 := by
  have stop : ∀ a : List Int, a.length ≤ 1000 → ∃ g, fsWhile (fTr (fVar 1)) lb_in_both_1 [some (.d (.list (iv a))), some (.d (.list (iv []))), some (.d (.int p))] = .ok .nx [some (.d (.list (iv g))), some (.d (.list (iv []))), some (.d (.int p))] ∧ Euc p a [] g ∧ g.length ≤ 1000 := fun a la => by
    refine ⟨a, ?_, .done a, la⟩
    rw [fsWhile_turn, show iv [] = [] from rfl]
    walk_at "fl"
    rfl
  intro n
  induction n with
  | zero =>
    intro a b hb pa pb tb la _
    obtain rfl : b = [] := List.length_eq_zero_iff.mp (by omega)
    exact stop a la
  | succ n ih =>
    intro a b hb pa pb tb la lb
    by_cases hne : b = []
    · subst hne
      exact stop a la
    · obtain ⟨q, r, e, hr⟩ := e_divided hp (Nz.of pb tb hne) pa la lb
      have := hr.lt
      obtain ⟨g, e2, eu, lg⟩ := ih b r (by omega) pb hr.pn hr.td lb (by omega)
      refine ⟨g, ?_, .turn hne hr eu, lg⟩
      have hE : (iv b).isEmpty = false := by
        cases b with
        | nil => exact (hne rfl).elim
        | cons x r => rfl
      rw [fsWhile_turn]
      unfold lb_in_both_1 at e2 ⊢
      repeat first | simp only [hE, e, e2] | walk_at "fl"
theorem e_in_both {p : Int} {a b : List Int} (hp : p ∈ primes6) (na : Nz p a) (nb : Nz p b) (la : a.length ≤ 1000) (lb : b.length ≤ 1000) :
    ∃ g, F_in_both [.d (.list (iv a)), .d (.list (iv b)), .d (.int p)] = .ok (.own (.lst (iv (monicL p g)))) [] ∧ Euc p a b g ∧ Nz p g := by
  obtain ⟨g, e, eu, lg⟩ := while_both hp b.length a b (Nat.le_refl _) na.pn nb.pn nb.td la lb
  obtain ⟨h1, h2, h3⟩ := eu.good na.pn nb.pn na.td nb.td na.ne
  have ng := Nz.of h1 h2 h3
  refine ⟨g, ?_, eu, ng⟩
  have em := e_monic hp ng lg
  unfold F_in_both fb_in_both
  repeat first | simp only [e, em] | walk_at "fl"
end NA

namespace NA
open PySem PySem.Spec PyProof.Rows L2 DL FL RF
local macro_rules | `(tactic| walk_at "fl") => `(tactic| simp only [ap_var, ap_c, ap_un, ap_unV, ap_op, ap_opO, ap_fn, ap_nil, ap_cons, ap_tr, ap_b, ap_tand, ap_tor, ap_tnot, ap_and, ap_or, ap_not, ap_if, ap_chain, ap_tup, ap_lst, ap_lstO, ap_dictO, ap_frz, ap_sl, ap_no, ap_part, ap_mut, ap_call, ap_callK, ap_get, ap_dict, ap_isi, ap_rep, ap_listO, ap_seq, ap_iargs, ap_lc, ap_lcO, ap_yes, ap_sq, ap_ret, ap_drop, ap_sif, ap_nx, ap_bk, ap_ct, ap_asg, ap_setR, ap_runT, ap_bb0, ap_bbs, ap_bbn, ap_bbd, ap_bbc, ap_bbb, ap_sfrz, ap_setI, ap_setK, ap_for, ap_par, ap_asgT, ap_run, ap_see, ap_seeo, ap_seer, ap_getC, ap_setC, ap_sees0, ap_sees1, ap_parN, ap_view, ap_frza0, ap_frza, ap_frzc, ap_frzb, ap_frzd, ap_frzn, ap_call1, ap_c1o, ap_sar0, ap_sar1, ap_frv, ap_fro, ap_tgN, ap_tgT, fin_val, fin_own, fin_ref, fin_nx, bors_nil, bors_d, bors_b, R.bind_ok, ofO_some, ofB_some, ofOL_list, seeV, frV, vals, setAllF, wipeF, restF, callR, refsOf, argVs, putBack, setR2, setI, setK, ap_glt, ap_gle, ap_ggt, ap_gge, ap_gsub, ap_gadd, ap_gneg, ap_gix, ap_cutl, ap_cutt, ap_gtup, ap_glist, ap_glen, ap_gint, ap_gintb, ap_gabs, ap_gmax, ap_gmin, ap_isN, ap_notN, ap_geq, ap_gne, ap_eqi, ap_eqb, ap_eqs, ap_iol, ap_iot, ap_gtn, ap_gtb, ap_gti, ap_gtl, ap_gtt, ap_isn0, ap_isni, ap_isnl, ap_isnt, ap_revl, ap_revt, ap_enum, ap_zipl, ap_zipt, intsOf_map, boolsOf_map, ap_cellL, startF, List.map_cons, List.map_nil, List.length_cons, List.length_nil, List.replicate_succ, List.replicate_zero, List.cons_append, List.nil_append, List.append_nil, List.getElem?_cons_zero, List.getElem?_cons_succ, List.getElem?_nil, List.set_cons_zero, List.set_cons_succ, List.set_nil, Option.map_some, Option.map_none, Option.bind_some, Option.bind_none, Nat.reduceSub, Nat.reduceAdd, if_true, if_false, Bool.false_eq_true, reduceIte, true_and, and_true, Nat.sub_zero, Nat.zero_add, reduceCtorEq, List.nodup_nil, List.nodup_cons, List.not_mem_nil, not_false_eq_true, and_self, Bool.not_true, Bool.not_false, Bool.not_not, decide_true, decide_false, Nat.reduceLeDiff, atI0, atI1, req_true])
/-! ### a polynomial's terms -/
def pt (low : Int) (a : List Int) : Tm := (ents 0 a).map fun q => (low + q.1, q.2)
theorem ents_cons {k : Nat} {x : Int} {r : List Int} : ents k (x :: r) = if x = 0 then ents (k + 1) r else ((k : Int), x) :: ents (k + 1) r := rfl
theorem ents_so : ∀ {b : List Int} {k : Nat}, (ents k b).Pairwise fun x y => x.1 < y.1
  | [], k => .nil
  | x :: r, k => by
    unfold ents
    split
    · exact ents_so
    · refine List.pairwise_cons.mpr ⟨fun q hq => ?_, ents_so⟩
      have := (ents_mem hq).1
      show (k : Int) < q.1
      omega
theorem ents_ne : ∀ {b : List Int} {k : Nat} {q : Int × Int}, q ∈ ents k b → q.2 ≠ 0
  | [], k, q, h => by cases h
  | x :: r, k, q, h => by
    unfold ents at h
    split at h
    · exact ents_ne h
    · next hx =>
      rcases List.mem_cons.mp h with rfl | h
      · exact hx
      · exact ents_ne h
theorem ents_len : ∀ {b : List Int} {k : Nat}, (ents k b).length ≤ b.length
  | [], k => Nat.le_refl _
  | x :: r, k => by
    have := ents_len (b := r) (k := k + 1)
    unfold ents
    split
    · rw [List.length_cons]; omega
    · rw [List.length_cons, List.length_cons]; omega
theorem ents_app : ∀ {a b : List Int} {k : Nat}, ents k (a ++ b) = ents k a ++ ents (k + a.length) b
  | [], b, k => rfl
  | x :: r, b, k => by
    rw [List.cons_append, List.length_cons, ents_cons, ents_cons, ents_app, show k + 1 + r.length = k + (r.length + 1) by omega]
    split <;> rfl
theorem pt_cn {p low : Int} {a : List Int} (h : Pn p a) : Cn p (pt low a) := by
  refine ⟨List.pairwise_map.mpr (ents_so.imp fun z => by show low + _ < low + _; omega), fun q hq => ?_⟩
  obtain ⟨q', hq', rfl⟩ := List.mem_map.mp hq
  have h1 := h _ (ents_mem hq').2.2
  have h2 := ents_ne hq'
  show 0 < q'.2 ∧ q'.2 < p
  omega
theorem pt_len {low : Int} {a : List Int} : (pt low a).length ≤ a.length := by
  unfold pt
  rw [List.length_map]
  exact ents_len
theorem pt_ok {p low : Int} {a : List Int} (hp : p ∈ primes6) (h : Pn p a) (hl : a.length ≤ 900000) : Ok p (pt low a) := ⟨p6_mods hp, pt_cn h, Nat.le_trans pt_len hl⟩
theorem pt_first {p low : Int} {a : List Int} (h : Pl p a) : ∃ r, pt low a = (low, cg a 0) :: r := by
  have hf := h.fs
  cases a with
  | nil => exact (h.ne rfl).elim
  | cons x r =>
    have e : cg (x :: r) 0 = x := rfl
    rw [e] at hf ⊢
    refine ⟨(ents 1 r).map fun q => (low + q.1, q.2), ?_⟩
    unfold pt
    rw [ents_cons, if_neg hf, List.map_cons]
    simp
theorem pt_last {p low : Int} {a : List Int} (h : Pl p a) : ∃ r, pt low a = r ++ [(low + (a.length - 1 : Nat), cg a (a.length - 1 : Nat))] := by
  obtain ⟨a', x, rfl, hx⟩ := snoc_of h.ne
  have hl := h.ls
  rw [last_cg h.ne, hx] at hl ⊢
  refine ⟨(ents 0 a').map fun q => (low + q.1, q.2), ?_⟩
  unfold pt
  rw [ents_app, List.map_append]
  congr 1
  rw [ents_cons, if_neg hl]
  simp [ents]
theorem loop_coef {x0 : Option FV} {low : Int} : ∀ (r pre : List Int) (y z : Option FV), bb y = false → bb z = false →
    ∃ y' z', fsGo (tgT [3, 4]) lb_coefficients_1 (((ents pre.length r).map fun q => (low + q.1, q.2)).map pr) [x0, some (.d (.int low)), some (.c (.lst (iv (pre ++ List.replicate r.length 0)))), y, z]
      = .ok .nx [x0, some (.d (.int low)), some (.c (.lst (iv (pre ++ r)))), y', z']
  | [], pre, y, z, _, _ => ⟨y, z, by simp [ents]; rfl⟩
  | x :: r, pre, y, z, hy, hz => by
    have key : ∀ (y z : Option FV), bb y = false → bb z = false → ∃ y' z', fsGo (tgT [3, 4]) lb_coefficients_1 (((ents (pre.length + 1) r).map fun q => (low + q.1, q.2)).map pr) [x0, some (.d (.int low)), some (.c (.lst (iv (pre ++ [x] ++ List.replicate r.length 0)))), y, z]
      = .ok .nx [x0, some (.d (.int low)), some (.c (.lst (iv (pre ++ x :: r)))), y', z'] := fun y z hy hz => by
      obtain ⟨y', z', e⟩ := loop_coef (x0 := x0) (low := low) r (pre ++ [x]) y z hy hz
      rw [List.length_append, List.length_singleton, List.append_assoc, List.append_assoc] at e
      exact ⟨y', z', by rw [List.append_assoc]; exact e⟩
    rw [ents_cons, List.length_cons, List.replicate_succ]
    split
    · next h =>
      subst h
      obtain ⟨y', z', e⟩ := key y z hy hz
      rw [List.append_assoc] at e
      exact ⟨y', z', e⟩
    · next h =>
      obtain ⟨y', z', e⟩ := key (some (.d (.int (low + (pre.length : Int))))) (some (.d (.int x))) rfl rfl
      refine ⟨y', z', ?_⟩
      rw [List.map_cons, List.map_cons, show pr (low + ((pre.length : Nat) : Int), x) = .tuple [.int (low + (pre.length : Int)), .int x] from rfl]
      refine (go_nx ?_).trans e
      have i1 : ixN (iv (pre ++ 0 :: List.replicate r.length 0)).length (low + (pre.length : Int) - low) = some pre.length := by
        rw [show low + (pre.length : Int) - low = (pre.length : Int) by omega, ixN_of (by omega) (by rw [iv_len, List.length_append, List.length_cons]; omega), Int.toNat_natCast]
      have e2 : (pre ++ 0 :: List.replicate r.length 0).set pre.length x = pre ++ [x] ++ List.replicate r.length 0 := by
        rw [List.set_append_right _ _ (Nat.le_refl _), Nat.sub_self, List.set_cons_zero, List.append_assoc]
        rfl
      unfold lb_coefficients_1
      repeat first | simp only [hy, hz, i1, iv_set, e2] | walk_at "fl"
theorem e_coefficients {p low : Int} {a : List Int} (h : Pl p a) (hl : a.length ≤ 1000) : F_coefficients [.d (tm (pt low a))] = .ok (.own (.lst (iv a))) [] := by
  have la := h.pos
  obtain ⟨r1, h1⟩ := pt_first (low := low) h
  obtain ⟨r2, h2⟩ := pt_last (low := low) h
  obtain ⟨y, z, e⟩ := loop_coef (x0 := some (.d (tm (pt low a)))) (low := low) a [] none none rfl rfl
  rw [List.length_nil, List.nil_append, List.nil_append, show ((ents 0 a).map fun q => (low + q.1, q.2)).map pr = (pt low a).map pr from rfl] at e
  have hne : ((pt low a).map pr).isEmpty = false := by rw [h1]; rfl
  have i0 : atI ((pt low a).map pr) 0 = some (.tuple [.int low, .int (cg a 0)]) := by rw [h1]; exact atI0
  have i1 : atI ((pt low a).map pr) (-1) = some (.tuple [.int (low + (a.length - 1 : Nat)), .int (cg a (a.length - 1 : Nat))]) := by
    rw [h2, List.map_append]
    exact atI_last _ _
  have hn : (low + ((a.length - 1 : Nat) : Int) - low + 1).toNat = a.length := by omega
  have hb1 : -(2 ^ 63) ≤ low + ((a.length - 1 : Nat) : Int) - low + 1 := by omega
  have hb3 : low + ((a.length - 1 : Nat) : Int) - low + 1 < 2 ^ 63 := by omega
  have hb2 : 1 * a.length ≤ 900000 := by omega
  unfold F_coefficients fb_coefficients
  unfold tm at e ⊢
  repeat first | simp only [hne, i0, i1, g_add, repR, lstOf, hb1, hb3, hn, hb2, flat_rep, rep_iv, e] | walk_at "fl"
theorem nin_p {p : Int} : gNin (.int p) (.list [.int p]) = some (.bool false) := by
  have : inG (.int p) (.list [.int p]) = some true := by
    show req _ _ = _
    refine (req_pos ⟨rfl, rfl⟩).trans ?_
    simp [inD, eqFlat]
  unfold gNin
  rw [this]
  rfl
theorem e_by_prime_p {p : Int} {a : Tm} (hp : p ∈ primes6) (h : Ok p a) : F_by_prime [.d (rule p a), .d (.int p)] = tell (tm a) := by
  have mb := modsB (p6_mods hp)
  have e1 := e_need_rule h
  have e2 := e_primes_of (p6_mods hp)
  rw [p6_primes hp, show iv [p] = [.int p] from rfl] at e2
  unfold F_by_prime fb_by_prime
  unfold rule tm at e1 ⊢
  repeat first | simp only [e1, e2, nin_p] | walk_at "fl"
  rw [lc_some (fun d => d) (fun _ => true) (by have := h.len; rw [List.length_map]; omega), List.map_id', show List.filter (fun _ => true) (a.map pr) = a.map pr from List.filter_eq_self.mpr fun _ _ => rfl]
  · walk_at "fl"
  · intro d hd
    obtain ⟨q, hq, rfl⟩ := pr_mem hd
    have := h.cn.vl q hq
    have hm : q.2 % p = q.2 := Int.emod_eq_of_lt (by omega) this.2
    have ht : gT (.int q.2) = some true := by
      show some _ = _
      have : q.2 ≠ 0 := by omega
      simp [this]
    have ht2 : (q.2 != 0) = true := by
      have : q.2 ≠ 0 := by omega
      simp [this]
    refine ⟨_, rfl, by walk_at "fl", ?_, fun _ => ?_⟩
    · repeat first | simp only [g_mod (show 0 < p by omega), hm, ht, ht2] | walk_at "fl"
    · repeat first | simp only [g_mod (show 0 < p by omega), hm] | walk_at "fl"
/-! ### rules of a prime -/
theorem e_need_prime_rule {p low : Int} {a : List Int} (hp : p ∈ primes6) (h : Pl p a) (hl : a.length ≤ 1000) : F_need_prime_rule [.d (rule p (pt low a))] = tell .none := by
  have e1 := e_need_rule (pt_ok (low := low) hp h.pn (by omega))
  have e2 := e_primes_of (p6_mods hp)
  rw [p6_primes hp, show iv [p] = [.int p] from rfl] at e2
  obtain ⟨r1, h1⟩ := pt_first (low := low) h
  have hne : ((pt low a).map pr).isEmpty = false := by rw [h1]; rfl
  unfold F_need_prime_rule fb_need_prime_rule
  unfold rule tm at e1 ⊢
  repeat first | simp only [e1, e2, hne, show decide ((1 : Int) < ((1 : Nat) : Int)) = false from rfl] | walk_at "fl"
theorem e_width_of {p low : Int} {a : List Int} (h : Pl p a) : F_width_of [.d (rule p (pt low a))] = tell (.int (a.length - 1 : Nat)) := by
  obtain ⟨r1, h1⟩ := pt_first (low := low) h
  obtain ⟨r2, h2⟩ := pt_last (low := low) h
  have i0 : atI ((pt low a).map pr) 0 = some (.tuple [.int low, .int (cg a 0)]) := by rw [h1]; exact atI0
  have i1 : atI ((pt low a).map pr) (-1) = some (.tuple [.int (low + (a.length - 1 : Nat)), .int (cg a (a.length - 1 : Nat))]) := by
    rw [h2, List.map_append]
    exact atI_last _ _
  have e : low + ((a.length - 1 : Nat) : Int) - low = ((a.length - 1 : Nat) : Int) := by omega
  unfold F_width_of fb_width_of rule tm
  repeat first | simp only [i0, i1, e] | walk_at "fl"
theorem e_free_cells {p low t : Int} {a : List Int} (hp : p ∈ primes6) (h : Pl p a) (hl : a.length ≤ 1000) (t0 : 0 ≤ t) (t1 : t ≤ 10 ^ 30) : F_free_cells [.d (rule p (pt low a)), .d (.int t)] = tell (.int (t * (a.length - 1 : Nat))) := by
  have e1 := e_need_prime_rule (low := low) hp h hl
  have e2 := e_width_of (low := low) h
  have hb : Bits t ((a.length - 1 : Nat) : Int) := Bits.of (a := 110) (b := 20) (bits_le (by omega)) (bits_le (by omega)) (by decide)
  have d1 : t ≤ 1000000000000000000000000000000 := by omega
  unfold F_free_cells fb_free_cells
  repeat first | simp only [e1, e2, g_mul hb, t0, d1] | walk_at "fl"
theorem e_common_by {p l1 l2 : Int} {a b : List Int} (hp : p ∈ primes6) (ha : Pl p a) (hb : Pl p b) (la : a.length ≤ 1000) (lb : b.length ≤ 1000) :
    ∃ g, F_common_by [.d (rule p (pt l1 a)), .d (rule p (pt l2 b)), .d (.int p)] = tell (.tuple (iv (monicL p g))) ∧ Euc p a b g ∧ Nz p g := by
  obtain ⟨g, e, eu, ng⟩ := e_in_both hp ha.nz hb.nz la lb
  refine ⟨g, ?_, eu, ng⟩
  have e1 := e_by_prime_p hp (pt_ok (low := l1) hp ha.pn (by omega))
  have e2 := e_by_prime_p hp (pt_ok (low := l2) hp hb.pn (by omega))
  have e3 := e_coefficients (low := l1) ha la
  have e4 := e_coefficients (low := l2) hb lb
  unfold F_common_by fb_common_by
  repeat first | simp only [e1, e2, e3, e4, e] | walk_at "fl"
theorem e_common_p {p l1 l2 : Int} {a b : List Int} (hp : p ∈ primes6) (ha : Pl p a) (hb : Pl p b) (la : a.length ≤ 1000) (lb : b.length ≤ 1000) :
    ∃ g, F_common [.d (rule p (pt l1 a)), .d (rule p (pt l2 b))] = .ok (.own (.lst [.tuple (iv (monicL p g))])) [] ∧ Euc p a b g ∧ Nz p g := by
  obtain ⟨g, e, eu, ng⟩ := e_common_by (l1 := l1) (l2 := l2) hp ha hb la lb
  refine ⟨g, ?_, eu, ng⟩
  have e1 := e_need_rules (pt_ok (low := l1) hp ha.pn (by omega)) (pt_ok (low := l2) hp hb.pn (by omega))
  have e2 := e_primes_of (p6_mods hp)
  rw [p6_primes hp, show iv [p] = [.int p] from rfl] at e2
  unfold F_common fb_common
  unfold rule at e e1 ⊢
  repeat first | simp only [e1, e2] | walk_at "fl"
  rw [lc_all (fun _ => .tuple (iv (monicL p g))) (by simp)]
  · walk_at "fl"
  · intro d hd
    obtain rfl := List.mem_singleton.mp hd
    refine ⟨_, rfl, by walk_at "fl", ?_⟩
    repeat first | simp only [e] | walk_at "fl"
theorem e_both_die {p l1 l2 : Int} {a b : List Int} (hp : p ∈ primes6) (ha : Pl p a) (hb : Pl p b) (la : a.length ≤ 1000) (lb : b.length ≤ 1000) :
    ∃ g, F_both_die [.d (rule p (pt l1 a)), .d (rule p (pt l2 b))] = tell (.int ((g.length : Int) - 1)) ∧ Euc p a b g ∧ Nz p g := by
  obtain ⟨g, e, eu, ng⟩ := e_common_p (l1 := l1) (l2 := l2) hp ha hb la lb
  refine ⟨g, ?_, eu, ng⟩
  have e1 := e_need_prime_rule (low := l1) hp ha la
  have e2 := e_need_prime_rule (low := l2) hp hb lb
  have hl : ((iv (monicL p g)).length : Int) = (g.length : Int) := by rw [iv_len]; simp [monicL]
  unfold F_both_die fb_both_die
  unfold rule at e e1 e2 ⊢
  repeat first | simp only [e1, e2, e_need_same, e, hl] | walk_at "fl"
end NA

namespace K22
open PySem PySem.Spec PyProof.Rows L2 DL FL
open NA

def g_dies_in_row_rule {α : Type} : List α → List α
  | [x0, x1] => [x1, x0]
  | l => l
theorem pm_dies_in_row_rule : Perm @g_dies_in_row_rule 2 := ⟨fun l h => match l, h with | [_, _], _ => rfl, fun {_ _ _ l r} h p => match l, r, h, p with | [_, _], [_, _], _, .cons h0 (.cons h1 (.nil)) => (.cons h1 (.cons h0 .nil))⟩
noncomputable def fb__law_rule : FS := (fsSeq (fsAsg 3 (fOp gSub (fCall F__law_draw (faCons (fVar 0) (faCons (fOp gSub (fC (.int 10)) (fFn gLen (faCons (fVar 1) faNil))) faNil))) (fC (.int 4))))
    (fsRet (fTup (faCons (fVar 2) (faCons (fFn gTuple (faCons (fLc (fiArgs gEnum (faCons (fVar 1) faNil)) (tgT [4, 5]) (fB (fOp gNe (fVar 5) (fC (.int 0)))) (fTup (faCons (fOp gAdd (fVar 3) (fVar 4)) (faCons (fVar 5) faNil))) [4, 5]) faNil)) faNil)))))
noncomputable def F__law_rule : Fn := runF 6 fb__law_rule
noncomputable def lb__law_stepped_1 : FS := (fsDrop (fMut gAppend (fVar 3) (faCons (fOp gMod (fFn gInt (faCons (fFn gSum (faCons (fLc (fiSeq (fOp gIx (fVar 0) (fC (.int 1)))) (tgT [5, 6]) fYes (fOp gMul (fVar 6) (fOp gIx (fVar 1) (fOp gMod (fFn gInt (faCons (fOp gAdd (fVar 4) (fVar 5)) faNil)) (fVar 2)))) [5, 6]) faNil)) faNil)) (fOp gIx (fVar 0) (fC (.int 0)))) faNil)))
noncomputable def fb__law_stepped : FS := (fsSeq (fsAsg 2 (fFn gLen (faCons (fVar 1) faNil)))
    (fsSeq (fsAsg 3 (fLstO faNil))
    (fsSeq (fsFor (fiArgs gRange1 (faCons (fVar 2) faNil)) (tgN 4) lb__law_stepped_1)
    (fsRet (fFn gTuple (faCons (fVar 3) faNil))))))
noncomputable def F__law_stepped : Fn := runF 7 fb__law_stepped
noncomputable def lb__law_due_1 : FS := (fsSeq (fsIf (fB (fOp gEq (fVar 2) (fOp gMulT (fTup (faCons (fC (.int 0)) faNil)) (fFn gLen (faCons (fVar 1) faNil))))) (fsRet (fVar 3)) fsNext)
    (fsAsg 2 (fCall F__law_stepped (faCons (fVar 0) (faCons (fVar 2) faNil)))))
noncomputable def fb__law_due : FS := (fsSeq (fsAsg 2 (fVar 1))
    (fsSeq (fsFor (fiArgs gRange1 (faCons (fOp gAdd (fFn gLen (faCons (fVar 1) faNil)) (fC (.int 1))) faNil)) (tgN 3) lb__law_due_1)
    (fsRet (fC .none))))
noncomputable def F__law_due : Fn := runF 4 fb__law_due
noncomputable def lb__law_block_1 : FS := (fsIf (fB (fOp gLe (fOp gMul (fOp gIx (fVar 3) (fUn gNeg (fC (.int 1)))) (fVar 1)) (fVar 2))) (fsDrop (fMut gAppend (fVar 3) (faCons (fOp gMul (fOp gIx (fVar 3) (fUn gNeg (fC (.int 1)))) (fVar 1)) faNil))) fsNext)
noncomputable def fb__law_block : FS := (fsSeq (fsAsg 3 (fLstO (faCons (fC (.int 1)) faNil)))
    (fsSeq (fsFor (fiArgs gRange1 (faCons (fC (.int 6)) faNil)) (tgN 4) lb__law_block_1)
    (fsRet (fOp gIx (fVar 3) (fCall F__law_draw (faCons (fVar 0) (faCons (fFn gLen (faCons (fVar 3) faNil)) faNil)))))))
noncomputable def F__law_block : Fn := runF 5 fb__law_block
noncomputable def fb__law_whole_of : FS := (fsSeq (fsAsg 3 (fVar 1))
    (fsSeq (fsIf (ftAnd (fB (fOp gLt (fOp gSub (fOp gMul (fC (.int 2)) (fFn gLen (faCons (fVar 1) faNil))) (fC (.int 1))) (fC (.int 10)))) (fB (fOp gEq (fCall F__law_draw (faCons (fVar 0) (faCons (fC (.int 3)) faNil))) (fC (.int 0))))) (fsAsg 3 (frz (fCall F__law_product (faCons (fVar 1) (faCons (fVar 1) (faCons (fVar 2) faNil)))))) fsNext)
    (fsRet (fCall F__law_product (faCons (fVar 3) (faCons (frz (fCall F__law_poly (faCons (fVar 0) (faCons (fVar 2) (faCons (fCall F__law_draw (faCons (fVar 0) (faCons (fOp gSub (fC (.int 10)) (fFn gLen (faCons (fVar 3) faNil))) faNil))) faNil))))) (faCons (fVar 2) faNil)))))))
noncomputable def F__law_whole_of : Fn := runF 4 fb__law_whole_of
noncomputable def fb__law_any : FS := (fsRet (fLcO (fiArgs gRange1 (faCons (fVar 2) faNil)) (tgN 3) fYes (fCall F__law_draw (faCons (fVar 0) (faCons (fVar 1) faNil))) [3]))
noncomputable def F__law_any : Fn := runF 4 fb__law_any
noncomputable def fb__law_made : FS := (fsSeq (fsIf (fB (fOp gEq (fVar 2) (fC (.int 0)))) (fsRet (fLstO (faCons (frz (fCall F__law_poly (faCons (fVar 0) (faCons (fVar 1) (faCons (fCall F__law_draw (faCons (fVar 0) (faCons (fC (.int 9)) faNil))) faNil))))) (faCons (frz (fCall F__law_any (faCons (fVar 0) (faCons (fVar 1) (faCons (fOp gAdd (fC (.int 1)) (fCall F__law_draw (faCons (fVar 0) (faCons (fC (.int 60)) faNil)))) faNil))))) faNil)))) fsNext)
    (fsSeq (fsIf (fB (fOp gEq (fVar 2) (fC (.int 1)))) (fsSeq (fsAsg 3 (fCall F__law_block (faCons (fVar 0) (faCons (fVar 1) (faCons (fC (.int 60)) faNil)))))
    (fsSeq (fsAsg 4 (frz (fRep (fCall F__law_any (faCons (fVar 0) (faCons (fVar 1) (faCons (fVar 3) faNil)))) (fOp gAdd (fC (.int 1)) (fCall F__law_draw (faCons (fVar 0) (faCons (fOp gFdiv (fC (.int 60)) (fVar 3)) faNil)))))))
    (fsRet (fLstO (faCons (frz (fCall F__law_whole_of (faCons (fVar 0) (faCons (fLst (faCons (fOp gSub (fVar 1) (fC (.int 1))) (faCons (fC (.int 1)) faNil))) (faCons (fVar 1) faNil))))) (faCons (fVar 4) faNil)))))) fsNext)
    (fsSeq (fsAsg 5 (fOp gAdd (fC (.int 2)) (fCall F__law_draw (faCons (fVar 0) (faCons (fC (.int 7)) faNil)))))
    (fsSeq (fsIf (fB (fOp gEq (fVar 2) (fC (.int 2)))) (fsSeq (fsAsg 3 (fCall F__law_block (faCons (fVar 0) (faCons (fVar 1) (faCons (fOp gFdiv (fC (.int 60)) (fVar 5)) faNil)))))
    (fsSeq (fsAsg 6 (frz (fCall F__law_any (faCons (fVar 0) (faCons (fVar 1) (faCons (fOp gMul (fVar 5) (fVar 3)) faNil))))))
    (fsSeq (fsAsg 4 (fLc (fiArgs gRange1 (faCons (fFn gLen (faCons (fVar 6) faNil)) faNil)) (tgN 7) fYes (fOp gMod (fFn gInt (faCons (fOp gSub (fOp gIx (fVar 6) (fOp gMod (fFn gInt (faCons (fOp gAdd (fVar 7) (fVar 3)) faNil)) (fFn gLen (faCons (fVar 6) faNil)))) (fOp gIx (fVar 6) (fVar 7))) faNil)) (fVar 1)) [7]))
    (fsRet (fLstO (faCons (frz (fCall F__law_whole_of (faCons (fVar 0) (faCons (frz (fRep (fLstO (faCons (fC (.int 1)) faNil)) (fVar 5))) (faCons (fVar 1) faNil))))) (faCons (fVar 4) faNil))))))) fsNext)
    (fsSeq (fsAsg 3 (fCall F__law_block (faCons (fVar 0) (faCons (fVar 1) (faCons (fOp gFdiv (fC (.int 30)) (fVar 5)) faNil)))))
    (fsSeq (fsAsg 6 (frz (fCall F__law_any (faCons (fVar 0) (faCons (fVar 1) (faCons (fOp gMul (fVar 5) (fVar 3)) faNil))))))
    (fsSeq (fsAsg 8 (fOp gAdd (fOp gAdd (fLst (faCons (fC (.int 1)) faNil)) (frz (fRep (fLstO (faCons (fC (.int 0)) faNil)) (fOp gSub (fVar 5) (fC (.int 1)))))) (fLst (faCons (fC (.int 1)) faNil))))
    (fsRet (fLstO (faCons (frz (fCall F__law_whole_of (faCons (fVar 0) (faCons (fVar 8) (faCons (fVar 1) faNil))))) (faCons (fOp gAdd (fVar 6) (fLc (fiSeq (fVar 6)) (tgN 9) fYes (fOp gMod (fFn gInt (faCons (fUn gNeg (fVar 9)) faNil)) (fVar 1)) [9])) faNil)))))))))))
noncomputable def F__law_made : Fn := runF 10 fb__law_made
noncomputable def fb__law_is : FS := (fsSeq (fsIf (fB (fOp gIsN (fVar 1) (fC .none))) (fsRet (fOp gIsN (fVar 0) (fC .none))) fsNext)
    (fsRet (fAndV (fIsi "int" (fVar 0)) (fAndV (fNotV (fIsi "bool" (fVar 0))) (fOp gEq (fVar 0) (fVar 1))))))
noncomputable def F__law_is : Fn := runF 2 fb__law_is
noncomputable def fb__law_right : FS := (fsSeq (fsAsgT [1, 2] (fTup (faCons (fOp gIx (fLst (faCons (fC (.int 2)) (faCons (fC (.int 3)) (faCons (fC (.int 5)) (faCons (fC (.int 7)) (faCons (fC (.int 11)) (faCons (fC (.int 13)) faNil))))))) (fCall F__law_draw (faCons (fVar 0) (faCons (fC (.int 6)) faNil)))) (faCons (fCall F__law_draw (faCons (fVar 0) (faCons (fC (.int 4)) faNil))) faNil))))
    (fsSeq (fsAsgL [3, 4] (frz (fCall F__law_made (faCons (fVar 0) (faCons (fVar 1) (faCons (fVar 2) faNil))))))
    (fsSeq (fsPar 5 6 (faCons (fCall F__law_rule (faCons (fVar 0) (faCons (fVar 3) (faCons (fVar 1) faNil)))) (faCons (fFn gTuple (faCons (fVar 4) faNil)) faNil)))
    (fsSeq (fsAsg 7 (fCall F__law_due (faCons (fVar 5) (faCons (fVar 6) faNil))))
    (fsSeq (fsIf (ftNot (fTr (fCall F__law_is (faCons (fCall F_dies_in (faCons (fVar 5) (faCons (fTup (faCons (fVar 1) (faCons (fVar 6) faNil))) faNil))) (faCons (fVar 7) faNil))))) (fsRet (fC (.bool false))) fsNext)
    (fsSeq (fsIf (ftNot (fTr (fCall F__law_is (faCons (fCallK F_dies_in g_dies_in_row_rule (faCons (fTup (faCons (fVar 1) (faCons (fCall F__law_stepped (faCons (fVar 5) (faCons (fVar 6) faNil))) faNil))) (faCons (fVar 5) faNil))) (faCons (fIf (fB (fOp gIn (fVar 7) (fTup (faCons (fC .none) (faCons (fC (.int 0)) faNil))))) (fVar 7) (fOp gSub (fVar 7) (fC (.int 1)))) faNil))))) (fsRet (fC (.bool false))) fsNext)
    (fsSeq (fsAsgT [8, 9] (fTup (faCons (fCall F__law_draw (faCons (fVar 0) (faCons (fFn gLen (faCons (fVar 6) faNil)) faNil))) (faCons (fOp gAdd (fC (.int 1)) (fCall F__law_draw (faCons (fVar 0) (faCons (fOp gSub (fVar 1) (fC (.int 1))) faNil)))) faNil))))
    (fsSeq (fsAsg 10 (fFn gTuple (faCons (fLc (fiSeq (fOp gAdd (fSl (fVar 6) (fPart (fVar 8)) fNo) (fSl (fVar 6) fNo (fPart (fVar 8))))) (tgN 11) fYes (fOp gMod (fFn gInt (faCons (fOp gMul (fVar 11) (fVar 9)) faNil)) (fVar 1)) [11]) faNil)))
    (fsSeq (fsIf (ftNot (fTr (fCall F__law_is (faCons (fCall F_dies_in (faCons (fVar 5) (faCons (fTup (faCons (fVar 1) (faCons (fVar 10) faNil))) faNil))) (faCons (fVar 7) faNil))))) (fsRet (fC (.bool false))) fsNext)
    (fsSeq (fsAsg 12 (fListO (fVar 6)))
    (fsSeq (fsAsg 13 (fCall F__law_draw (faCons (fVar 0) (faCons (fFn gLen (faCons (fVar 6) faNil)) faNil))))
    (fsSeq (fsSetI (fVar 12) (fVar 13) (fOp gMod (fFn gInt (faCons (fOp gAdd (fOp gIx (fVar 12) (fVar 13)) (fVar 9)) faNil)) (fVar 1)))
    (fsSeq (fsIf (ftNot (fTr (fCall F__law_is (faCons (fCall F_dies_in (faCons (fVar 5) (faCons (fTup (faCons (fVar 1) (faCons (fFn gTuple (faCons (fVar 12) faNil)) faNil))) faNil))) (faCons (fCall F__law_due (faCons (fVar 5) (faCons (fFn gTuple (faCons (fVar 12) faNil)) faNil))) faNil))))) (fsRet (fC (.bool false))) fsNext)
    (fsRet (fCall F__law_is (faCons (fCall F_dies_in (faCons (fVar 5) (faCons (fTup (faCons (fVar 1) (faCons (fOp gMulT (fTup (faCons (fC (.int 0)) faNil)) (fFn gLen (faCons (fVar 6) faNil))) faNil))) faNil))) (faCons (fC (.int 0)) faNil)))))))))))))))))
noncomputable def F__law_right : Fn := runF 14 fb__law_right
noncomputable def lb_law_1 : FS := (fsIf (ftNot (fTr (fCall1O F__law_right (fCall F__law_pot (faCons (fVar 0) (faCons (fVar 1) faNil)))))) (fsRet (fC (.bool false))) fsNext)
noncomputable def fb_law : FS := (fsSeq (fsFor (fiArgs gRange1 (faCons (fFn gMax2 (faCons (fC (.int 1)) (faCons (fFn gMin2 (faCons (fC (.int 3)) (faCons (fFn gLen (faCons (fVar 0) faNil)) faNil))) faNil))) faNil)) (tgN 1) lb_law_1)
    (fsRet (fC (.bool true))))
noncomputable def F_law : Fn := runF 2 fb_law
end K22

namespace K22
open PySem hiding rule
open PySem.Spec PyProof.Rows L2 DL FL RF NA
local macro_rules | `(tactic| walk_at "fl") => `(tactic| simp only [ap_var, ap_c, ap_un, ap_unV, ap_op, ap_opO, ap_fn, ap_nil, ap_cons, ap_tr, ap_b, ap_tand, ap_tor, ap_tnot, ap_and, ap_or, ap_not, ap_if, ap_chain, ap_tup, ap_lst, ap_lstO, ap_dictO, ap_frz, ap_sl, ap_no, ap_part, ap_mut, ap_call, ap_callK, ap_get, ap_dict, ap_isi, ap_rep, ap_listO, ap_seq, ap_iargs, ap_lc, ap_lcO, ap_yes, ap_sq, ap_ret, ap_drop, ap_sif, ap_nx, ap_bk, ap_ct, ap_asg, ap_setR, ap_runT, ap_bb0, ap_bbs, ap_bbn, ap_bbd, ap_bbc, ap_bbb, ap_sfrz, ap_setI, ap_setK, ap_for, ap_par, ap_asgT, ap_run, ap_see, ap_seeo, ap_seer, ap_getC, ap_setC, ap_sees0, ap_sees1, ap_parN, ap_view, ap_frza0, ap_frza, ap_frzc, ap_frzb, ap_frzd, ap_frzn, ap_call1, ap_c1o, ap_sar0, ap_sar1, ap_frv, ap_fro, ap_tgN, ap_tgT, fin_val, fin_own, fin_ref, fin_nx, bors_nil, bors_d, bors_b, R.bind_ok, ofO_some, ofB_some, ofOL_list, seeV, frV, vals, setAllF, wipeF, restF, callR, refsOf, argVs, putBack, setR2, setI, setK, ap_glt, ap_gle, ap_ggt, ap_gge, ap_gsub, ap_gadd, ap_gneg, ap_gix, ap_cutl, ap_cutt, ap_gtup, ap_glist, ap_glen, ap_gint, ap_gintb, ap_gabs, ap_gmax, ap_gmin, ap_isN, ap_notN, ap_geq, ap_gne, ap_eqi, ap_eqb, ap_eqs, ap_iol, ap_iot, ap_gtn, ap_gtb, ap_gti, ap_gtl, ap_gtt, ap_isn0, ap_isni, ap_isnl, ap_isnt, ap_revl, ap_revt, ap_enum, ap_zipl, ap_zipt, intsOf_map, boolsOf_map, ap_cellL, startF, List.map_cons, List.map_nil, List.length_cons, List.length_nil, List.replicate_succ, List.replicate_zero, List.cons_append, List.nil_append, List.append_nil, List.getElem?_cons_zero, List.getElem?_cons_succ, List.getElem?_nil, List.set_cons_zero, List.set_cons_succ, List.set_nil, Option.map_some, Option.map_none, Option.bind_some, Option.bind_none, Nat.reduceSub, Nat.reduceAdd, if_true, if_false, Bool.false_eq_true, reduceIte, true_and, and_true, Nat.sub_zero, Nat.zero_add, reduceCtorEq, List.nodup_nil, List.nodup_cons, List.not_mem_nil, not_false_eq_true, and_self, Bool.not_true, Bool.not_false, Bool.not_not, decide_true, decide_false, Nat.reduceLeDiff, atI0, atI1, req_true])
abbrev Tm := RF.Tm
/-! ### what a rule makes of a periodic function, again and again -/
/-- p is a prime, as far as needed -/
def Prm (p : Int) : Prop := ∀ x y : Int, Md p (x * y) 0 → Md p x 0 ∨ Md p y 0
def S1' (a : Tm) (f : Int → Int) : Int → Int := fun i => ev a fun o => f (i + o)
def Sn (a : Tm) : Nat → (Int → Int) → Int → Int
  | 0, f => f
  | n + 1, f => Sn a n (S1' a f)
theorem Sn_succ (a : Tm) : ∀ (n : Nat) (f : Int → Int), Sn a (n + 1) f = S1' a (Sn a n f)
  | 0, f => rfl
  | n + 1, f => Sn_succ a n (S1' a f)
def Zf (p : Int) (f : Int → Int) : Prop := ∀ i, Md p (f i) 0
theorem S1_md {p : Int} {a : Tm} {f g : Int → Int} (h : ∀ i, Md p (f i) (g i)) (i : Int) : Md p (S1' a f i) (S1' a g i) := ev_md fun o => h _
theorem Sn_md {p : Int} {a : Tm} : ∀ (n : Nat) {f g : Int → Int}, (∀ i, Md p (f i) (g i)) → ∀ i, Md p (Sn a n f i) (Sn a n g i)
  | 0, f, g, h => h
  | n + 1, f, g, h => Sn_md n (S1_md h)
theorem S1_lin {a : Tm} {c : Int} {f g : Int → Int} : S1' a (fun i => c * f i + g i) = fun i => c * S1' a f i + S1' a g i := by
  funext i
  unfold S1'
  rw [ev_add, ev_mul]
theorem Sn_lin {a : Tm} : ∀ (n : Nat) {c : Int} {f g : Int → Int}, Sn a n (fun i => c * f i + g i) = fun i => c * Sn a n f i + Sn a n g i
  | 0, c, f, g => rfl
  | n + 1, c, f, g => by
    show Sn a n (S1' a _) = _
    rw [S1_lin, Sn_lin n]
    rfl
theorem S1_zero {a : Tm} : S1' a (fun _ => 0) = fun _ => 0 := by
  funext i
  exact ev_zero
theorem Sn_zero {a : Tm} : ∀ n : Nat, Sn a n (fun _ => 0) = fun _ => 0
  | 0 => rfl
  | n + 1 => by
    show Sn a n (S1' a _) = _
    rw [S1_zero, Sn_zero n]
theorem Zf.step {p : Int} {a : Tm} {f : Int → Int} (h : Zf p f) : Zf p (S1' a f) := fun i => by
  have := S1_md (a := a) h i
  rwa [S1_zero] at this
theorem Zf.steps {p : Int} {a : Tm} {f : Int → Int} (h : Zf p f) (n : Nat) : Zf p (Sn a n f) := fun i => by
  have := Sn_md (a := a) n h i
  rwa [Sn_zero] at this
theorem Zf.on {p : Int} {a : Tm} {f : Int → Int} {n : Nat} (h : Zf p (Sn a n f)) : Zf p (Sn a (n + 1) f) := by
  rw [Sn_succ]
  exact h.step
/-- moved and multiplied -/
theorem Sn_move {p : Int} {a : Tm} {c by' : Int} : ∀ (n : Nat) {f g : Int → Int}, (∀ i, Md p (g i) (c * f (i + by'))) → ∀ i, Md p (Sn a n g i) (c * Sn a n f (i + by'))
  | 0, f, g, h => h
  | n + 1, f, g, h => Sn_move n (f := S1' a f) (g := S1' a g) fun i => by
    refine (S1_md (a := a) h i).trans (.of ?_)
    unfold S1'
    rw [ev_mul]
    congr 2
    funext o
    congr 1
    omega
theorem move_zf {p : Int} {a : Tm} {c by' : Int} (hp : Prm p) (hc : ¬ Md p c 0) {n : Nat} {f g : Int → Int} (h : ∀ i, Md p (g i) (c * f (i + by'))) : Zf p (Sn a n g) ↔ Zf p (Sn a n f) := by
  have m := Sn_move (a := a) n h
  refine ⟨fun z i => ?_, fun z i => (m i).trans ?_⟩
  · have h1 := (m (i - by')).symm.trans (z _)
    rw [Int.sub_add_cancel] at h1
    exact (hp _ _ h1).resolve_left hc
  · have := (z (i + by')).mul (c := c)
    rwa [Int.mul_zero] at this
/-! periodic functions -/
def Per (L : Int) (f : Int → Int) : Prop := ∀ i, f (i % L) = f i
theorem Per.step {L : Int} {a : Tm} {f : Int → Int} (h : Per L f) : Per L (S1' a f) := fun i => by
  unfold S1'
  congr 1
  funext o
  rw [← h (i % L + o), ← h (i + o), Int.emod_add_emod]
theorem Per.steps {L : Int} {a : Tm} : ∀ (n : Nat) {f : Int → Int}, Per L f → Per L (Sn a n f)
  | 0, _, h => h
  | n + 1, _, h => Per.steps n h.step
/-! sums of rows -/
def cmb : List Int → List (Nat → Int) → Nat → Int
  | c :: cs, v :: vs, i => c * v i + cmb cs vs i
  | _, _, _ => 0
theorem cmb_ins {y : Int} {v : Nat → Int} {i : Nat} : ∀ (x z : List Int) (A B : List (Nat → Int)), x.length = A.length → cmb (x ++ y :: z) (A ++ v :: B) i = cmb (x ++ z) (A ++ B) i + y * v i
  | [], z, [], B, _ => by simp only [List.nil_append, cmb]; omega
  | c :: x, z, u :: A, B, h => by
    have := cmb_ins (y := y) (v := v) (i := i) x z A B (by simpa using h)
    simp only [List.cons_append, cmb, this]
    omega
  | [], _, _ :: _, _, h => by simp at h
  | _ :: _, _, [], _, h => by simp at h
theorem cmb_scale {t : Int} {i : Nat} : ∀ (d : List Int) (U : List (Nat → Int)), cmb (d.map (t * ·)) U i = t * cmb d U i
  | [], U => by simp [cmb]
  | c :: d, [] => by simp [cmb]
  | c :: d, u :: U => by
    have := cmb_scale (t := t) (i := i) d U
    simp only [List.map_cons, cmb, this, Int.mul_add, Int.mul_assoc]
theorem cmb_map {t : Int} {v : Nat → Int} {L i : Nat} : ∀ (d : List Int) (U : List (Nat → Int)), cmb d (U.map fun u i => t * u i - u L * v i) i = t * cmb d U i - cmb d U L * v i
  | [], U => by simp [cmb]
  | c :: d, [] => by simp [cmb]
  | c :: d, u :: U => by
    have := cmb_map (t := t) (v := v) (L := L) (i := i) d U
    simp only [List.map_cons, cmb, this, Int.mul_add, Int.add_mul, Int.mul_sub]
    rw [Int.mul_left_comm c t, Int.mul_assoc c (u L)]
    omega
theorem cmb_zero {p : Int} {i : Nat} : ∀ (c : List Int) (V : List (Nat → Int)), (∀ v ∈ V, Md p (v i) 0) → Md p (cmb c V i) 0
  | [], V, _ => .of (by simp [cmb])
  | c :: cs, [], _ => .of (by simp [cmb])
  | c :: cs, v :: V, h => by
    have h1 := (h v List.mem_cons_self).mul (c := c)
    have h2 := cmb_zero (i := i) cs V fun u hu => h u (List.mem_cons_of_mem _ hu)
    have := h1.add h2
    rwa [Int.mul_zero, Int.add_zero] at this
/-- more rows than places: a sum of them is nought -/
theorem dep {p : Int} (hp : Prm p) (h1 : ¬ Md p 1 0) : ∀ (L : Nat) (V : List (Nat → Int)), V.length = L + 1 → ∃ c : List Int, c.length = V.length ∧ (∃ x ∈ c, ¬ Md p x 0) ∧ ∀ i, i < L → Md p (cmb c V i) 0
  | 0, V, h => ⟨[1], by rw [h]; rfl, ⟨1, List.mem_singleton.mpr rfl, h1⟩, fun i hi => absurd hi (Nat.not_lt_zero _)⟩
  | L + 1, V, h => by
    by_cases hv : ∃ v ∈ V, ¬ Md p (v L) 0
    · obtain ⟨v, hv, nv⟩ := hv
      obtain ⟨A, B, rfl⟩ := List.append_of_mem hv
      have hlen : (A ++ B).length = L + 1 := by simp at h ⊢; omega
      obtain ⟨d, dl, ⟨x, hx, nx⟩, hd⟩ := dep hp h1 L ((A ++ B).map fun u i => v L * u i - u L * v i) (by simpa using hlen)
      rw [List.length_map] at dl
      have ed : d = d.take A.length ++ d.drop A.length := (List.take_append_drop _ _).symm
      have la : (d.take A.length).length = A.length := by rw [List.length_take, dl, List.length_append]; omega
      refine ⟨(d.take A.length).map (v L * ·) ++ (-(cmb d (A ++ B) L)) :: (d.drop A.length).map (v L * ·), ?_, ⟨v L * x, ?_, fun z => ?_⟩, fun i hi => ?_⟩
      · simp at dl la ⊢; omega
      · rw [ed] at hx
        rcases List.mem_append.mp hx with h | h
        · exact List.mem_append_left _ (List.mem_map_of_mem h)
        · exact List.mem_append_right _ (List.mem_cons_of_mem _ (List.mem_map_of_mem h))
      · rcases hp _ _ z with h | h
        · exact nv h
        · exact nx h
      · rw [cmb_ins _ _ _ _ (by rw [List.length_map]; exact la), ← List.map_append, ← ed, cmb_scale]
        by_cases hL : i = L
        · subst hL
          refine .of ?_
          rw [Int.neg_mul, Int.mul_comm]; omega
        · have := hd i (by omega)
          rw [cmb_map] at this
          rw [Int.neg_mul]
          exact this
    · have hz : ∀ v ∈ V, Md p (v L) 0 := fun v m => Classical.byContradiction fun n => hv ⟨v, m, n⟩
      cases V with
      | nil => simp at h
      | cons v V =>
        obtain ⟨c, cl, ⟨x, hx, nx⟩, hc⟩ := dep hp h1 L V (by simpa using h)
        refine ⟨0 :: c, by simp [cl], ⟨x, List.mem_cons_of_mem _ hx, nx⟩, fun i hi => ?_⟩
        by_cases hL : i = L
        · subst hL
          exact cmb_zero _ _ hz
        · have := hc i (by omega)
          simp only [cmb]
          rw [Int.zero_mul, Int.zero_add]
          exact this
/-- sums of the rows that come one behind the other -/
def Cc (a : Tm) : List Int → (Int → Int) → Int → Int
  | [], _ => fun _ => 0
  | c :: cs, f => fun i => c * f i + Cc a cs (S1' a f) i
def rows (a : Tm) : Nat → (Int → Int) → List (Nat → Int)
  | 0, _ => []
  | n + 1, f => (fun i => f i) :: rows a n (S1' a f)
theorem rows_len (a : Tm) : ∀ (n : Nat) (f : Int → Int), (rows a n f).length = n
  | 0, _ => rfl
  | n + 1, f => by rw [rows, List.length_cons, rows_len a n]
theorem cmb_rows {a : Tm} {i : Nat} : ∀ (n : Nat) (c : List Int) (f : Int → Int), c.length = n → cmb c (rows a n f) i = Cc a c f i
  | 0, [], f, _ => rfl
  | n + 1, c :: cs, f, h => by
    have := cmb_rows (a := a) (i := i) n cs (S1' a f) (by simpa using h)
    simp only [rows, cmb, Cc, this]
  | 0, _ :: _, _, h => by simp at h
  | n + 1, [], _, h => by simp at h
theorem Per.sums {L : Int} {a : Tm} : ∀ (c : List Int) {f : Int → Int}, Per L f → Per L (Cc a c f)
  | [], _, _ => fun _ => rfl
  | c :: cs, f, h => fun i => by
    have := Per.sums (a := a) cs (h.step (a := a)) i
    simp only [Cc]
    rw [h i, this]
theorem Cc_step {a : Tm} : ∀ (c : List Int) (f : Int → Int), S1' a (Cc a c f) = Cc a c (S1' a f)
  | [], f => S1_zero
  | c :: cs, f => by
    show S1' a (fun i => c * f i + Cc a cs (S1' a f) i) = _
    rw [S1_lin, Cc_step cs]
    rfl
theorem Cc_steps {a : Tm} : ∀ (n : Nat) (c : List Int) (f : Int → Int), Sn a n (Cc a c f) = Cc a c (Sn a n f)
  | 0, _, _ => rfl
  | n + 1, c, f => by
    show Sn a n (S1' a _) = Cc a c (Sn a n (S1' a f))
    rw [Cc_step, Cc_steps n]
theorem Cc_zero {p : Int} {a : Tm} : ∀ (c : List Int) {f : Int → Int}, Zf p f → Zf p (Cc a c f)
  | [], _, _ => fun _ => .refl
  | c :: cs, f, h => fun i => by
    have h1 := (h i).mul (c := c)
    have h2 := Cc_zero (a := a) cs (h.step (a := a)) i
    have := h1.add h2
    rwa [Int.mul_zero, Int.add_zero] at this
theorem indep {p : Int} {a : Tm} (hp : Prm p) : ∀ (c : List Int) (N : Nat) (f : Int → Int), c.length ≤ N + 1 → Zf p (Sn a (N + 1) f) → ¬ Zf p (Sn a N f) → Zf p (Cc a c f) → ∀ x ∈ c, Md p x 0
  | [], _, _, _, _, _, _ => fun x h => by cases h
  | c :: cs, N, f, hl, h1, h2, hc => by
    have e : Zf p (fun i => c * Sn a N f i) := fun i => by
      have k := hc.steps (a := a) N i
      have k2 : Sn a N (Cc a (c :: cs) f) i = c * Sn a N f i + Cc a cs (Sn a (N + 1) f) i := by
        rw [Cc_steps]
        show c * Sn a N f i + Cc a cs (S1' a (Sn a N f)) i = _
        rw [← Sn_succ]
      rw [k2] at k
      have k3 := (Md.refl (m := p) (a := c * Sn a N f i)).add (Cc_zero (a := a) cs h1 i)
      rw [Int.add_zero] at k3
      exact k3.symm.trans k
    have hc0 : Md p c 0 := Classical.byContradiction fun n => h2 fun i => (hp _ _ (e i)).resolve_left n
    intro x hx
    rcases List.mem_cons.mp hx with rfl | hx
    · exact hc0
    · cases N with
      | zero =>
        cases cs with
        | nil => cases hx
        | cons y r => simp at hl
      | succ N =>
        refine indep hp cs N (S1' a f) (by simpa using hl) h1 h2 (fun i => ?_) x hx
        have k := hc i
        have k2 := (hc0.mulr (c := f i)).add (Md.refl (m := p) (a := Cc a cs (S1' a f) i))
        rw [Int.zero_mul, Int.zero_add] at k2
        exact k2.symm.trans k
/-- what dies out at all dies out in as many steps as there are values -/
theorem dies_soon {p : Int} {a : Tm} {f : Int → Int} {L : Nat} (hp : Prm p) (h1 : ¬ Md p 1 0) (hL : 0 < L) (hf : Per L f) (h : Zf p (Sn a (L + 1) f)) : Zf p (Sn a L f) := Classical.byContradiction fun n => by
  obtain ⟨c, cl, ⟨x, hx, nx⟩, hc⟩ := dep hp h1 L (rows a (L + 1) f) (rows_len a _ _)
  rw [rows_len] at cl
  refine nx (indep hp c L f (by omega) h n (fun i => ?_) x hx)
  have h0 := Int.emod_nonneg i (show (L : Int) ≠ 0 by omega)
  have h1 := Int.emod_lt_of_pos i (show (0 : Int) < L by omega)
  have := hc (i % L).toNat (by omega)
  rw [cmb_rows _ _ _ cl, show ((i % (L : Int)).toNat : Int) = i % L by omega, hf.sums] at this
  exact this
/-! ### round rows as periodic functions -/
theorem p6_prm {p : Int} (hp : p ∈ primes6) : Prm p := fun x y h => Classical.byContradiction fun n => by
  have mb := modsB (p6_mods hp)
  have nx : ¬ Md p x 0 := fun z => n (.inl z)
  have ny : ¬ Md p y 0 := fun z => n (.inr z)
  have rg : ∀ x : Int, ¬ Md p x 0 → 0 < x % p ∧ x % p < p := fun x hx => by
    have h0 := Int.emod_nonneg x (show p ≠ 0 by omega)
    have h1 := Int.emod_lt_of_pos x (show 0 < p by omega)
    refine ⟨?_, h1⟩
    by_cases z : x % p = 0
    · refine (hx ?_).elim
      have := (Md.rest (m := p) (a := x)).symm
      rwa [z] at this
    · omega
  have a := rg x nx
  have b := rg y ny
  exact md_prime hp a.1 a.2 b.1 b.2 (((Md.rest.mulr).trans (Md.rest.mul)).trans h)
theorem p6_one {p : Int} (hp : p ∈ primes6) : ¬ Md p 1 0 := fun h => by
  have mb := modsB (p6_mods hp)
  have := h.eq (by omega) (by omega) (by omega) (by omega)
  omega
theorem at_per {vs : List Int} : Per vs.length (at' vs) := fun i => by
  unfold at'
  rw [Int.emod_emod_of_dvd _ (Int.dvd_refl _)]
theorem at_nat {vs : List Int} {k : Nat} (h : k < vs.length) : at' vs k = vs[k] := by
  unfold at'
  rw [Int.emod_eq_of_lt (by omega) (by omega), Int.toNat_natCast, List.getElem?_eq_getElem h]
  rfl
theorem stepR_len {p : Int} {a : RF.Tm} {vs : List Int} : (stepR p a vs).length = vs.length := by simp [stepR]
theorem at_step {p : Int} {a : RF.Tm} {vs : List Int} (hn : vs ≠ []) (k : Int) : at' (stepR p a vs) k = S1' a (at' vs) k % p := by
  have hl : (0 : Int) < vs.length := by have := List.length_pos_iff.mpr hn; omega
  have h0 := Int.emod_nonneg k (Int.ne_of_gt hl)
  have h1 := Int.emod_lt_of_pos k hl
  have e := (at_per (vs := stepR p a vs) k).symm
  rw [stepR_len] at e
  have e2 := (at_per (vs := vs)).step (a := a) k
  rw [e, ← e2]
  generalize k % (vs.length : Int) = j at *
  obtain ⟨n, rfl⟩ := Int.eq_ofNat_of_zero_le h0
  have hj : n < (stepR p a vs).length := by rw [stepR_len]; omega
  rw [at_nat hj]
  simp [stepR, S1']
def itR (p : Int) (a : RF.Tm) : Nat → List Int → List Int
  | 0, vs => vs
  | n + 1, vs => itR p a n (stepR p a vs)
theorem itR_succ {p : Int} {a : RF.Tm} : ∀ (n : Nat) (vs : List Int), itR p a (n + 1) vs = stepR p a (itR p a n vs)
  | 0, vs => rfl
  | n + 1, vs => itR_succ n (stepR p a vs)
theorem itR_len {p : Int} {a : RF.Tm} : ∀ (n : Nat) (vs : List Int), (itR p a n vs).length = vs.length
  | 0, vs => rfl
  | n + 1, vs => by rw [itR, itR_len n, stepR_len]
theorem itR_rnd {p : Int} {a : RF.Tm} : ∀ (n : Nat) {vs : List Int}, Rnd p vs → Rnd p (itR p a n vs)
  | 0, vs, h => h
  | n + 1, vs, h => itR_rnd n (stepR_rnd h)
theorem at_it {p : Int} {a : RF.Tm} : ∀ (n : Nat) {vs : List Int}, Rnd p vs → ∀ k, Md p (at' (itR p a n vs) k) (Sn a n (at' vs) k)
  | 0, vs, h, k => .refl
  | n + 1, vs, h, k => (at_it n (stepR_rnd (a := a) h) k).trans (Sn_md n (fun i => by rw [at_step h.ne]; exact Md.rest) k)
def az (vs : List Int) : Bool := vs.all fun v => v == 0
theorem az_iff {p : Int} {vs : List Int} (h : Rnd p vs) : az vs = true ↔ Zf p (at' vs) := by
  have mb := modsB h.mo
  unfold az
  rw [List.all_eq_true]
  refine ⟨fun z i => ?_, fun z v hv => ?_⟩
  · refine .of ?_
    unfold at'
    cases e : vs[(i % vs.length).toNat]? with
    | none => rfl
    | some v => exact eq_of_beq (z v (List.mem_of_getElem? e))
  · obtain ⟨k, hk, rfl⟩ := List.getElem_of_mem hv
    have h1 := z k
    rw [at_nat hk] at h1
    have := h.rg _ hv
    exact beq_iff_eq.mpr (h1.eq this.1 this.2 (by omega) (by omega))
/-- whether all is nought behind n steps -/
def bz (p : Int) (a : RF.Tm) (vs : List Int) (n : Nat) : Bool := az (itR p a n vs)
theorem bz_iff {p : Int} {a : RF.Tm} {vs : List Int} (h : Rnd p vs) (n : Nat) : bz p a vs n = true ↔ Zf p (Sn a n (at' vs)) := by
  unfold bz
  rw [az_iff (itR_rnd n h)]
  exact ⟨fun z i => (at_it n h i).symm.trans (z i), fun z i => (at_it n h i).trans (z i)⟩
/-- the first of so many from s on -/
def fst' (b : Nat → Bool) : Nat → Nat → Option Nat
  | 0, _ => none
  | k + 1, s => if b s = true then some s else fst' b k (s + 1)
theorem fst_none {b : Nat → Bool} : ∀ {k s : Nat}, fst' b k s = none → ∀ i, s ≤ i → i < s + k → b i = false
  | 0, s, _, i, h1, h2 => by omega
  | k + 1, s, h, i, h1, h2 => by
    unfold fst' at h
    split at h
    · cases h
    · next hb =>
      by_cases e : i = s
      · subst e; simpa using hb
      · exact fst_none h i (by omega) (by omega)
theorem fst_more {b : Nat → Bool} : ∀ {k s : Nat}, fst' b (k + 1) s = match fst' b k s with
    | some n => some n
    | none => if b (s + k) = true then some (s + k) else none
  | 0, s => rfl
  | k + 1, s => by
    have := fst_more (b := b) (k := k) (s := s + 1)
    rw [show s + 1 + k = s + (k + 1) by omega] at this
    rw [fst', this]
    conv => rhs; rw [fst']
    split <;> rfl
theorem fst_shift {b : Nat → Bool} : ∀ {k s : Nat}, fst' (fun i => b (i + 1)) k s = (fst' b k (s + 1)).map fun n => n - 1
  | 0, s => rfl
  | k + 1, s => by
    rw [fst', fst', fst_shift (k := k)]
    split <;> rfl
theorem fst_congr {b c : Nat → Bool} (h : ∀ n, b n = c n) : fst' b = fst' c := by
  have : b = c := funext h
  rw [this]
/-- when a row dies out -/
def due (p : Int) (a : RF.Tm) (vs : List Int) : Option Nat := fst' (bz p a vs) (vs.length + 1) 0
theorem due_step {p : Int} {a : RF.Tm} {vs : List Int} (hp : p ∈ primes6) (h : Rnd p vs) : due p a (stepR p a vs) = match due p a vs with
    | some 0 => some 0
    | some (n + 1) => some n
    | none => none := by
  have hL : 0 < vs.length := List.length_pos_iff.mpr h.ne
  unfold due
  have e1 : bz p a (stepR p a vs) = fun i => bz p a vs (i + 1) := rfl
  rw [stepR_len, e1, fst_shift]
  have mono : ∀ n, bz p a vs n = true → bz p a vs (n + 1) = true := fun n hn => by
    rw [bz_iff h] at hn ⊢
    exact hn.on
  rw [show fst' (bz p a vs) (vs.length + 1) 0 = if bz p a vs 0 = true then some 0 else fst' (bz p a vs) vs.length 1 from rfl]
  by_cases h0 : bz p a vs 0 = true
  · rw [if_pos h0, fst', if_pos (mono 0 h0)]
    rfl
  · rw [if_neg h0, fst_more]
    cases e : fst' (bz p a vs) vs.length 1 with
    | none =>
      have hn := fst_none e vs.length (by omega) (by omega)
      have : bz p a vs (1 + vs.length) ≠ true := fun z => by
        rw [Nat.add_comm, bz_iff h] at z
        have := dies_soon (p6_prm hp) (p6_one hp) hL at_per z
        rw [← bz_iff h, hn] at this
        cases this
      dsimp only
      rw [if_neg this]
      rfl
    | some n =>
      have : ∀ {k s n : Nat}, fst' (bz p a vs) k s = some n → s ≤ n := by
        intro k
        induction k with
        | zero => intro s n h; cases h
        | succ k ih =>
          intro s n h
          unfold fst' at h
          split at h
          · cases h; exact Nat.le_refl _
          · have := ih h; omega
      have := this e
      obtain ⟨n, rfl⟩ : ∃ m, n = m + 1 := ⟨n - 1, by omega⟩
      rfl
theorem due_move {p c by' : Int} {a : RF.Tm} {vs ws : List Int} (hp : p ∈ primes6) (h : Rnd p vs) (g : Rnd p ws) (hl : ws.length = vs.length) (hc : ¬ Md p c 0) (m : ∀ i, Md p (at' ws i) (c * at' vs (i + by'))) : due p a ws = due p a vs := by
  unfold due
  rw [hl]
  refine congrFun (congrFun (fst_congr fun n => ?_) _) _
  rw [Bool.eq_iff_iff, bz_iff h, bz_iff g]
  exact move_zf (p6_prm hp) hc m
theorem due_zero {p : Int} {a : RF.Tm} {vs : List Int} (h : az vs = true) : due p a vs = some 0 := by
  unfold due
  rw [fst', if_pos (show bz p a vs 0 = true from h)]
end K22

namespace K22
open PySem hiding rule
open PySem.Spec PyProof.Rows L2 DL FL RF NA
local macro_rules | `(tactic| walk_at "fl") => `(tactic| simp only [ap_var, ap_c, ap_un, ap_unV, ap_op, ap_opO, ap_fn, ap_nil, ap_cons, ap_tr, ap_b, ap_tand, ap_tor, ap_tnot, ap_and, ap_or, ap_not, ap_if, ap_chain, ap_tup, ap_lst, ap_lstO, ap_dictO, ap_frz, ap_sl, ap_no, ap_part, ap_mut, ap_call, ap_callK, ap_get, ap_dict, ap_isi, ap_rep, ap_listO, ap_seq, ap_iargs, ap_lc, ap_lcO, ap_yes, ap_sq, ap_ret, ap_drop, ap_sif, ap_nx, ap_bk, ap_ct, ap_asg, ap_setR, ap_runT, ap_bb0, ap_bbs, ap_bbn, ap_bbd, ap_bbc, ap_bbb, ap_sfrz, ap_setI, ap_setK, ap_for, ap_par, ap_asgT, ap_run, ap_see, ap_seeo, ap_seer, ap_getC, ap_setC, ap_sees0, ap_sees1, ap_parN, ap_view, ap_frza0, ap_frza, ap_frzc, ap_frzb, ap_frzd, ap_frzn, ap_call1, ap_c1o, ap_sar0, ap_sar1, ap_frv, ap_fro, ap_tgN, ap_tgT, fin_val, fin_own, fin_ref, fin_nx, bors_nil, bors_d, bors_b, R.bind_ok, ofO_some, ofB_some, ofOL_list, seeV, frV, vals, setAllF, wipeF, restF, callR, refsOf, argVs, putBack, setR2, setI, setK, ap_glt, ap_gle, ap_ggt, ap_gge, ap_gsub, ap_gadd, ap_gneg, ap_gix, ap_cutl, ap_cutt, ap_gtup, ap_glist, ap_glen, ap_gint, ap_gintb, ap_gabs, ap_gmax, ap_gmin, ap_isN, ap_notN, ap_geq, ap_gne, ap_eqi, ap_eqb, ap_eqs, ap_iol, ap_iot, ap_gtn, ap_gtb, ap_gti, ap_gtl, ap_gtt, ap_isn0, ap_isni, ap_isnl, ap_isnt, ap_revl, ap_revt, ap_enum, ap_zipl, ap_zipt, intsOf_map, boolsOf_map, ap_cellL, startF, List.map_cons, List.map_nil, List.length_cons, List.length_nil, List.replicate_succ, List.replicate_zero, List.cons_append, List.nil_append, List.append_nil, List.getElem?_cons_zero, List.getElem?_cons_succ, List.getElem?_nil, List.set_cons_zero, List.set_cons_succ, List.set_nil, Option.map_some, Option.map_none, Option.bind_some, Option.bind_none, Nat.reduceSub, Nat.reduceAdd, if_true, if_false, Bool.false_eq_true, reduceIte, true_and, and_true, Nat.sub_zero, Nat.zero_add, reduceCtorEq, List.nodup_nil, List.nodup_cons, List.not_mem_nil, not_false_eq_true, and_self, Bool.not_true, Bool.not_false, Bool.not_not, decide_true, decide_false, Nat.reduceLeDiff, atI0, atI1, req_true])
theorem kd_int (i : Int) : (kitB (DL.kindOf (.int i)) "int").getD false = true := kI _
def oD : Option Nat → PyData
  | none => .none
  | some n => .int n
theorem e_is : ∀ x : Option Nat, F__law_is [.d (oD x), .d (oD x)] = tell (.bool true)
  | none => by
    unfold F__law_is fb__law_is oD
    walk_at "fl"
  | some n => by
    unfold F__law_is fb__law_is oD
    repeat first | simp only [show (kitB (DL.kindOf (.int n)) "int").getD false = true from kI _, show (kitB (DL.kindOf (.int n)) "bool").getD false = false from kB _, eqP] | walk_at "fl"
theorem rp {p : Int} {vs : List Int} (h : Rnd p vs) : (0 : Int) < vs.length := by
  have := List.length_pos_iff.mpr h.ne
  omega
/-! ### a step, as the law does it -/
theorem g_append {xs : List PyData} {x : PyData} (h : xs.length + 1 ≤ 900000) : gAppend xs [x] = some (.none, xs ++ [x]) := req_pos (by omega)
def prF (vs : List Int) (i : Int) : PyData → PyData
  | .tuple [.int o, .int f] => .int (f * at' vs (i + o))
  | _ => .none
theorem prF_data {a : Tm} {vs : List Int} {i : Int} : (a.map pr).map (prF vs i) = iv (a.map fun p => p.2 * at' vs (i + p.1)) := by
  simp [iv, pr, prF, Function.comp_def]
theorem loop_stepped {p : Int} {a : Tm} {vs : List Int} (ha : Ok p a) (hv : Rnd p vs) : ∀ (k s : Nat) (acc : List Int) (y : Option FV), bb y = false → acc.length + k ≤ 2000 →
    ∃ z, fsGo (tgN 4) lb__law_stepped_1 ((List.range' s k).map fun (i : Nat) => PyData.int i) [some (.d (rule p a)), some (.d (.tuple (iv vs))), some (.d (.int vs.length)), some (.c (.lst (iv acc))), y, none, none]
      = .ok .nx [some (.d (rule p a)), some (.d (.tuple (iv vs))), some (.d (.int vs.length)), some (.c (.lst (iv (acc ++ (List.range' s k).map fun (i : Nat) => (ev a fun o => at' vs ((i : Int) + o)) % p)))), z, none, none]
  | 0, s, acc, y, _, _ => ⟨y, by simp; rfl⟩
  | k + 1, s, acc, y, hy, hk => by
    have m0 := mods_pos ha.mo
    have hl := rp hv
    obtain ⟨z, e⟩ := loop_stepped ha hv k (s + 1) (acc ++ [(ev a fun o => at' vs ((s : Int) + o)) % p]) (some (.d (.int s))) rfl (by rw [List.length_append, List.length_singleton]; omega)
    refine ⟨z, ?_⟩
    rw [List.range'_succ, List.map_cons, List.map_cons]
    rw [List.append_assoc] at e
    refine (go_nx ?_).trans e
    unfold lb__law_stepped_1 rule tm
    repeat first | simp only [hy] | walk_at "fl"
    rw [lc_all (prF vs s) (by have := ha.len; simp; omega), prF_data]
    · repeat first | simp only [gSum_iv, g_mod m0, g_append (show (iv acc).length + 1 ≤ 900000 by rw [iv_len]; omega)] | walk_at "fl"
      simp [iv, ev]
    · intro d hd
      obtain ⟨q, hq, rfl⟩ := pr_mem hd
      have h1 := ha.cn.vl q hq
      have h2 := at_rg hv.rg m0 (s + q.1)
      have h3 := modsB ha.mo
      refine ⟨_, rfl, by walk_at "fl", ?_⟩
      repeat first | simp only [g_mod hl, at_ix _ hv.ne, prF, g_mul (bits_small (v := q.2) (c := at' vs (s + q.1)) (by omega) (by omega))] | walk_at "fl"
theorem rg_up {n : Nat} (h : n ≤ 100000) : gRange1 [.int (n : Int)] = some ((List.range' 0 n).map fun (i : Nat) => PyData.int i) := by
  rw [gRange1]
  refine (req_pos (by omega)).trans ?_
  rw [← List.range_eq_range', Int.toNat_natCast, rangeD0, iv, List.map_map]
  rfl
theorem e_stepped {p : Int} {a : Tm} {vs : List Int} (ha : Ok p a) (hv : Rnd p vs) (hl : vs.length ≤ 1000) : F__law_stepped [.d (rule p a), .d (.tuple (iv vs))] = tell (.tuple (iv (stepR p a vs))) := by
  obtain ⟨z, e⟩ := loop_stepped ha hv vs.length 0 [] none rfl (by rw [List.length_nil]; omega)
  have hlen : ((iv vs).length : Int) = (vs.length : Int) := by simp [iv]
  rw [← List.range_eq_range', List.nil_append, show iv [] = [] from rfl] at e
  have rg := rg_up (n := vs.length) (by omega)
  rw [← List.range_eq_range'] at rg
  unfold F__law_stepped fb__law_stepped
  unfold rule at e ⊢
  repeat first | simp only [hlen, rg, e] | walk_at "fl"
  rfl
/-! ### whether all is nought -/
theorem lay_iv : ∀ {b : List Int}, PyData.canLayAll0 (iv b) = true
  | [] => rfl
  | x :: r => by
    have ih := lay_iv (b := r)
    unfold iv at ih ⊢
    rw [List.map_cons, PyData.canLayAll0, ih]
    rfl
theorem dep_iv : ∀ {b : List Int}, PyData.depthAll (iv b) = 0
  | [] => rfl
  | x :: r => by
    have ih := dep_iv (b := r)
    unfold iv at ih ⊢
    rw [List.map_cons, PyData.depthAll, ih]
    rfl
theorem shaped_tup {b : List Int} : SeqAt.shaped (.tuple (iv b)) = true := by
  unfold SeqAt.shaped
  simp [PyData.canLay0, PyData.depth, lay_iv, dep_iv]
theorem eqv_zero : ∀ {b : List Int}, PyData.eqvAll (iv b) (iv (List.replicate b.length 0)) = az b
  | [] => rfl
  | x :: r => by
    have ih := eqv_zero (b := r)
    unfold iv az at ih ⊢
    rw [List.length_cons, List.replicate_succ, List.map_cons, List.map_cons, PyData.eqvAll, ih, List.all_cons]
    rfl
theorem eq_zero {b : List Int} {n : Nat} (h : b.length = n) : eqP (.tuple (iv b)) (.tuple (iv (List.replicate n 0))) = some (az b) := by
  subst h
  refine (req_pos ⟨shaped_tup, shaped_tup⟩).trans ?_
  rw [← eqv_zero]
  rfl
theorem mul_zero' {n : Nat} (h0 : 0 < n) (h1 : n ≤ 1000) : gMulT (.tuple [.int 0]) (.int (n : Int)) = some (.tuple (iv (List.replicate n 0))) := by
  refine (req_pos ⟨by simp, by omega, by omega, by simp⟩).trans ?_
  rw [Int.toNat_natCast, flat_rep, rep_iv]
theorem any_iv {vs : List Int} : gAnyT [.tuple (iv vs)] = some (.bool (!az vs)) := by
  have e : (vs.any fun n => n != 0) = !az vs := by
    unfold az
    rw [Bool.eq_iff_iff]
    simp
  show (intsOf (vs.map PyData.int)).map _ = _
  rw [intsOf_map, Option.map_some, e]
/-! ### the law's walk, and the program's -/
theorem loop_due {p : Int} {a : Tm} {vs : List Int} (ha : Ok p a) (hv : Rnd p vs) (hl : vs.length ≤ 1000) : ∀ (k s : Nat) (y : Option FV), bb y = false →
    ∃ c z, fsGo (tgN 3) lb__law_due_1 ((List.range' s k).map fun (i : Nat) => PyData.int i) [some (.d (rule p a)), some (.d (.tuple (iv vs))), some (.d (.tuple (iv (itR p a s vs)))), y]
      = .ok (match fst' (bz p a vs) k s with | some n => .rt (.val (.int n)) | none => .nx) [some (.d (rule p a)), some (.d (.tuple (iv vs))), c, z]
  | 0, s, y, _ => ⟨_, y, rfl⟩
  | k + 1, s, y, hy => by
    have hL := rp hv
    have hlen : ((iv vs).length : Int) = (vs.length : Int) := by simp [iv]
    have e0 := eq_zero (b := itR p a s vs) (itR_len s vs)
    have e1 := mul_zero' (n := vs.length) (by omega) hl
    rw [List.range'_succ, List.map_cons]
    by_cases hz : bz p a vs s = true
    · refine ⟨some (.d (.tuple (iv (itR p a s vs)))), some (.d (.int s)), ?_⟩
      rw [fst', if_pos hz]
      refine go_rt ?_
      rw [show az (itR p a s vs) = true from hz] at e0
      unfold lb__law_due_1
      repeat first | simp only [hy, hlen, e1, e0] | walk_at "fl"
    · obtain ⟨c, z, e⟩ := loop_due ha hv hl k (s + 1) (some (.d (.int s))) rfl
      refine ⟨c, z, ?_⟩
      rw [fst', if_neg hz]
      refine (go_nx ?_).trans e
      rw [show az (itR p a s vs) = false from by simpa [bz] using hz] at e0
      have e2 := e_stepped ha (itR_rnd (a := a) s hv) (by rw [itR_len]; exact hl)
      rw [itR_succ]
      unfold lb__law_due_1
      repeat first | simp only [hy, hlen, e1, e0, e2] | walk_at "fl"
theorem e_due {p : Int} {a : Tm} {vs : List Int} (ha : Ok p a) (hv : Rnd p vs) (hl : vs.length ≤ 1000) : F__law_due [.d (rule p a), .d (.tuple (iv vs))] = tell (oD (due p a vs)) := by
  obtain ⟨c, z, e⟩ := loop_due ha hv hl (vs.length + 1) 0 none rfl
  have hlen : ((iv vs).length : Int) = (vs.length : Int) := by simp [iv]
  have rg := rg_up (n := vs.length + 1) (by omega)
  rw [Int.natCast_add, Int.natCast_one] at rg
  unfold due
  rw [show itR p a 0 vs = vs from rfl] at e
  unfold F__law_due fb__law_due
  cases hd : fst' (bz p a vs) (vs.length + 1) 0 with
  | none =>
    rw [hd] at e
    repeat first | simp only [hlen, g_add, rg, e] | walk_at "fl"
    rfl
  | some n =>
    rw [hd] at e
    repeat first | simp only [hlen, g_add, rg, e] | walk_at "fl"
    rfl
theorem loop_dies {p : Int} {a : Tm} {vs : List Int} (ha : Ok p a) (hv : Rnd p vs) : ∀ (k s : Nat) (y : Option FV), bb y = false →
    ∃ c z, fsGo (tgN 2) lb_dies_in_1 ((List.range' s k).map fun (i : Nat) => PyData.int i) [some (.d (rule p a)), some (.d (rnd p (itR p a s vs))), y]
      = .ok (match fst' (bz p a vs) k s with | some n => .rt (.val (.int n)) | none => .nx) [some (.d (rule p a)), c, z]
  | 0, s, y, _ => ⟨_, y, rfl⟩
  | k + 1, s, y, hy => by
    have e0 := any_iv (vs := itR p a s vs)
    rw [List.range'_succ, List.map_cons]
    by_cases hz : bz p a vs s = true
    · refine ⟨some (.d (rnd p (itR p a s vs))), some (.d (.int s)), ?_⟩
      rw [fst', if_pos hz]
      refine go_rt ?_
      rw [show az (itR p a s vs) = true from hz] at e0
      unfold lb_dies_in_1 rnd
      repeat first | simp only [hy, e0] | walk_at "fl"
    · obtain ⟨c, z, e⟩ := loop_dies ha hv k (s + 1) (some (.d (.int s))) rfl
      refine ⟨c, z, ?_⟩
      rw [fst', if_neg hz]
      refine (go_nx ?_).trans e
      rw [show az (itR p a s vs) = false from by simpa [bz] using hz] at e0
      have e2 := e_round_step ha (itR_rnd (a := a) s hv)
      rw [itR_succ]
      unfold lb_dies_in_1
      unfold rnd at e2 ⊢
      repeat first | simp only [hy, e0, e2] | walk_at "fl"
theorem e_dies_in {p low : Int} {q : List Int} {vs : List Int} (hp : p ∈ primes6) (hq : Pl p q) (lq : q.length ≤ 1000) (hv : Rnd p vs) (hl : vs.length ≤ 1000) : F_dies_in [.d (rule p (pt low q)), .d (rnd p vs)] = tell (oD (due p (pt low q) vs)) := by
  have ha := pt_ok (low := low) hp hq.pn (by omega)
  have e1 := e_need_prime_rule (low := low) hp hq lq
  have e2 := e_need_round hv
  obtain ⟨c, z, e⟩ := loop_dies ha hv (vs.length + 1) 0 none rfl
  have hlen : ((iv vs).length : Int) = (vs.length : Int) := by simp [iv]
  have rg := rg_up (n := vs.length + 1) (by omega)
  rw [Int.natCast_add, Int.natCast_one] at rg
  unfold due
  rw [show itR p (pt low q) 0 vs = vs from rfl] at e
  unfold F_dies_in fb_dies_in
  unfold rule at e1 e ⊢
  unfold rnd at e2 e ⊢
  cases hd : fst' (bz p (pt low q) vs) (vs.length + 1) 0 with
  | none =>
    rw [hd] at e
    repeat first | simp only [e1, e2, e_need_same, hlen, g_add, rg, e] | walk_at "fl"
    rfl
  | some n =>
    rw [hd] at e
    repeat first | simp only [e1, e2, e_need_same, hlen, g_add, rg, e] | walk_at "fl"
    rfl
end K22

namespace K22
open PySem hiding rule
open PySem.Spec PyProof.Rows L2 DL FL RF NA
local macro_rules | `(tactic| walk_at "fl") => `(tactic| simp only [ap_var, ap_c, ap_un, ap_unV, ap_op, ap_opO, ap_fn, ap_nil, ap_cons, ap_tr, ap_b, ap_tand, ap_tor, ap_tnot, ap_and, ap_or, ap_not, ap_if, ap_chain, ap_tup, ap_lst, ap_lstO, ap_dictO, ap_frz, ap_sl, ap_no, ap_part, ap_mut, ap_call, ap_callK, ap_get, ap_dict, ap_isi, ap_rep, ap_listO, ap_seq, ap_iargs, ap_lc, ap_lcO, ap_yes, ap_sq, ap_ret, ap_drop, ap_sif, ap_nx, ap_bk, ap_ct, ap_asg, ap_setR, ap_runT, ap_bb0, ap_bbs, ap_bbn, ap_bbd, ap_bbc, ap_bbb, ap_sfrz, ap_setI, ap_setK, ap_for, ap_par, ap_asgT, ap_run, ap_see, ap_seeo, ap_seer, ap_getC, ap_setC, ap_sees0, ap_sees1, ap_parN, ap_view, ap_frza0, ap_frza, ap_frzc, ap_frzb, ap_frzd, ap_frzn, ap_call1, ap_c1o, ap_sar0, ap_sar1, ap_frv, ap_fro, ap_tgN, ap_tgT, fin_val, fin_own, fin_ref, fin_nx, bors_nil, bors_d, bors_b, R.bind_ok, ofO_some, ofB_some, ofOL_list, seeV, frV, vals, setAllF, wipeF, restF, callR, refsOf, argVs, putBack, setR2, setI, setK, ap_glt, ap_gle, ap_ggt, ap_gge, ap_gsub, ap_gadd, ap_gneg, ap_gix, ap_cutl, ap_cutt, ap_gtup, ap_glist, ap_glen, ap_gint, ap_gintb, ap_gabs, ap_gmax, ap_gmin, ap_isN, ap_notN, ap_geq, ap_gne, ap_eqi, ap_eqb, ap_eqs, ap_iol, ap_iot, ap_gtn, ap_gtb, ap_gti, ap_gtl, ap_gtt, ap_isn0, ap_isni, ap_isnl, ap_isnt, ap_revl, ap_revt, ap_enum, ap_zipl, ap_zipt, intsOf_map, boolsOf_map, ap_cellL, startF, List.map_cons, List.map_nil, List.length_cons, List.length_nil, List.replicate_succ, List.replicate_zero, List.cons_append, List.nil_append, List.append_nil, List.getElem?_cons_zero, List.getElem?_cons_succ, List.getElem?_nil, List.set_cons_zero, List.set_cons_succ, List.set_nil, Option.map_some, Option.map_none, Option.bind_some, Option.bind_none, Nat.reduceSub, Nat.reduceAdd, if_true, if_false, Bool.false_eq_true, reduceIte, true_and, and_true, Nat.sub_zero, Nat.zero_add, reduceCtorEq, List.nodup_nil, List.nodup_cons, List.not_mem_nil, not_false_eq_true, and_self, Bool.not_true, Bool.not_false, Bool.not_not, decide_true, decide_false, Nat.reduceLeDiff, atI0, atI1, req_true])
/-! ### what is drawn -/
theorem e_any {c : Cell} {n k : Nat} {p : Int} (h : Pot n c) (hp : p ∈ primes6) (hk : k ≤ 200) (hn : n + 200 ≤ 1000000) :
    ∃ vs c', F__law_any [.b c, .d (.int p), .d (.int k)] = .ok (.own (.lst (iv vs))) [c'] ∧ Pn p vs ∧ vs.length = k ∧ Pot (n + k) c' := by
  have mb := modsB (p6_mods hp)
  have hL : (rangeD 0 ((k : Int)).toNat).length = k := by simp [rangeD]
  have rg : gRange1 [.int (k : Int)] = some (rangeD 0 ((k : Int)).toNat) := req_pos (by omega)
  obtain ⟨ys, ε', e1, e2, c1, rfl, p1⟩ := lc_rel (gf := tgN 3) (tt := fYes) (fe := fCall F__law_draw (faCons (fVar 0) (faCons (fVar 1) faNil))) (vs := [3])
    (fun j ε => ∃ c, ε = [some (.b c), some (.d (.int p)), some (.d (.int k)), none] ∧ Pot j c)
    (fun _ r => ∃ v : Int, r = PyData.int v ∧ 0 ≤ v ∧ v < p) 1 1000000 (rangeD 0 ((k : Int)).toNat) [] n _ (by rw [List.length_nil, hL]; omega) (by rw [hL]; omega) ⟨c, rfl, h⟩ (by
      rintro d hd j ε ⟨c, rfl, hc⟩ hk
      obtain ⟨f, c', e, f0, f1, hp⟩ := e_draw hc (many := p) (by omega) (Int.le_trans mb.2 (by decide)) (by omega)
      refine ⟨_, _, .int f, [some (.b c'), some (.d (.int p)), some (.d (.int k)), some (.d d)], rfl, rfl, ?_, ⟨f, rfl, f0, f1⟩, c', by walk_at "fl", hp⟩
      repeat first | simp only [e] | walk_at "fl")
  obtain ⟨vs, rfl, pn, hl⟩ := paired_rg e2
  rw [hL] at hl p1
  rw [List.nil_append] at e1
  refine ⟨vs, c1, ?_, pn, hl, p1.mono (by omega)⟩
  unfold F__law_any fb__law_any
  repeat first | simp only [rg, e1] | walk_at "fl"
theorem ixl {xs : List Int} {x : Int} : atI (iv (xs ++ [x])) (-1) = some (.int x) := by
  unfold iv
  rw [List.map_append]
  exact atI_last _ _
theorem loop_block {c : Cell} {p most : Int} (hp : p ∈ primes6) (hm : most ≤ 60) : ∀ (ds : List PyData) (xs : List Int) (x : Int) (y : Option FV), bb y = false → xs.length + ds.length ≤ 100 → (∀ z ∈ xs ++ [x], 1 ≤ z ∧ z ≤ most) →
    ∃ xs' z, fsGo (tgN 4) lb__law_block_1 ds [some (.b c), some (.d (.int p)), some (.d (.int most)), some (.c (.lst (iv (xs ++ [x])))), y]
      = .ok .nx [some (.b c), some (.d (.int p)), some (.d (.int most)), some (.c (.lst (iv xs'))), z] ∧ xs' ≠ [] ∧ xs'.length ≤ 101 ∧ ∀ z ∈ xs', 1 ≤ z ∧ z ≤ most
  | [], xs, x, y, _, hl, h => ⟨xs ++ [x], y, rfl, by simp, by simp at hl ⊢; omega, h⟩
  | d :: ds, xs, x, y, hy, hl, h => by
    have mb := modsB (p6_mods hp)
    have hx := h x (by simp)
    have g1 := g_mul (i := x) (j := p) (bits_small (by omega) (by omega))
    simp only [List.length_cons] at hl
    by_cases hlt : x * p ≤ most
    · have hx2 : 1 ≤ x * p := by
        have := Int.mul_le_mul hx.1 (show 1 ≤ p by omega) (by decide) (by omega)
        simpa using this
      obtain ⟨xs', z, e, r1, r2, r3⟩ := loop_block (c := c) hp hm ds (xs ++ [x]) (x * p) (some (.d d)) rfl (by rw [List.length_append, List.length_singleton]; omega) fun z hz => by
        rcases List.mem_append.mp hz with hz | hz
        · exact h z hz
        · rw [List.mem_singleton.mp hz]; exact ⟨hx2, hlt⟩
      refine ⟨xs', z, (go_nx ?_).trans e, r1, r2, r3⟩
      have ga := g_append (xs := iv (xs ++ [x])) (x := .int (x * p)) (by rw [iv_len, List.length_append, List.length_singleton]; omega)
      rw [show iv (xs ++ [x]) ++ [PyData.int (x * p)] = iv (xs ++ [x] ++ [x * p]) by simp [iv]] at ga
      unfold lb__law_block_1
      repeat first | simp only [hy, ixl, g1, hlt, ga, decide_true] | walk_at "fl"
    · obtain ⟨xs', z, e, r1, r2, r3⟩ := loop_block (c := c) hp hm ds xs x (some (.d d)) rfl (by omega) h
      refine ⟨xs', z, (go_nx ?_).trans e, r1, r2, r3⟩
      unfold lb__law_block_1
      repeat first | simp only [hy, ixl, g1, hlt, decide_false] | walk_at "fl"
theorem e_block {c : Cell} {n : Nat} {p most : Int} (h : Pot n c) (hp : p ∈ primes6) (h1 : 1 ≤ most) (hm : most ≤ 60) (hn : n ≤ 1000000) :
    ∃ (b : Nat) (c' : Cell), F__law_block [.b c, .d (.int p), .d (.int most)] = .ok (.val (.int b)) [c'] ∧ 1 ≤ b ∧ (b : Int) ≤ most ∧ Pot (n + 1) c' := by
  obtain ⟨xs, z, e, r1, r2, r3⟩ := loop_block (c := c) hp hm (rangeD 0 (6 : Int).toNat) [] 1 none rfl (by decide) (by simp; omega)
  have rg : gRange1 [.int 6] = some (rangeD 0 (6 : Int).toNat) := req_pos (by decide)
  have hl : ((iv xs).length : Int) = (xs.length : Int) := by rw [iv_len]
  have hx := List.length_pos_iff.mpr r1
  obtain ⟨r, c1, e1, r10, r11, p1⟩ := e_draw h (many := (xs.length : Int)) (by omega) (Int.le_trans (b := 101) (by omega) (by decide)) hn
  obtain ⟨d, e2, hd⟩ := getI (xs := iv xs) r10 (by rw [iv_len]; exact r11)
  obtain ⟨b, hb, rfl⟩ := iv_mem hd
  have := r3 b hb
  obtain ⟨b, rfl⟩ := Int.eq_ofNat_of_zero_le (show 0 ≤ b by omega)
  refine ⟨b, c1, ?_, by omega, this.2, p1⟩
  unfold F__law_block fb__law_block
  rw [show [] ++ [(1 : Int)] = [1] from rfl, show iv [1] = [PyData.int 1] from rfl] at e
  repeat first | simp only [rg, e, hl, e1, e2] | walk_at "fl"
theorem e_whole {c : Cell} {n : Nat} {p : Int} {a : List Int} (h : Pot n c) (hp : p ∈ primes6) (pa : Pl p a) (la : a.length ≤ 9) (hn : n + 200 ≤ 1000000) : ∃ r c', F__law_whole_of [.b c, .d (.list (iv a)), .d (.int p)] = .ok (.own (.lst (iv r))) [c'] ∧ Pl p r ∧ r.length ≤ 9 ∧ Pot (n + 60) c' := by
  have fin : ∀ {c1 : Cell} {m : Nat} {q : List Int}, Pot m c1 → Pl p q → q.length ≤ 9 → m ≤ n + 1 → ∃ r c2 c', F__law_draw [.b c1, .d (.int (10 - (q.length : Int)))] = .ok (.val (.int (c2 : Nat))) [c'] ∧ ∃ b c'', F__law_poly [.b c', .d (.int p), .d (.int (c2 : Nat))] = .ok (.own (.lst (iv b))) [c''] ∧
      F__law_product [.d (.list (iv q)), .d (.list (iv b)), .d (.int p)] = .ok (.own (.lst (iv r))) [] ∧ Pl p r ∧ r.length ≤ 9 ∧ Pot (n + 60) c'' := fun {c1 m q} h pq lq hm => by
    have l0 := pq.pos
    obtain ⟨u, c2, e2, u0, u1, p2⟩ := e_draw h (many := 10 - (q.length : Int)) (by omega) (Int.le_trans (b := 10) (by omega) (by decide)) (by omega)
    obtain ⟨k, rfl⟩ := Int.eq_ofNat_of_zero_le u0
    obtain ⟨b, c3, e3, pb, lb, p3⟩ := e_poly (w := k) p2 hp (by omega) (by omega)
    obtain ⟨r, e4, pr, lr, _⟩ := e_product hp pq pb (by omega)
    exact ⟨r, k, c2, e2, b, c3, e3, e4, pr, by omega, p3.mono (by omega)⟩
  have l0 := pa.pos
  have hla : ((iv a).length : Int) = (a.length : Int) := by rw [iv_len]
  have g2 := g_mul (i := 2) (j := (a.length : Int)) (bits_small (by decide) (by omega))
  by_cases hs : 2 * (a.length : Int) - 1 < 10
  · obtain ⟨u, c1, e1, u0, u1, p1⟩ := e_draw h (many := 3) (by decide) (by decide) (by omega)
    by_cases hu : u = 0
    · subst hu
      obtain ⟨s, es, ps, ls, _⟩ := e_product hp pa pa (by omega)
      obtain ⟨r, k, c2, e2, b, c3, e3, e4, pr, lr, p3⟩ := fin p1 ps (by omega) (by omega)
      have hls : ((iv s).length : Int) = (s.length : Int) := by rw [iv_len]
      refine ⟨r, c3, ?_, pr, lr, p3⟩
      unfold F__law_whole_of fb__law_whole_of
      repeat first | simp only [hla, g2, hs, decide_true, e1, eqP, es, hls, e2, e3, e4] | walk_at "fl"
    · obtain ⟨r, k, c2, e2, b, c3, e3, e4, pr, lr, p3⟩ := fin p1 pa (by omega) (by omega)
      refine ⟨r, c3, ?_, pr, lr, p3⟩
      unfold F__law_whole_of fb__law_whole_of
      repeat first | simp only [hla, g2, hs, decide_true, e1, eqP, hu, decide_false, e2, e3, e4] | walk_at "fl"
  · obtain ⟨r, k, c2, e2, b, c3, e3, e4, pr, lr, p3⟩ := fin h pa (by omega) (by omega)
    refine ⟨r, c3, ?_, pr, lr, p3⟩
    unfold F__law_whole_of fb__law_whole_of
    repeat first | simp only [hla, g2, hs, decide_false, e2, e3, e4] | walk_at "fl"
end K22

namespace K22
open PySem hiding rule
open PySem.Spec PyProof.Rows L2 DL FL RF NA
local macro_rules | `(tactic| walk_at "fl") => `(tactic| simp only [ap_var, ap_c, ap_un, ap_unV, ap_op, ap_opO, ap_fn, ap_nil, ap_cons, ap_tr, ap_b, ap_tand, ap_tor, ap_tnot, ap_and, ap_or, ap_not, ap_if, ap_chain, ap_tup, ap_lst, ap_lstO, ap_dictO, ap_frz, ap_sl, ap_no, ap_part, ap_mut, ap_call, ap_callK, ap_get, ap_dict, ap_isi, ap_rep, ap_listO, ap_seq, ap_iargs, ap_lc, ap_lcO, ap_yes, ap_sq, ap_ret, ap_drop, ap_sif, ap_nx, ap_bk, ap_ct, ap_asg, ap_setR, ap_runT, ap_bb0, ap_bbs, ap_bbn, ap_bbd, ap_bbc, ap_bbb, ap_sfrz, ap_setI, ap_setK, ap_for, ap_par, ap_asgT, ap_run, ap_see, ap_seeo, ap_seer, ap_getC, ap_setC, ap_sees0, ap_sees1, ap_parN, ap_view, ap_frza0, ap_frza, ap_frzc, ap_frzb, ap_frzd, ap_frzn, ap_call1, ap_c1o, ap_sar0, ap_sar1, ap_frv, ap_fro, ap_tgN, ap_tgT, fin_val, fin_own, fin_ref, fin_nx, bors_nil, bors_d, bors_b, R.bind_ok, ofO_some, ofB_some, ofOL_list, seeV, frV, vals, setAllF, wipeF, restF, callR, refsOf, argVs, putBack, setR2, setI, setK, ap_glt, ap_gle, ap_ggt, ap_gge, ap_gsub, ap_gadd, ap_gneg, ap_gix, ap_cutl, ap_cutt, ap_gtup, ap_glist, ap_glen, ap_gint, ap_gintb, ap_gabs, ap_gmax, ap_gmin, ap_isN, ap_notN, ap_geq, ap_gne, ap_eqi, ap_eqb, ap_eqs, ap_iol, ap_iot, ap_gtn, ap_gtb, ap_gti, ap_gtl, ap_gtt, ap_isn0, ap_isni, ap_isnl, ap_isnt, ap_revl, ap_revt, ap_enum, ap_zipl, ap_zipt, intsOf_map, boolsOf_map, ap_cellL, startF, List.map_cons, List.map_nil, List.length_cons, List.length_nil, List.replicate_succ, List.replicate_zero, List.cons_append, List.nil_append, List.append_nil, List.getElem?_cons_zero, List.getElem?_cons_succ, List.getElem?_nil, List.set_cons_zero, List.set_cons_succ, List.set_nil, Option.map_some, Option.map_none, Option.bind_some, Option.bind_none, Nat.reduceSub, Nat.reduceAdd, if_true, if_false, Bool.false_eq_true, reduceIte, true_and, and_true, Nat.sub_zero, Nat.zero_add, reduceCtorEq, List.nodup_nil, List.nodup_cons, List.not_mem_nil, not_false_eq_true, and_self, Bool.not_true, Bool.not_false, Bool.not_not, decide_true, decide_false, Nat.reduceLeDiff, atI0, atI1, req_true])
/-! ### a polynomial and a round row that fit one another -/
theorem rep_len {k : Nat} {vs : List Int} : (List.replicate k vs).flatten.length = k * vs.length := by
  induction k with
  | zero => simp
  | succ k ih => rw [List.replicate_succ, List.flatten_cons, List.length_append, ih, Nat.add_mul, Nat.one_mul, Nat.add_comm]
theorem rep_flat {k : Nat} {vs : List Int} : (List.replicate k (iv vs)).flatten = iv (List.replicate k vs).flatten := by
  induction k with
  | zero => rfl
  | succ k ih => rw [List.replicate_succ, List.flatten_cons, ih, List.replicate_succ, List.flatten_cons]; simp [iv]
theorem rep_mem {k : Nat} {vs : List Int} {x : Int} (h : x ∈ (List.replicate k vs).flatten) : x ∈ vs := by
  obtain ⟨l, hl, hx⟩ := List.mem_flatten.mp h
  rw [List.eq_of_mem_replicate hl] at hx
  exact hx
theorem pn_rnd {p : Int} {vs : List Int} (hp : p ∈ primes6) (h : Pn p vs) (h0 : 0 < vs.length) (h1 : vs.length ≤ 60) : Rnd p vs := ⟨p6_mods hp, List.length_pos_iff.mp h0, h, by omega⟩
theorem pl_ends {p x y : Int} {b : List Int} (hx : 0 < x ∧ x < p) (hy : 0 < y ∧ y < p) (hb : Pn p b) : Pl p (x :: b ++ [y]) := by
  refine ⟨fun z hz => ?_, by simp, ?_, ?_⟩
  · rcases List.mem_append.mp hz with h | h
    · rcases List.mem_cons.mp h with rfl | h
      · omega
      · exact hb z h
    · rw [List.mem_singleton.mp h]; omega
  · show x ≠ 0
    omega
  · unfold cg
    rw [Int.toNat_natCast, List.length_append, List.length_singleton, Nat.add_sub_cancel, List.getElem?_append_right (Nat.le_refl _), Nat.sub_self]
    show y ≠ 0
    omega
theorem pl_ones {p : Int} {k : Nat} (hp : p ∈ primes6) (h : 0 < k) : Pl p (List.replicate k 1) := by
  have mb := modsB (p6_mods hp)
  refine ⟨fun z hz => ?_, ?_, ?_, ?_⟩
  · rw [List.eq_of_mem_replicate hz]; omega
  · intro z
    have := congrArg List.length z
    simp at this
    omega
  · unfold cg
    rw [List.getElem?_replicate_of_lt (by show (0 : Int).toNat < k; omega)]
    show (1 : Int) ≠ 0
    decide
  · unfold cg
    rw [List.getElem?_replicate_of_lt (by rw [List.length_replicate]; omega)]
    show (1 : Int) ≠ 0
    decide
theorem rep_one {k : Nat} : List.replicate k (PyData.int 1) = iv (List.replicate k 1) := by simp [iv]
/-- what made tells -/
def Made (p : Int) (q vs : List Int) : Prop := Pl p q ∧ q.length ≤ 9 ∧ Rnd p vs ∧ vs.length ≤ 60
theorem made0 {c : Cell} {n : Nat} {p : Int} (h : Pot n c) (hp : p ∈ primes6) (hn : n + 1000 ≤ 1000000) :
    ∃ q vs c', F__law_made [.b c, .d (.int p), .d (.int 0)] = .ok (.own (.lst [.list (iv q), .list (iv vs)])) [c'] ∧ Made p q vs ∧ Pot (n + 300) c' := by
  obtain ⟨w, c1, e1, w0, w1, p1⟩ := e_draw h (many := 9) (by decide) (by decide) (by omega)
  obtain ⟨w, rfl⟩ := Int.eq_ofNat_of_zero_le w0
  obtain ⟨q, c2, e2, pq, lq, p2⟩ := e_poly (w := w) p1 hp (by omega) (by omega)
  obtain ⟨t, c3, e3, t0, t1, p3⟩ := e_draw p2 (many := 60) (by decide) (by decide) (by omega)
  obtain ⟨t, rfl⟩ := Int.eq_ofNat_of_zero_le t0
  obtain ⟨vs, c4, e4, pv, lv, p4⟩ := e_any (k := 1 + t) p3 hp (by omega) (by omega)
  rw [Int.natCast_add, Int.natCast_one] at e4
  refine ⟨q, vs, c4, ?_, ⟨pq, by omega, pn_rnd hp pv (by omega) (by omega), by omega⟩, p4.mono (by omega)⟩
  unfold F__law_made fb__law_made
  repeat first | simp only [eqP, e1, e2, e3, g_add, e4] | walk_at "fl"
end K22

namespace K22
open PySem hiding rule
open PySem.Spec PyProof.Rows L2 DL FL RF NA
local macro_rules | `(tactic| walk_at "fl") => `(tactic| simp only [ap_var, ap_c, ap_un, ap_unV, ap_op, ap_opO, ap_fn, ap_nil, ap_cons, ap_tr, ap_b, ap_tand, ap_tor, ap_tnot, ap_and, ap_or, ap_not, ap_if, ap_chain, ap_tup, ap_lst, ap_lstO, ap_dictO, ap_frz, ap_sl, ap_no, ap_part, ap_mut, ap_call, ap_callK, ap_get, ap_dict, ap_isi, ap_rep, ap_listO, ap_seq, ap_iargs, ap_lc, ap_lcO, ap_yes, ap_sq, ap_ret, ap_drop, ap_sif, ap_nx, ap_bk, ap_ct, ap_asg, ap_setR, ap_runT, ap_bb0, ap_bbs, ap_bbn, ap_bbd, ap_bbc, ap_bbb, ap_sfrz, ap_setI, ap_setK, ap_for, ap_par, ap_asgT, ap_run, ap_see, ap_seeo, ap_seer, ap_getC, ap_setC, ap_sees0, ap_sees1, ap_parN, ap_view, ap_frza0, ap_frza, ap_frzc, ap_frzb, ap_frzd, ap_frzn, ap_call1, ap_c1o, ap_sar0, ap_sar1, ap_frv, ap_fro, ap_tgN, ap_tgT, fin_val, fin_own, fin_ref, fin_nx, bors_nil, bors_d, bors_b, R.bind_ok, ofO_some, ofB_some, ofOL_list, seeV, frV, vals, setAllF, wipeF, restF, callR, refsOf, argVs, putBack, setR2, setI, setK, ap_glt, ap_gle, ap_ggt, ap_gge, ap_gsub, ap_gadd, ap_gneg, ap_gix, ap_cutl, ap_cutt, ap_gtup, ap_glist, ap_glen, ap_gint, ap_gintb, ap_gabs, ap_gmax, ap_gmin, ap_isN, ap_notN, ap_geq, ap_gne, ap_eqi, ap_eqb, ap_eqs, ap_iol, ap_iot, ap_gtn, ap_gtb, ap_gti, ap_gtl, ap_gtt, ap_isn0, ap_isni, ap_isnl, ap_isnt, ap_revl, ap_revt, ap_enum, ap_zipl, ap_zipt, intsOf_map, boolsOf_map, ap_cellL, startF, List.map_cons, List.map_nil, List.length_cons, List.length_nil, List.replicate_succ, List.replicate_zero, List.cons_append, List.nil_append, List.append_nil, List.getElem?_cons_zero, List.getElem?_cons_succ, List.getElem?_nil, List.set_cons_zero, List.set_cons_succ, List.set_nil, Option.map_some, Option.map_none, Option.bind_some, Option.bind_none, Nat.reduceSub, Nat.reduceAdd, if_true, if_false, Bool.false_eq_true, reduceIte, true_and, and_true, Nat.sub_zero, Nat.zero_add, reduceCtorEq, List.nodup_nil, List.nodup_cons, List.not_mem_nil, not_false_eq_true, and_self, Bool.not_true, Bool.not_false, Bool.not_not, decide_true, decide_false, Nat.reduceLeDiff, atI0, atI1, req_true])
theorem sq_nx {f g : FS} {ε ε1 : FSt} (h : f ε = .ok .nx ε1) : fsSeq f g ε = g ε1 := by rw [ap_sq, h]; rfl
theorem sq_rt {f g : FS} {ε ε1 : FSt} {r : FR} (h : f ε = .ok (.rt r) ε1) : fsSeq f g ε = .ok (.rt r) ε1 := by rw [ap_sq, h]; rfl
theorem if_t {t : FTT} {f g : FS} {ε ε1 : FSt} (h : t ε = .ok true ε1) : fsIf t f g ε = f ε1 := by rw [ap_sif, h]; rfl
theorem if_f {t : FTT} {f g : FS} {ε ε1 : FSt} (h : t ε = .ok false ε1) : fsIf t f g ε = g ε1 := by rw [ap_sif, h]; rfl
theorem repR_ok {xs : List PyData} {k : Int} {ε : FSt} (h0 : 0 ≤ k) (h1 : k < 1000000) (h : xs.length * k.toNat ≤ 900000) : repR (some xs) (some (.int k)) ε = .ok (.own (.lst (List.replicate k.toNat xs).flatten)) ε := by
  unfold repR
  exact if_pos ⟨by omega, by omega, h⟩
theorem made1 {c : Cell} {n : Nat} {p : Int} (h : Pot n c) (hp : p ∈ primes6) (hn : n + 1000 ≤ 1000000) :
    ∃ q vs c', F__law_made [.b c, .d (.int p), .d (.int 1)] = .ok (.own (.lst [.list (iv q), .list (iv vs)])) [c'] ∧ Made p q vs ∧ Pot (n + 300) c' := by
  have mb := modsB (p6_mods hp)
  obtain ⟨b, c1, e1, b0, b1, p1⟩ := e_block (most := 60) h hp (by decide) (by decide) (by omega)
  obtain ⟨vs, c2, e2, pv, lv, p2⟩ := e_any (k := b) p1 hp (by omega) (by omega)
  have hq1 : 1 ≤ (60 : Int) / b := (Int.le_ediv_iff_mul_le (by omega)).mpr (by omega)
  have hq2 : (60 : Int) / b ≤ 60 := Int.ediv_le_self _ (by decide)
  obtain ⟨t, c3, e3, t0, t1, p3⟩ := e_draw p2 (many := 60 / (b : Int)) hq1 (Int.le_trans hq2 (by decide)) (by omega)
  obtain ⟨t, rfl⟩ := Int.eq_ofNat_of_zero_le t0
  have pl : Pl p [p - 1, 1] := pl_ends (x := p - 1) (y := 1) (b := []) (by omega) (by omega) (fun z hz => by cases hz)
  obtain ⟨q, c4, e4, pq, lq, p4⟩ := e_whole p3 hp pl (by show 2 ≤ 9; decide) (by omega)
  have gd := g_fdiv (divW (j := (b : Int)) (by omega) (Int.lt_of_le_of_lt (b := 100) (by omega) (by decide)) 60)
  have hlen : (1 + t) * b ≤ 60 := by
    have h1 : ((1 + t : Nat) : Int) ≤ 60 / (b : Int) := by omega
    have := (Int.le_ediv_iff_mul_le (show (0 : Int) < b by omega)).mp h1
    exact_mod_cast this
  have hlen0 : 0 < (1 + t) * b := Nat.mul_pos (by omega) (by omega)
  have hln : (List.replicate (1 + t) vs).flatten.length = (1 + t) * b := by rw [rep_len, lv]
  refine ⟨q, (List.replicate (1 + t) vs).flatten, c4, ?_, ⟨pq, lq, pn_rnd hp (fun z hz => pv z (rep_mem hz)) (by omega) (by omega), by omega⟩, p4.mono (by omega)⟩
  have ht : (1 + (t : Int)).toNat = 1 + t := by omega
  have hb1 : -(2 ^ 63) ≤ 1 + (t : Int) := by omega
  have hb2 : 1 + (t : Int) < 2 ^ 63 := by omega
  have hb3 : b * (1 + t) ≤ 900000 := by rw [Nat.mul_comm]; omega
  rw [show iv [p - 1, 1] = [PyData.int (p - 1), .int 1] from rfl] at e4
  have hr : ∀ ε : FSt, repR (some (iv vs)) (some (.int (1 + (t : Int)))) ε = .ok (.own (.lst (iv (List.replicate (1 + t) vs).flatten))) ε := fun ε => by
    rw [repR_ok (by omega) (by omega) (by rw [iv_len, lv, ht]; exact hb3), ht, rep_flat]
  have t1 : fCall F__law_any (faCons (fVar 0) (faCons (fVar 1) (faCons (fVar 3) faNil))) [some (.b c1), some (.d (.int p)), some (.d (.int 1)), some (.d (.int b)), none, none, none, none, none, none] = .ok (.own (.lst (iv vs))) [some (.b c2), some (.d (.int p)), some (.d (.int 1)), some (.d (.int b)), none, none, none, none, none, none] := by
    repeat first | simp only [e2] | walk_at "fl"
  have t2 : (fOp FL.gAdd (fC (.int 1)) (fCall F__law_draw (faCons (fVar 0) (faCons (fOp FL.gFdiv (fC (.int 60)) (fVar 3)) faNil)))) [some (.b c2), some (.d (.int p)), some (.d (.int 1)), some (.d (.int b)), none, none, none, none, none, none] = .ok (.val (.int (1 + t))) [some (.b c3), some (.d (.int p)), some (.d (.int 1)), some (.d (.int b)), none, none, none, none, none, none] := by
    repeat first | simp only [gd, e3, g_add] | walk_at "fl"
  have t3 := hr [some (.b c3), some (.d (.int p)), some (.d (.int 1)), some (.d (.int b)), none, none, none, none, none, none]
  have t4 : (frz (fRep (fCall F__law_any (faCons (fVar 0) (faCons (fVar 1) (faCons (fVar 3) faNil)))) (fOp FL.gAdd (fC (.int 1)) (fCall F__law_draw (faCons (fVar 0) (faCons (fOp FL.gFdiv (fC (.int 60)) (fVar 3)) faNil)))))) [some (.b c1), some (.d (.int p)), some (.d (.int 1)), some (.d (.int b)), none, none, none, none, none, none] = .ok (.val (.list (iv (List.replicate (1 + t) vs).flatten))) [some (.b c3), some (.d (.int p)), some (.d (.int 1)), some (.d (.int b)), none, none, none, none, none, none] := by
    rw [ap_frz, ap_rep, t1, R.bind_ok, t2, R.bind_ok]
    show R.bind (repR (some (iv vs)) (some (.int (1 + (t : Int)))) _) _ = _
    rw [t3, R.bind_ok]
    rfl
  unfold F__law_made fb__law_made
  generalize frz (fRep (fCall F__law_any (faCons (fVar 0) (faCons (fVar 1) (faCons (fVar 3) faNil)))) (fOp FL.gAdd (fC (.int 1)) (fCall F__law_draw (faCons (fVar 0) (faCons (fOp FL.gFdiv (fC (.int 60)) (fVar 3)) faNil))))) = G at t4 ⊢
  repeat first | simp only [eqP, show ¬ (1 : Int) = 0 by decide, e1, t4, e4] | walk_at "fl"
end K22

namespace K22
open PySem hiding rule
open PySem.Spec PyProof.Rows L2 DL FL RF NA
local macro_rules | `(tactic| walk_at "fl") => `(tactic| simp only [ap_var, ap_c, ap_un, ap_unV, ap_op, ap_opO, ap_fn, ap_nil, ap_cons, ap_tr, ap_b, ap_tand, ap_tor, ap_tnot, ap_and, ap_or, ap_not, ap_if, ap_chain, ap_tup, ap_lst, ap_lstO, ap_dictO, ap_frz, ap_sl, ap_no, ap_part, ap_mut, ap_call, ap_callK, ap_get, ap_dict, ap_isi, ap_rep, ap_listO, ap_seq, ap_iargs, ap_lc, ap_lcO, ap_yes, ap_sq, ap_ret, ap_drop, ap_sif, ap_nx, ap_bk, ap_ct, ap_asg, ap_setR, ap_runT, ap_bb0, ap_bbs, ap_bbn, ap_bbd, ap_bbc, ap_bbb, ap_sfrz, ap_setI, ap_setK, ap_for, ap_par, ap_asgT, ap_run, ap_see, ap_seeo, ap_seer, ap_getC, ap_setC, ap_sees0, ap_sees1, ap_parN, ap_view, ap_frza0, ap_frza, ap_frzc, ap_frzb, ap_frzd, ap_frzn, ap_call1, ap_c1o, ap_sar0, ap_sar1, ap_frv, ap_fro, ap_tgN, ap_tgT, fin_val, fin_own, fin_ref, fin_nx, bors_nil, bors_d, bors_b, R.bind_ok, ofO_some, ofB_some, ofOL_list, seeV, frV, vals, setAllF, wipeF, restF, callR, refsOf, argVs, putBack, setR2, setI, setK, ap_glt, ap_gle, ap_ggt, ap_gge, ap_gsub, ap_gadd, ap_gneg, ap_gix, ap_cutl, ap_cutt, ap_gtup, ap_glist, ap_glen, ap_gint, ap_gintb, ap_gabs, ap_gmax, ap_gmin, ap_isN, ap_notN, ap_geq, ap_gne, ap_eqi, ap_eqb, ap_eqs, ap_iol, ap_iot, ap_gtn, ap_gtb, ap_gti, ap_gtl, ap_gtt, ap_isn0, ap_isni, ap_isnl, ap_isnt, ap_revl, ap_revt, ap_enum, ap_zipl, ap_zipt, intsOf_map, boolsOf_map, ap_cellL, startF, List.map_cons, List.map_nil, List.length_cons, List.length_nil, List.replicate_succ, List.replicate_zero, List.cons_append, List.nil_append, List.append_nil, List.getElem?_cons_zero, List.getElem?_cons_succ, List.getElem?_nil, List.set_cons_zero, List.set_cons_succ, List.set_nil, Option.map_some, Option.map_none, Option.bind_some, Option.bind_none, Nat.reduceSub, Nat.reduceAdd, if_true, if_false, Bool.false_eq_true, reduceIte, true_and, and_true, Nat.sub_zero, Nat.zero_add, reduceCtorEq, List.nodup_nil, List.nodup_cons, List.not_mem_nil, not_false_eq_true, and_self, Bool.not_true, Bool.not_false, Bool.not_not, decide_true, decide_false, Nat.reduceLeDiff, atI0, atI1, req_true])
theorem made2 {c : Cell} {n : Nat} {p : Int} (h : Pot n c) (hp : p ∈ primes6) (hn : n + 1000 ≤ 1000000) :
    ∃ q vs c', F__law_made [.b c, .d (.int p), .d (.int 2)] = .ok (.own (.lst [.list (iv q), .list (iv vs)])) [c'] ∧ Made p q vs ∧ Pot (n + 300) c' := by
  have mb := modsB (p6_mods hp)
  obtain ⟨s, c0, e0, s0, s1, p0⟩ := e_draw h (many := 7) (by decide) (by decide) (by omega)
  obtain ⟨s, rfl⟩ := Int.eq_ofNat_of_zero_le s0
  have hd0 : (2 : Int) + s ≤ 8 := by omega
  have hq1 : 1 ≤ (60 : Int) / (2 + (s : Int)) := (Int.le_ediv_iff_mul_le (by omega)).mpr (by omega)
  have hq2 : (60 : Int) / (2 + (s : Int)) ≤ 60 := Int.ediv_le_self _ (by decide)
  obtain ⟨b, c1, e1, b0, b1, p1⟩ := e_block (most := 60 / (2 + (s : Int))) p0 hp hq1 hq2 (by omega)
  have hlen : (2 + s) * b ≤ 60 := by
    have := (Int.le_ediv_iff_mul_le (show (0 : Int) < 2 + (s : Int) by omega)).mp b1
    rw [Nat.mul_comm]
    exact_mod_cast this
  have hlen0 : 0 < (2 + s) * b := Nat.mul_pos (by omega) (by omega)
  obtain ⟨row, c2, e2, pr, lr, p2⟩ := e_any (k := (2 + s) * b) p1 hp (by omega) (by omega)
  rw [Int.natCast_mul, Int.natCast_add, show ((2 : Nat) : Int) = 2 from rfl] at e2
  have gd := g_fdiv (divW (j := 2 + (s : Int)) (by omega) (Int.lt_of_le_of_lt (b := 100) (by omega) (by decide)) 60)
  have gm := g_mul (i := 2 + (s : Int)) (j := (b : Int)) (bits_small (by omega) (by omega))
  obtain ⟨q, c4, e4, pq, lq, p4⟩ := e_whole p2 hp (pl_ones (k := 2 + s) hp (by omega)) (by rw [List.length_replicate]; omega) (by omega)
  have hlr : ((iv row).length : Int) = (row.length : Int) := by rw [iv_len]
  have rnr := pn_rnd hp pr (by omega) (by omega)
  have hl0 := rp rnr
  have rg : gRange1 [.int (row.length : Int)] = some (rangeD 0 row.length) := by
    rw [gRange1]
    exact (req_pos (by omega)).trans (by rw [Int.toNat_natCast])
  have hlc : ∀ x0 x2 x4 x8 x9 : Option FV, fLcGo (tgN 7) fYes (fOp FL.gMod (fFn gInt (faCons (fOp FL.gSub (fOp gIx (fVar 6) (fOp FL.gMod (fFn gInt (faCons (fOp FL.gAdd (fVar 7) (fVar 3)) faNil)) (fFn gLen (faCons (fVar 6) faNil)))) (fOp gIx (fVar 6) (fVar 7))) faNil)) (fVar 1)) [7] (rangeD 0 row.length) [] [x0, some (.d (.int p)), x2, some (.d (.int b)), x4, some (.d (.int (2 + (s : Int)))), some (.d (.list (iv row))), none, x8, x9]
      = .ok (iv ((List.range row.length).map fun (i : Nat) => (at' row ((i : Int) + b) - at' row i) % p)) [x0, some (.d (.int p)), x2, some (.d (.int b)), x4, some (.d (.int (2 + (s : Int)))), some (.d (.list (iv row))), none, x8, x9] := fun x0 x2 x4 x8 x9 => by
    rw [lc_all (fun d => match d with
      | .int i => .int ((at' row (i + b) - at' row i) % p)
      | _ => .none) (by simp [rangeD]; omega)]
    · rw [rangeD0]
      simp [iv, Function.comp_def]
    · intro d hd
      rw [rangeD0] at hd
      obtain ⟨i, hi, rfl⟩ := iv_mem hd
      obtain ⟨k, hk, rfl⟩ := List.mem_map.mp hi
      have hk := List.mem_range.mp hk
      have e5 := at_ix (vs := row) (k : Int) rnr.ne
      rw [Int.emod_eq_of_lt (by omega) (by omega)] at e5
      refine ⟨_, rfl, by walk_at "fl", ?_⟩
      repeat first | simp only [hlr, g_add, g_mod hl0, at_ix _ rnr.ne, e5, g_mod (show 0 < p by omega)] | walk_at "fl"
  have hvl : ((List.range row.length).map fun (i : Nat) => (at' row ((i : Int) + b) - at' row i) % p).length = row.length := by simp
  refine ⟨q, _, c4, ?_, ⟨pq, lq, pn_rnd hp (vs := (List.range row.length).map fun (i : Nat) => (at' row ((i : Int) + b) - at' row i) % p) (fun z hz => ?_) (by omega) (by omega), by omega⟩, p4.mono (by omega)⟩
  · have ht : (2 + (s : Int)).toNat = 2 + s := by omega
    have hb1 : -(2 ^ 63) ≤ 2 + (s : Int) := by omega
    have hb2 : 2 + (s : Int) < 2 ^ 63 := by omega
    have hb3 : 1 * (2 + s) ≤ 900000 := by omega
    have a1 : fLstO (faCons (fC (.int 1)) faNil) [some (.b c2), some (.d (.int p)), some (.d (.int 2)), some (.d (.int b)), some (.d (.list (iv ((List.range row.length).map fun (i : Nat) => (at' row ((i : Int) + b) - at' row i) % p)))), some (.d (.int (2 + (s : Int)))), some (.d (.list (iv row))), none, none, none] = .ok (.own (.lst [.int 1])) [some (.b c2), some (.d (.int p)), some (.d (.int 2)), some (.d (.int b)), some (.d (.list (iv ((List.range row.length).map fun (i : Nat) => (at' row ((i : Int) + b) - at' row i) % p)))), some (.d (.int (2 + (s : Int)))), some (.d (.list (iv row))), none, none, none] := by walk_at "fl"
    have a2 : fVar 5 [some (.b c2), some (.d (.int p)), some (.d (.int 2)), some (.d (.int b)), some (.d (.list (iv ((List.range row.length).map fun (i : Nat) => (at' row ((i : Int) + b) - at' row i) % p)))), some (.d (.int (2 + (s : Int)))), some (.d (.list (iv row))), none, none, none] = .ok (.val (.int (2 + (s : Int)))) [some (.b c2), some (.d (.int p)), some (.d (.int 2)), some (.d (.int b)), some (.d (.list (iv ((List.range row.length).map fun (i : Nat) => (at' row ((i : Int) + b) - at' row i) % p)))), some (.d (.int (2 + (s : Int)))), some (.d (.list (iv row))), none, none, none] := by walk_at "fl"
    have a3 : frz (fRep (fLstO (faCons (fC (.int 1)) faNil)) (fVar 5)) [some (.b c2), some (.d (.int p)), some (.d (.int 2)), some (.d (.int b)), some (.d (.list (iv ((List.range row.length).map fun (i : Nat) => (at' row ((i : Int) + b) - at' row i) % p)))), some (.d (.int (2 + (s : Int)))), some (.d (.list (iv row))), none, none, none] = .ok (.val (.list (iv (List.replicate (2 + s) 1)))) [some (.b c2), some (.d (.int p)), some (.d (.int 2)), some (.d (.int b)), some (.d (.list (iv ((List.range row.length).map fun (i : Nat) => (at' row ((i : Int) + b) - at' row i) % p)))), some (.d (.int (2 + (s : Int)))), some (.d (.list (iv row))), none, none, none] := by
      rw [ap_frz, ap_rep, a1, R.bind_ok, a2, R.bind_ok]
      show R.bind (repR (some [PyData.int 1]) (some (.int (2 + (s : Int)))) _) _ = _
      rw [repR_ok (by omega) (by omega) (by rw [ht]; exact hb3), ht, flat_rep, rep_one, R.bind_ok]
      rfl
    unfold F__law_made fb__law_made
    generalize frz (fRep (fLstO (faCons (fC (.int 1)) faNil)) (fVar 5)) = G at a3 ⊢
    repeat first | simp only [eqP, show ¬ (2 : Int) = 0 by decide, show ¬ (2 : Int) = 1 by decide, e0, g_add, gd, e1, gm, e2, hlr, rg, hlc, a3, e4] | walk_at "fl"
  · obtain ⟨i, _, rfl⟩ := List.mem_map.mp hz
    exact ⟨Int.emod_nonneg _ (by omega), Int.emod_lt_of_pos _ (by omega)⟩
end K22

namespace K22
open PySem hiding rule
open PySem.Spec PyProof.Rows L2 DL FL RF NA
local macro_rules | `(tactic| walk_at "fl") => `(tactic| simp only [ap_var, ap_c, ap_un, ap_unV, ap_op, ap_opO, ap_fn, ap_nil, ap_cons, ap_tr, ap_b, ap_tand, ap_tor, ap_tnot, ap_and, ap_or, ap_not, ap_if, ap_chain, ap_tup, ap_lst, ap_lstO, ap_dictO, ap_frz, ap_sl, ap_no, ap_part, ap_mut, ap_call, ap_callK, ap_get, ap_dict, ap_isi, ap_rep, ap_listO, ap_seq, ap_iargs, ap_lc, ap_lcO, ap_yes, ap_sq, ap_ret, ap_drop, ap_sif, ap_nx, ap_bk, ap_ct, ap_asg, ap_setR, ap_runT, ap_bb0, ap_bbs, ap_bbn, ap_bbd, ap_bbc, ap_bbb, ap_sfrz, ap_setI, ap_setK, ap_for, ap_par, ap_asgT, ap_run, ap_see, ap_seeo, ap_seer, ap_getC, ap_setC, ap_sees0, ap_sees1, ap_parN, ap_view, ap_frza0, ap_frza, ap_frzc, ap_frzb, ap_frzd, ap_frzn, ap_call1, ap_c1o, ap_sar0, ap_sar1, ap_frv, ap_fro, ap_tgN, ap_tgT, fin_val, fin_own, fin_ref, fin_nx, bors_nil, bors_d, bors_b, R.bind_ok, ofO_some, ofB_some, ofOL_list, seeV, frV, vals, setAllF, wipeF, restF, callR, refsOf, argVs, putBack, setR2, setI, setK, ap_glt, ap_gle, ap_ggt, ap_gge, ap_gsub, ap_gadd, ap_gneg, ap_gix, ap_cutl, ap_cutt, ap_gtup, ap_glist, ap_glen, ap_gint, ap_gintb, ap_gabs, ap_gmax, ap_gmin, ap_isN, ap_notN, ap_geq, ap_gne, ap_eqi, ap_eqb, ap_eqs, ap_iol, ap_iot, ap_gtn, ap_gtb, ap_gti, ap_gtl, ap_gtt, ap_isn0, ap_isni, ap_isnl, ap_isnt, ap_revl, ap_revt, ap_enum, ap_zipl, ap_zipt, intsOf_map, boolsOf_map, ap_cellL, startF, List.map_cons, List.map_nil, List.length_cons, List.length_nil, List.replicate_succ, List.replicate_zero, List.cons_append, List.nil_append, List.append_nil, List.getElem?_cons_zero, List.getElem?_cons_succ, List.getElem?_nil, List.set_cons_zero, List.set_cons_succ, List.set_nil, Option.map_some, Option.map_none, Option.bind_some, Option.bind_none, Nat.reduceSub, Nat.reduceAdd, if_true, if_false, Bool.false_eq_true, reduceIte, true_and, and_true, Nat.sub_zero, Nat.zero_add, reduceCtorEq, List.nodup_nil, List.nodup_cons, List.not_mem_nil, not_false_eq_true, and_self, Bool.not_true, Bool.not_false, Bool.not_not, decide_true, decide_false, Nat.reduceLeDiff, atI0, atI1, req_true])
theorem made3 {c : Cell} {n : Nat} {p : Int} (h : Pot n c) (hp : p ∈ primes6) (hn : n + 1000 ≤ 1000000) :
    ∃ q vs c', F__law_made [.b c, .d (.int p), .d (.int 3)] = .ok (.own (.lst [.list (iv q), .list (iv vs)])) [c'] ∧ Made p q vs ∧ Pot (n + 300) c' := by
  have mb := modsB (p6_mods hp)
  obtain ⟨s, c0, e0, s0, s1, p0⟩ := e_draw h (many := 7) (by decide) (by decide) (by omega)
  obtain ⟨s, rfl⟩ := Int.eq_ofNat_of_zero_le s0
  have hd0 : (2 : Int) + s ≤ 8 := by omega
  have hq1 : 1 ≤ (30 : Int) / (2 + (s : Int)) := (Int.le_ediv_iff_mul_le (by omega)).mpr (by omega)
  have hq2 : (30 : Int) / (2 + (s : Int)) ≤ 30 := Int.ediv_le_self _ (by decide)
  obtain ⟨b, c1, e1, b0, b1, p1⟩ := e_block (most := 30 / (2 + (s : Int))) p0 hp hq1 (by omega) (by omega)
  have hlen : (2 + s) * b ≤ 30 := by
    have := (Int.le_ediv_iff_mul_le (show (0 : Int) < 2 + (s : Int) by omega)).mp b1
    rw [Nat.mul_comm]
    exact_mod_cast this
  have hlen0 : 0 < (2 + s) * b := Nat.mul_pos (by omega) (by omega)
  obtain ⟨row, c2, e2, pr, lr, p2⟩ := e_any (k := (2 + s) * b) p1 hp (by omega) (by omega)
  rw [Int.natCast_mul, Int.natCast_add, show ((2 : Nat) : Int) = 2 from rfl] at e2
  have gd := g_fdiv (divW (j := 2 + (s : Int)) (by omega) (Int.lt_of_le_of_lt (b := 100) (by omega) (by decide)) 30)
  have gm := g_mul (i := 2 + (s : Int)) (j := (b : Int)) (bits_small (by omega) (by omega))
  have plp : Pl p (1 :: (List.replicate (1 + s) 0 ++ [1])) := pl_ends (by omega) (by omega) fun z hz => by rw [List.eq_of_mem_replicate hz]; omega
  obtain ⟨q, c4, e4, pq, lq, p4⟩ := e_whole p2 hp plp (by simp; omega) (by omega)
  have hlc : ∀ x0 x2 x3 x4 x5 x7 x8 : Option FV, fLcGo (tgN 9) fYes (fOp FL.gMod (fFn gInt (faCons (fUn gNeg (fVar 9)) faNil)) (fVar 1)) [9] (iv row) [] [x0, some (.d (.int p)), x2, x3, x4, x5, some (.d (.list (iv row))), x7, x8, none]
      = .ok (iv (row.map fun v => (-v) % p)) [x0, some (.d (.int p)), x2, x3, x4, x5, some (.d (.list (iv row))), x7, x8, none] := fun x0 x2 x3 x4 x5 x7 x8 => by
    rw [lc_all (fun d => match d with
      | .int i => .int (-i % p)
      | _ => .none) (by rw [iv_len]; omega)]
    · simp [iv, Function.comp_def]
    · intro d hd
      obtain ⟨i, hi, rfl⟩ := iv_mem hd
      refine ⟨_, rfl, by walk_at "fl", ?_⟩
      repeat first | simp only [g_mod (show 0 < p by omega)] | walk_at "fl"
  refine ⟨q, row ++ row.map fun v => (-v) % p, c4, ?_, ⟨pq, lq, pn_rnd hp (fun z hz => ?_) (by simp; omega) (by simp; omega), by simp; omega⟩, p4.mono (by omega)⟩
  · have ht : (2 + (s : Int) - 1).toNat = 1 + s := by omega
    have hb1 : -(2 ^ 63) ≤ 2 + (s : Int) - 1 := by omega
    have hb2 : 2 + (s : Int) - 1 < 2 ^ 63 := by omega
    have hb3 : 1 * (1 + s) ≤ 900000 := by omega
    have ga1 : FL.gAdd (.list [.int 1]) (.list (iv (List.replicate (1 + s) 0))) = some (.list (iv (1 :: List.replicate (1 + s) 0))) := req_pos (by rw [iv_len, List.length_replicate, List.length_singleton]; omega)
    have ga2 : FL.gAdd (.list (iv (1 :: List.replicate (1 + s) 0))) (.list [.int 1]) = some (.list (iv (1 :: List.replicate (1 + s) 0 ++ [1]))) := (req_pos (by rw [iv_len, List.length_cons, List.length_replicate, List.length_singleton]; omega)).trans (by simp [iv])
    have ga3 : FL.gAdd (.list (iv row)) (.list (iv (row.map fun v => (-v) % p))) = some (.list (iv (row ++ row.map fun v => (-v) % p))) := (req_pos (by rw [iv_len, iv_len, List.length_map]; omega)).trans (by simp [iv])
    unfold F__law_made fb__law_made
    repeat first | simp only [eqP, show ¬ (3 : Int) = 0 by decide, show ¬ (3 : Int) = 1 by decide, show ¬ (3 : Int) = 2 by decide, e0, g_add, gd, e1, gm, e2, hlc, repR, lstOf, ht, hb1, hb2, hb3, flat_rep, rep_iv, ga1, ga2, ga3, e4] | walk_at "fl"
  · rcases List.mem_append.mp hz with hz | hz
    · exact pr z hz
    · obtain ⟨i, _, rfl⟩ := List.mem_map.mp hz
      exact ⟨Int.emod_nonneg _ (by omega), Int.emod_lt_of_pos _ (by omega)⟩
end K22

namespace K22
open PySem hiding rule
open PySem.Spec PyProof.Rows L2 DL FL RF NA
local macro_rules | `(tactic| walk_at "fl") => `(tactic| simp only [ap_var, ap_c, ap_un, ap_unV, ap_op, ap_opO, ap_fn, ap_nil, ap_cons, ap_tr, ap_b, ap_tand, ap_tor, ap_tnot, ap_and, ap_or, ap_not, ap_if, ap_chain, ap_tup, ap_lst, ap_lstO, ap_dictO, ap_frz, ap_sl, ap_no, ap_part, ap_mut, ap_call, ap_callK, ap_get, ap_dict, ap_isi, ap_rep, ap_listO, ap_seq, ap_iargs, ap_lc, ap_lcO, ap_yes, ap_sq, ap_ret, ap_drop, ap_sif, ap_nx, ap_bk, ap_ct, ap_asg, ap_setR, ap_runT, ap_bb0, ap_bbs, ap_bbn, ap_bbd, ap_bbc, ap_bbb, ap_sfrz, ap_setI, ap_setK, ap_for, ap_par, ap_asgT, ap_run, ap_see, ap_seeo, ap_seer, ap_getC, ap_setC, ap_sees0, ap_sees1, ap_parN, ap_view, ap_frza0, ap_frza, ap_frzc, ap_frzb, ap_frzd, ap_frzn, ap_call1, ap_c1o, ap_sar0, ap_sar1, ap_frv, ap_fro, ap_tgN, ap_tgT, fin_val, fin_own, fin_ref, fin_nx, bors_nil, bors_d, bors_b, R.bind_ok, ofO_some, ofB_some, ofOL_list, seeV, frV, vals, setAllF, wipeF, restF, callR, refsOf, argVs, putBack, setR2, setI, setK, ap_glt, ap_gle, ap_ggt, ap_gge, ap_gsub, ap_gadd, ap_gneg, ap_gix, ap_cutl, ap_cutt, ap_gtup, ap_glist, ap_glen, ap_gint, ap_gintb, ap_gabs, ap_gmax, ap_gmin, ap_isN, ap_notN, ap_geq, ap_gne, ap_eqi, ap_eqb, ap_eqs, ap_iol, ap_iot, ap_gtn, ap_gtb, ap_gti, ap_gtl, ap_gtt, ap_isn0, ap_isni, ap_isnl, ap_isnt, ap_revl, ap_revt, ap_enum, ap_zipl, ap_zipt, intsOf_map, boolsOf_map, ap_cellL, startF, List.map_cons, List.map_nil, List.length_cons, List.length_nil, List.replicate_succ, List.replicate_zero, List.cons_append, List.nil_append, List.append_nil, List.getElem?_cons_zero, List.getElem?_cons_succ, List.getElem?_nil, List.set_cons_zero, List.set_cons_succ, List.set_nil, Option.map_some, Option.map_none, Option.bind_some, Option.bind_none, Nat.reduceSub, Nat.reduceAdd, if_true, if_false, Bool.false_eq_true, reduceIte, true_and, and_true, Nat.sub_zero, Nat.zero_add, reduceCtorEq, List.nodup_nil, List.nodup_cons, List.not_mem_nil, not_false_eq_true, and_self, Bool.not_true, Bool.not_false, Bool.not_not, decide_true, decide_false, Nat.reduceLeDiff, atI0, atI1, req_true])
/-! ### a drawn rule of a polynomial -/
theorem pt_data {low : Int} {a : List Int} : ((enumD 0 (iv a)).filter ntP).map (fun d => match d with
    | .tuple [.int i, x] => .tuple [.int (low + i), x]
    | _ => .none) = (pt low a).map pr := by
  have h := ents_data (b := a) (k := 0)
  rw [List.map_id'] at h
  rw [h]
  unfold pt
  rw [List.map_map, List.map_map]
  rfl
theorem e_rule {c : Cell} {n : Nat} {p : Int} {a : List Int} (h : Pot n c) (hp : p ∈ primes6) (ha : Pl p a) (hl : a.length ≤ 9) (hn : n ≤ 1000000) : ∃ low c', F__law_rule [.b c, .d (.list (iv a)), .d (.int p)] = .ok (.val (rule p (pt low a))) [c'] ∧ Pot (n + 1) c' := by
  have hla : ((iv a).length : Int) = (a.length : Int) := by rw [iv_len]
  obtain ⟨r, c1, e1, r0, r1, p1⟩ := e_draw h (many := 10 - (a.length : Int)) (by omega) (Int.le_trans (b := 10) (by omega) (by decide)) hn
  refine ⟨r - 4, c1, ?_, p1⟩
  unfold F__law_rule fb__law_rule rule tm
  repeat first | simp only [hla, e1, gEnum] | walk_at "fl"
  rw [lc_some (fun d => match d with
    | .tuple [.int i, x] => .tuple [.int (r - 4 + i), x]
    | _ => .none) ntP (by rw [enumD_len, iv_len]; omega), pt_data]
  · walk_at "fl"
  · intro d hd
    obtain ⟨i, x, h1, h2, h3, rfl⟩ := enumD_mem _ _ _ hd
    obtain ⟨z, hz, rfl⟩ := iv_mem (List.mem_of_getElem? h3)
    refine ⟨_, rfl, by walk_at "fl", ?_, fun _ => ?_⟩
    · repeat first | simp only [eqP, ntP] | walk_at "fl"
    · walk_at "fl"
/-! ### moved rows -/
theorem cut_take {xs : List PyData} {n : Nat} (h : n ≤ xs.length) : DL.cutD xs none (some (n : Int)) = xs.take n := by
  unfold DL.cutD HT.sIx
  dsimp only
  rw [if_neg (by omega)]
  have e : min (n : Int).toNat xs.length - 0 = n := by omega
  rw [e, List.drop_zero]
theorem cut_drop {xs : List PyData} {n : Nat} (h : n ≤ xs.length) : DL.cutD xs (some (n : Int)) none = xs.drop n := by
  unfold DL.cutD HT.sIx
  dsimp only
  rw [if_neg (by omega)]
  have e : min (n : Int).toNat xs.length = n := by omega
  rw [e]
  rw [List.take_of_length_le (by rw [List.length_drop]; exact Nat.le_refl _)]
theorem iv_take {a : List Int} {n : Nat} : (iv a).take n = iv (a.take n) := by unfold iv; rw [List.map_take]
theorem iv_drop {a : List Int} {n : Nat} : (iv a).drop n = iv (a.drop n) := by unfold iv; rw [List.map_drop]
theorem at_map {l : List Int} {f : Int → Int} (hn : l ≠ []) (i : Int) : at' (l.map f) i = f (at' l i) := by
  have hl : (0 : Int) < l.length := by have := List.length_pos_iff.mpr hn; omega
  have h0 := Int.emod_nonneg i (Int.ne_of_gt hl)
  have h1 := Int.emod_lt_of_pos i hl
  unfold at'
  rw [List.length_map]
  generalize i % (l.length : Int) = j at *
  obtain ⟨n, rfl⟩ := Int.eq_ofNat_of_zero_le h0
  have hj : n < l.length := by omega
  simp [hj]
theorem at_turn {vs : List Int} {b : Nat} (hb : b < vs.length) (i : Int) : at' (vs.drop b ++ vs.take b) i = at' vs (i + b) := by
  have hl : (0 : Int) < vs.length := by omega
  have h0 := Int.emod_nonneg i (Int.ne_of_gt hl)
  have h1 := Int.emod_lt_of_pos i hl
  have e1 : (vs.drop b ++ vs.take b).length = vs.length := by rw [List.length_append, List.length_drop, List.length_take]; omega
  have e2 := at_per (vs := vs.drop b ++ vs.take b) i
  rw [e1] at e2
  have e3 : at' vs (i % vs.length + b) = at' vs (i + b) := by
    rw [← at_per (vs := vs) (i % vs.length + b), ← at_per (vs := vs) (i + b), Int.emod_add_emod]
  rw [← e2, ← e3]
  generalize i % (vs.length : Int) = j at *
  obtain ⟨n, rfl⟩ := Int.eq_ofNat_of_zero_le h0
  have hj : n < vs.length := by omega
  rw [at_nat (by rw [e1]; exact hj)]
  by_cases hlt : n + b < vs.length
  · rw [show (n : Int) + b = ((n + b : Nat) : Int) by omega, at_nat hlt, List.getElem_append_left (by rw [List.length_drop]; omega), List.getElem_drop]
    congr 1
    omega
  · have e4 : at' vs ((n : Int) + b) = at' vs ((n + b - vs.length : Nat) : Int) := by
      rw [← at_per (vs := vs) ((n : Int) + b), ← at_per (vs := vs) ((n + b - vs.length : Nat) : Int)]
      congr 1
      rw [show ((n + b - vs.length : Nat) : Int) = (n : Int) + b - vs.length by omega, Int.sub_emod_right]
    rw [e4, at_nat (by omega), List.getElem_append_right (by rw [List.length_drop]; omega), List.getElem_take]
    congr 1
    rw [List.length_drop]
    omega
theorem e_made {c : Cell} {n : Nat} {p w : Int} (h : Pot n c) (hp : p ∈ primes6) (w0 : 0 ≤ w) (w1 : w < 4) (hn : n + 1000 ≤ 1000000) :
    ∃ q vs c', F__law_made [.b c, .d (.int p), .d (.int w)] = .ok (.own (.lst [.list (iv q), .list (iv vs)])) [c'] ∧ Made p q vs ∧ Pot (n + 300) c' := by
  have : w = 0 ∨ w = 1 ∨ w = 2 ∨ w = 3 := by omega
  rcases this with rfl | rfl | rfl | rfl
  · exact made0 h hp hn
  · exact made1 h hp hn
  · exact made2 h hp hn
  · exact made3 h hp hn
/-- one less -/
def dm : Option Nat → Option Nat
  | some 0 => some 0
  | some (n + 1) => some n
  | none => none
theorem in_none : gIn .none (.tuple [.none, .int 0]) = some (.bool true) := by
  have : inG .none (.tuple [.none, .int 0]) = some true := req_pos ⟨rfl, rfl⟩
  unfold gIn
  rw [this]
  rfl
theorem in_int (i : Int) : gIn (.int i) (.tuple [.none, .int 0]) = some (.bool (decide (i = 0))) := by
  have : inG (.int i) (.tuple [.none, .int 0]) = some (decide (i = 0)) := by
    refine (req_pos ⟨rfl, rfl⟩).trans ?_
    unfold inD
    simp only [List.any_cons, List.any_nil, eqFlat, Bool.false_or, Bool.or_false]
    congr 1
    rw [Bool.eq_iff_iff]
    simp
    omega
  unfold gIn
  rw [this]
  rfl
end K22

namespace K22
open PySem hiding rule
open PySem.Spec PyProof.Rows L2 DL FL RF NA
local macro_rules | `(tactic| walk_at "fl") => `(tactic| simp only [ap_var, ap_c, ap_un, ap_unV, ap_op, ap_opO, ap_fn, ap_nil, ap_cons, ap_tr, ap_b, ap_tand, ap_tor, ap_tnot, ap_and, ap_or, ap_not, ap_if, ap_chain, ap_tup, ap_lst, ap_lstO, ap_dictO, ap_frz, ap_sl, ap_no, ap_part, ap_mut, ap_call, ap_callK, ap_get, ap_dict, ap_isi, ap_rep, ap_listO, ap_seq, ap_iargs, ap_lc, ap_lcO, ap_yes, ap_sq, ap_ret, ap_drop, ap_sif, ap_nx, ap_bk, ap_ct, ap_asg, ap_setR, ap_runT, ap_bb0, ap_bbs, ap_bbn, ap_bbd, ap_bbc, ap_bbb, ap_sfrz, ap_setI, ap_setK, ap_for, ap_par, ap_asgT, ap_run, ap_see, ap_seeo, ap_seer, ap_getC, ap_setC, ap_sees0, ap_sees1, ap_parN, ap_view, ap_frza0, ap_frza, ap_frzc, ap_frzb, ap_frzd, ap_frzn, ap_call1, ap_c1o, ap_sar0, ap_sar1, ap_frv, ap_fro, ap_tgN, ap_tgT, fin_val, fin_own, fin_ref, fin_nx, bors_nil, bors_d, bors_b, R.bind_ok, ofO_some, ofB_some, ofOL_list, seeV, frV, vals, setAllF, wipeF, restF, callR, refsOf, argVs, putBack, setR2, setI, setK, ap_glt, ap_gle, ap_ggt, ap_gge, ap_gsub, ap_gadd, ap_gneg, ap_gix, ap_cutl, ap_cutt, ap_gtup, ap_glist, ap_glen, ap_gint, ap_gintb, ap_gabs, ap_gmax, ap_gmin, ap_isN, ap_notN, ap_geq, ap_gne, ap_eqi, ap_eqb, ap_eqs, ap_iol, ap_iot, ap_gtn, ap_gtb, ap_gti, ap_gtl, ap_gtt, ap_isn0, ap_isni, ap_isnl, ap_isnt, ap_revl, ap_revt, ap_enum, ap_zipl, ap_zipt, intsOf_map, boolsOf_map, ap_cellL, startF, List.map_cons, List.map_nil, List.length_cons, List.length_nil, List.replicate_succ, List.replicate_zero, List.cons_append, List.nil_append, List.append_nil, List.getElem?_cons_zero, List.getElem?_cons_succ, List.getElem?_nil, List.set_cons_zero, List.set_cons_succ, List.set_nil, Option.map_some, Option.map_none, Option.bind_some, Option.bind_none, Nat.reduceSub, Nat.reduceAdd, if_true, if_false, Bool.false_eq_true, reduceIte, true_and, and_true, Nat.sub_zero, Nat.zero_add, reduceCtorEq, List.nodup_nil, List.nodup_cons, List.not_mem_nil, not_false_eq_true, and_self, Bool.not_true, Bool.not_false, Bool.not_not, decide_true, decide_false, Nat.reduceLeDiff, atI0, atI1, req_true])
theorem p6_draw {r : Int} (r0 : 0 ≤ r) (r1 : r < 6) : ∃ p, atI [PyData.int 2, .int 3, .int 5, .int 7, .int 11, .int 13] r = some (.int p) ∧ p ∈ primes6 := by
  obtain ⟨d, e, hd⟩ := getI (xs := [PyData.int 2, .int 3, .int 5, .int 7, .int 11, .int 13]) r0 r1
  obtain ⟨p, hp, rfl⟩ := iv_mem (l := primes6) hd
  exact ⟨p, e, hp⟩
theorem az_rep {n : Nat} : az (List.replicate n 0) = true := by
  unfold az
  rw [List.all_eq_true]
  intro x hx
  rw [List.eq_of_mem_replicate hx]
  rfl
theorem e_right {c : Cell} {n : Nat} (h : Pot n c) (hn : n + 2000 ≤ 1000000) : ∃ c', F__law_right [.b c] = .ok (.val (.bool true)) [c'] := by
  obtain ⟨r0, c0, e0, r00, r01, p0⟩ := e_draw h (many := 6) (by decide) (by decide) (by omega)
  obtain ⟨p, ep, hp⟩ := p6_draw r00 r01
  obtain ⟨w, c1, e1, w0, w1, p1⟩ := e_draw p0 (many := 4) (by decide) (by decide) (by omega)
  have mb := modsB (p6_mods hp)
  obtain ⟨q, vs, c2, e2, ⟨pq, lq, rv, lv⟩, p2⟩ := e_made p1 hp w0 w1 (by omega)
  obtain ⟨low, c3, e3, p3⟩ := e_rule p2 hp pq lq (by omega)
  have ok := pt_ok (low := low) hp pq.pn (by omega)
  have l0 := rp rv
  have d1 := e_due ok rv (by omega)
  have d2 := e_dies_in (low := low) hp pq (by omega) rv (by omega)
  have rs := stepR_rnd (a := pt low q) rv
  have st := e_stepped ok rv (by omega)
  have d3 := e_dies_in (low := low) hp pq (by omega) rs (by rw [stepR_len]; omega)
  have hlen : ((iv vs).length : Int) = (vs.length : Int) := by simp [iv]
  obtain ⟨b, c4, e4, b0, b1, p4⟩ := e_draw p3 (many := (vs.length : Int)) (by omega) (Int.le_trans (b := 60) (by omega) (by decide)) (by omega)
  obtain ⟨b, rfl⟩ := Int.eq_ofNat_of_zero_le b0
  obtain ⟨s0, c5, e5, s00, s01, p5⟩ := e_draw p4 (many := p - 1) (by omega) (Int.le_trans (b := 15) (by omega) (by decide)) (by omega)
  obtain ⟨s, hs⟩ : ∃ s, 1 + s0 = s := ⟨_, rfl⟩
  obtain ⟨t, c6, e6, t0, t1, p6⟩ := e_draw p5 (many := (vs.length : Int)) (by omega) (Int.le_trans (b := 60) (by omega) (by decide)) (by omega)
  obtain ⟨t, rfl⟩ := Int.eq_ofNat_of_zero_le t0
  have sp0 : 0 < s := by omega
  have sp1 : s < p := by omega
  have ns : ¬ Md p s 0 := fun z => by
    have := z.eq (by omega) sp1 (by omega) (by omega)
    omega
  -- moved
  let ws := (vs.drop b ++ vs.take b).map fun v => v * s % p
  have mem : ∀ v ∈ vs.drop b ++ vs.take b, v ∈ vs := fun v hv => by
    rcases List.mem_append.mp hv with h | h
    · exact List.mem_of_mem_drop h
    · exact List.mem_of_mem_take h
  have lw0 : (vs.drop b ++ vs.take b).length = vs.length := by rw [List.length_append, List.length_drop, List.length_take]; omega
  have lw : ws.length = vs.length := by rw [← lw0]; simp [ws]
  have nw : vs.drop b ++ vs.take b ≠ [] := List.length_pos_iff.mp (by omega)
  have rw' : Rnd p ws := ⟨rv.mo, List.length_pos_iff.mp (by omega), fun v hv => by
    obtain ⟨x, _, rfl⟩ := List.mem_map.mp hv
    exact ⟨Int.emod_nonneg _ (by omega), Int.emod_lt_of_pos _ (by omega)⟩, by omega⟩
  have d4 := e_dies_in (low := low) hp pq (by omega) rw' (by omega)
  rw [due_move hp rv rw' lw ns (by' := b) (fun i => by
    show Md p (at' (List.map _ _) i) _
    rw [at_map nw, at_turn (by omega)]
    exact Md.rest.trans (.of (Int.mul_comm _ _)))] at d4
  have hlc : ∀ x0 x2 x3 x4 x5 x6 x7 x8 xa xc xd : Option FV, fLcGo (tgN 11) fYes (fOp FL.gMod (fFn gInt (faCons (fOp FL.gMul (fVar 11) (fVar 9)) faNil)) (fVar 1)) [11] (iv (vs.drop b ++ vs.take b)) [] [x0, some (.d (.int p)), x2, x3, x4, x5, x6, x7, x8, some (.d (.int s)), xa, none, xc, xd]
      = .ok (iv ws) [x0, some (.d (.int p)), x2, x3, x4, x5, x6, x7, x8, some (.d (.int s)), xa, none, xc, xd] := fun x0 x2 x3 x4 x5 x6 x7 x8 xa xc xd => by
    rw [lc_all (fun d => match d with
      | .int x => .int (x * s % p)
      | _ => .none) (by rw [iv_len]; omega)]
    · simp [iv, ws, Function.comp_def]
    · intro d hd
      obtain ⟨x, hx, rfl⟩ := iv_mem hd
      have := rv.rg x (mem x hx)
      refine ⟨_, rfl, by walk_at "fl", ?_⟩
      repeat first | simp only [g_mul (i := x) (j := s) (bits_small (by omega) (by omega)), g_mod (show 0 < p by omega)] | walk_at "fl"
  have k1 : DL.cutD (iv vs) (some (b : Int)) none = iv (vs.drop b) := by rw [cut_drop (by rw [iv_len]; omega), iv_drop]
  have k2 : DL.cutD (iv vs) none (some (b : Int)) = iv (vs.take b) := by rw [cut_take (by rw [iv_len]; omega), iv_take]
  have ga : FL.gAdd (.tuple (iv (vs.drop b))) (.tuple (iv (vs.take b))) = some (.tuple (iv (vs.drop b ++ vs.take b))) := (req_pos (by rw [iv_len, iv_len, List.length_drop, List.length_take]; omega)).trans (by simp [iv])
  -- bent
  have hcg := cg_ix (a := vs) (i := (t : Int)) (by omega) (by omega)
  obtain ⟨us, hus⟩ : ∃ us, vs.set t ((cg vs t + s) % p) = us := ⟨_, rfl⟩
  have lu : us.length = vs.length := by rw [← hus, List.length_set]
  have ru : Rnd p us := ⟨rv.mo, List.length_pos_iff.mp (by omega), by rw [← hus]; exact pn_set rv.rg (Int.emod_nonneg _ (by omega)) (Int.emod_lt_of_pos _ (by omega)), by omega⟩
  have ixt : ixN (iv vs).length (t : Int) = some t := ixN_of (i := (t : Int)) (by omega) (by rw [iv_len]; omega)
  have d5 := e_dies_in (low := low) hp pq (by omega) ru (by omega)
  have d6 := e_due ok ru (by omega)
  -- nought
  have rz : Rnd p (List.replicate vs.length 0) := ⟨rv.mo, by intro z; have := congrArg List.length z; rw [List.length_replicate, List.length_nil] at this; omega, fun v hv => by rw [List.eq_of_mem_replicate hv]; omega, by rw [List.length_replicate]; omega⟩
  have d7 := e_dies_in (low := low) hp pq (by omega) rz (by rw [List.length_replicate]; omega)
  rw [due_zero az_rep, show oD (some 0) = .int 0 from rfl] at d7
  have i0 : F__law_is [.d (.int 0), .d (.int 0)] = tell (.bool true) := e_is (some 0)
  have mz := mul_zero' (n := vs.length) (by omega) (by omega)
  -- one step less
  have ds : due p (pt low q) (stepR p (pt low q) vs) = dm (due p (pt low q) vs) := due_step hp rv
  rw [ds] at d3
  have less : ∀ x0 x1 x2 x3 x4 x5 x6 x8 x9 xa xb xc xd : Option FV, fIf (fB (fOp gIn (fVar 7) (fTup (faCons (fC .none) (faCons (fC (.int 0)) faNil))))) (fVar 7) (fOp FL.gSub (fVar 7) (fC (.int 1))) [x0, x1, x2, x3, x4, x5, x6, some (.d (oD (due p (pt low q) vs))), x8, x9, xa, xb, xc, xd]
      = .ok (.val (oD (dm (due p (pt low q) vs)))) [x0, x1, x2, x3, x4, x5, x6, some (.d (oD (due p (pt low q) vs))), x8, x9, xa, xb, xc, xd] := fun x0 x1 x2 x3 x4 x5 x6 x8 x9 xa xb xc xd => by
    cases due p (pt low q) vs with
    | none =>
      unfold oD dm
      repeat first | simp only [in_none] | walk_at "fl"
    | some n =>
      cases n with
      | zero =>
        unfold oD dm
        repeat first | simp only [in_int, show ((0 : Nat) : Int) = 0 from rfl] | walk_at "fl"
      | succ n =>
        have h1 : ¬ ((n + 1 : Nat) : Int) = 0 := by omega
        have h2 : ((n + 1 : Nat) : Int) - 1 = (n : Int) := by omega
        unfold oD dm
        repeat first | simp only [in_int, h1, decide_false, h2] | walk_at "fl"
  refine ⟨c6, ?_⟩
  unfold F__law_right fb__law_right
  unfold rnd at d2 d3 d4 d5 d7
  generalize fIf (fB (fOp gIn (fVar 7) (fTup (faCons (fC .none) (faCons (fC (.int 0)) faNil))))) (fVar 7) (fOp FL.gSub (fVar 7) (fC (.int 1))) = G at less ⊢
  repeat first | simp only [e0, ep, e1, e2, ap_asgL, ap_tgL, e3, d1, d2, e_is, st, d3, g_dies_in_row_rule, less, hlen, e4, e5, g_add, hs, k1, k2, ga, hlc, d4, e6, hcg, g_mod (show 0 < p by omega), ixt, iv_set, hus, d5, d6, mz, d7, i0] | walk_at "fl"
theorem turn {ns : List Int} {k : Nat} (hl : ns.length ≤ 63) (hb : ∀ z ∈ ns, Builtin.Int.intBits z ≤ 1048576) (hk : k ≤ 1000) : lb_law_1 [some (.d (.list (iv ns))), some (.d (.int k))] = .ok .nx [some (.d (.list (iv ns))), some (.d (.int k))] := by
  obtain ⟨c, e, hp⟩ := e_pot hl hb hk
  obtain ⟨c', e2⟩ := e_right hp (by omega)
  unfold lb_law_1
  repeat first | simp only [e, e2] | walk_at "fl"
theorem loop_main {ns : List Int} (hl : ns.length ≤ 63) (hb : ∀ z ∈ ns, Builtin.Int.intBits z ≤ 1048576) : ∀ (j s : Nat), j + s ≤ 1000 → ∀ {y : Option FV}, bb y = false →
    ∃ z, fsGo (tgN 1) lb_law_1 ((List.range' s j).map fun (i : Nat) => PyData.int i) [some (.d (.list (iv ns))), y] = .ok .nx [some (.d (.list (iv ns))), z]
  | 0, s, _, y, _ => ⟨y, rfl⟩
  | j + 1, s, hj, y, hy => by
    obtain ⟨z, e⟩ := loop_main hl hb j (s + 1) (by omega) (y := some (.d (.int s))) rfl
    refine ⟨z, ?_⟩
    rw [List.range'_succ, List.map_cons]
    refine (go_nx ?_).trans e
    repeat first | simp only [hy] | walk_at "fl"
    exact turn hl hb (by omega)
theorem main : Law F_law := fun ns hl hb => by
  have hlen : ((iv ns).length : Int) = (ns.length : Int) := by simp [iv]
  obtain ⟨j, hj, rg⟩ : ∃ j : Nat, j ≤ 3 ∧ gRange1 [.int (if (if (ns.length : Int) < 3 then (ns.length : Int) else 3) > 1 then (if (ns.length : Int) < 3 then (ns.length : Int) else 3) else 1)] = some ((List.range' 0 j).map fun (i : Nat) => PyData.int i) := by
    refine ⟨(if (if (ns.length : Int) < 3 then (ns.length : Int) else 3) > 1 then (if (ns.length : Int) < 3 then (ns.length : Int) else 3) else 1).toNat, by split <;> (try split) <;> omega, ?_⟩
    rw [gRange1]
    refine (req_pos (by split <;> (try split) <;> omega)).trans ?_
    rw [← List.range_eq_range', rangeD0, iv, List.map_map]
    rfl
  obtain ⟨z, e⟩ := loop_main hl hb j 0 (by omega) (y := none) rfl
  show F_law [.d (.list (iv ns))] = _
  unfold F_law fb_law
  repeat first | simp only [hlen, rg, e] | walk_at "fl"
end K22

namespace K22
open PySem PySem.Spec PyProof.Rows L2 DL FL
open NA

def topS (i : Nat) : Stmt := PySem.Challenge.pw_nearadds_k22_round_rows_that_die_out.main.body.getD i (.Pass ⟨0, 0, 0, 0⟩)
abbrev st_is_number : Stmt := topS 7
abbrev N_is_number : List Str := ["value"]
abbrev ps_is_number : List Str := ["value"]
abbrev st_is_within : Stmt := topS 8
abbrev N_is_within : List Str := ["value", "least", "greatest"]
abbrev ps_is_within : List Str := ["value", "least", "greatest"]
abbrev st_is_two : Stmt := topS 9
abbrev N_is_two : List Str := ["value"]
abbrev ps_is_two : List Str := ["value"]
abbrev st_ascends : Stmt := topS 10
abbrev N_ascends : List Str := ["numbers", "low", "high"]
abbrev ps_ascends : List Str := ["numbers"]
abbrev st_is_pairs : Stmt := topS 11
abbrev N_is_pairs : List Str := ["value", "modulus", "pair"]
abbrev ps_is_pairs : List Str := ["value", "modulus"]
abbrev st_renewed : Stmt := topS 12
abbrev N_renewed : List Str := ["value", "part"]
abbrev ps_renewed : List Str := ["value"]
abbrev st_is_modulus : Stmt := topS 15
abbrev N_is_modulus : List Str := ["value"]
abbrev ps_is_modulus : List Str := ["value"]
abbrev st_has_modulus : Stmt := topS 16
abbrev N_has_modulus : List Str := ["value"]
abbrev ps_has_modulus : List Str := ["value"]
abbrev st_is_rule : Stmt := topS 17
abbrev N_is_rule : List Str := ["value"]
abbrev ps_is_rule : List Str := ["value"]
abbrev st_is_round : Stmt := topS 18
abbrev N_is_round : List Str := ["value", "rest"]
abbrev ps_is_round : List Str := ["value"]
abbrev st_need_rule : Stmt := topS 19
abbrev N_need_rule : List Str := ["value"]
abbrev ps_need_rule : List Str := ["value"]
abbrev st_need_round : Stmt := topS 20
abbrev N_need_round : List Str := ["value"]
abbrev ps_need_round : List Str := ["value"]
abbrev st_need_same : Stmt := topS 21
abbrev N_need_same : List Str := ["one", "other"]
abbrev ps_need_same : List Str := ["one", "other"]
abbrev st_primes_of : Stmt := topS 22
abbrev N_primes_of : List Str := ["modulus"]
abbrev ps_primes_of : List Str := ["modulus"]
abbrev st_round_step : Stmt := topS 23
abbrev N_round_step : List Str := ["rule", "row", "modulus", "values", "many", "sums", "i", "offset", "factor", "total"]
abbrev ps_round_step : List Str := ["rule", "row"]
abbrev st_need_prime_rule : Stmt := topS 25
abbrev N_need_prime_rule : List Str := ["rule"]
abbrev ps_need_prime_rule : List Str := ["rule"]
abbrev st_dies_in : Stmt := topS 26
abbrev N_dies_in : List Str := ["rule", "row", "times"]
abbrev ps_dies_in : List Str := ["rule", "row"]
abbrev st__law_pot : Stmt := topS 28
abbrev N__law_pot : List Str := ["_law_script", "_law_k", "_law_cell", "_law_total", "_law_other", "_law_mixed"]
abbrev ps__law_pot : List Str := ["_law_script", "_law_k"]
abbrev st__law_draw : Stmt := topS 29
abbrev N__law_draw : List Str := ["_law_pot_here", "_law_many", "_law_found", "_law_mixed"]
abbrev ps__law_draw : List Str := ["_law_pot_here", "_law_many"]
abbrev st__law_poly : Stmt := topS 30
abbrev N__law_poly : List Str := ["_law_pot_here", "_law_prime", "_law_width", "_law_one", "_law_place"]
abbrev ps__law_poly : List Str := ["_law_pot_here", "_law_prime", "_law_width"]
abbrev st__law_product : Stmt := topS 31
abbrev N__law_product : List Str := ["_law_one", "_law_other", "_law_prime", "_law_found", "_law_at", "_law_value", "_law_place", "_law_part", "_law_total"]
abbrev ps__law_product : List Str := ["_law_one", "_law_other", "_law_prime"]
abbrev st__law_back : Stmt := topS 32
abbrev N__law_back : List Str := ["_law_value", "_law_prime", "_law_k"]
abbrev ps__law_back : List Str := ["_law_value", "_law_prime"]
abbrev st__law_rule : Stmt := topS 33
abbrev N__law_rule : List Str := ["_law_pot_here", "_law_one", "_law_prime", "_law_low", "_law_at", "_law_value"]
abbrev ps__law_rule : List Str := ["_law_pot_here", "_law_one", "_law_prime"]
abbrev st__law_stepped : Stmt := topS 34
abbrev N__law_stepped : List Str := ["_law_rule_here", "_law_values", "_law_size", "_law_found", "_law_place", "_law_offset", "_law_part"]
abbrev ps__law_stepped : List Str := ["_law_rule_here", "_law_values"]
abbrev st__law_due : Stmt := topS 35
abbrev N__law_due : List Str := ["_law_rule_here", "_law_values", "_law_left", "_law_steps"]
abbrev ps__law_due : List Str := ["_law_rule_here", "_law_values"]
abbrev st__law_block : Stmt := topS 36
abbrev N__law_block : List Str := ["_law_pot_here", "_law_prime", "_law_most", "_law_powers", "_law_turn"]
abbrev ps__law_block : List Str := ["_law_pot_here", "_law_prime", "_law_most"]
abbrev st__law_whole_of : Stmt := topS 37
abbrev N__law_whole_of : List Str := ["_law_pot_here", "_law_part", "_law_prime", "_law_whole"]
abbrev ps__law_whole_of : List Str := ["_law_pot_here", "_law_part", "_law_prime"]
abbrev st__law_any : Stmt := topS 38
abbrev N__law_any : List Str := ["_law_pot_here", "_law_prime", "_law_many", "_law_place"]
abbrev ps__law_any : List Str := ["_law_pot_here", "_law_prime", "_law_many"]
abbrev st__law_made : Stmt := topS 39
abbrev N__law_made : List Str := ["_law_pot_here", "_law_prime", "_law_way", "_law_block_here", "_law_values", "_law_size", "_law_row", "_law_at", "_law_part", "_law_value"]
abbrev ps__law_made : List Str := ["_law_pot_here", "_law_prime", "_law_way"]
abbrev st__law_is : Stmt := topS 40
abbrev N__law_is : List Str := ["_law_value", "_law_due_here"]
abbrev ps__law_is : List Str := ["_law_value", "_law_due_here"]
abbrev st__law_right : Stmt := topS 41
abbrev N__law_right : List Str := ["_law_pot_here", "_law_prime", "_law_way", "_law_one", "_law_values", "_law_rule_here", "_law_row", "_law_due_here", "_law_by", "_law_share", "_law_moved", "_law_value", "_law_bent", "_law_at"]
abbrev ps__law_right : List Str := ["_law_pot_here"]
abbrev st_law : Stmt := topS 42
abbrev N_law : List Str := ["_law_script", "_law_k"]
abbrev ps_law : List Str := ["_law_script"]
theorem bd_is_number {K : PySem.W.Frag} : ∀ f fd, Fun K "is_number" "is_number" st_is_number f fd → Binds K fd ps_is_number [] := fun _ _ F => F.binds (ps := ps_is_number) fun _ _ _ _ _ _ us hl => match us, hl with | [_], _ => rfl
theorem bd_is_within {K : PySem.W.Frag} : ∀ f fd, Fun K "is_within" "is_within" st_is_within f fd → Binds K fd ps_is_within [] := fun _ _ F => F.binds (ps := ps_is_within) fun _ _ _ _ _ _ us hl => match us, hl with | [_, _, _], _ => rfl
theorem bd_is_two {K : PySem.W.Frag} : ∀ f fd, Fun K "is_two" "is_two" st_is_two f fd → Binds K fd ps_is_two [] := fun _ _ F => F.binds (ps := ps_is_two) fun _ _ _ _ _ _ us hl => match us, hl with | [_], _ => rfl
theorem bd_ascends {K : PySem.W.Frag} : ∀ f fd, Fun K "ascends" "ascends" st_ascends f fd → Binds K fd ps_ascends [] := fun _ _ F => F.binds (ps := ps_ascends) fun _ _ _ _ _ _ us hl => match us, hl with | [_], _ => rfl
theorem bd_is_pairs {K : PySem.W.Frag} : ∀ f fd, Fun K "is_pairs" "is_pairs" st_is_pairs f fd → Binds K fd ps_is_pairs [] := fun _ _ F => F.binds (ps := ps_is_pairs) fun _ _ _ _ _ _ us hl => match us, hl with | [_, _], _ => rfl
theorem bd_renewed {K : PySem.W.Frag} : ∀ f fd, Fun K "renewed" "renewed" st_renewed f fd → Binds K fd ps_renewed [] := fun _ _ F => F.binds (ps := ps_renewed) fun _ _ _ _ _ _ us hl => match us, hl with | [_], _ => rfl
theorem bd_is_modulus {K : PySem.W.Frag} : ∀ f fd, Fun K "is_modulus" "is_modulus" st_is_modulus f fd → Binds K fd ps_is_modulus [] := fun _ _ F => F.binds (ps := ps_is_modulus) fun _ _ _ _ _ _ us hl => match us, hl with | [_], _ => rfl
theorem bd_has_modulus {K : PySem.W.Frag} : ∀ f fd, Fun K "has_modulus" "has_modulus" st_has_modulus f fd → Binds K fd ps_has_modulus [] := fun _ _ F => F.binds (ps := ps_has_modulus) fun _ _ _ _ _ _ us hl => match us, hl with | [_], _ => rfl
theorem bd_is_rule {K : PySem.W.Frag} : ∀ f fd, Fun K "is_rule" "is_rule" st_is_rule f fd → Binds K fd ps_is_rule [] := fun _ _ F => F.binds (ps := ps_is_rule) fun _ _ _ _ _ _ us hl => match us, hl with | [_], _ => rfl
theorem bd_is_round {K : PySem.W.Frag} : ∀ f fd, Fun K "is_round" "is_round" st_is_round f fd → Binds K fd ps_is_round [] := fun _ _ F => F.binds (ps := ps_is_round) fun _ _ _ _ _ _ us hl => match us, hl with | [_], _ => rfl
theorem bd_need_rule {K : PySem.W.Frag} : ∀ f fd, Fun K "need_rule" "need_rule" st_need_rule f fd → Binds K fd ps_need_rule [] := fun _ _ F => F.binds (ps := ps_need_rule) fun _ _ _ _ _ _ us hl => match us, hl with | [_], _ => rfl
theorem bd_need_round {K : PySem.W.Frag} : ∀ f fd, Fun K "need_round" "need_round" st_need_round f fd → Binds K fd ps_need_round [] := fun _ _ F => F.binds (ps := ps_need_round) fun _ _ _ _ _ _ us hl => match us, hl with | [_], _ => rfl
theorem bd_need_same {K : PySem.W.Frag} : ∀ f fd, Fun K "need_same" "need_same" st_need_same f fd → Binds K fd ps_need_same [] := fun _ _ F => F.binds (ps := ps_need_same) fun _ _ _ _ _ _ us hl => match us, hl with | [_, _], _ => rfl
theorem bd_primes_of {K : PySem.W.Frag} : ∀ f fd, Fun K "primes_of" "primes_of" st_primes_of f fd → Binds K fd ps_primes_of [] := fun _ _ F => F.binds (ps := ps_primes_of) fun _ _ _ _ _ _ us hl => match us, hl with | [_], _ => rfl
theorem bd_round_step {K : PySem.W.Frag} : ∀ f fd, Fun K "round_step" "round_step" st_round_step f fd → Binds K fd ps_round_step [] := fun _ _ F => F.binds (ps := ps_round_step) fun _ _ _ _ _ _ us hl => match us, hl with | [_, _], _ => rfl
theorem bd_need_prime_rule {K : PySem.W.Frag} : ∀ f fd, Fun K "need_prime_rule" "need_prime_rule" st_need_prime_rule f fd → Binds K fd ps_need_prime_rule [] := fun _ _ F => F.binds (ps := ps_need_prime_rule) fun _ _ _ _ _ _ us hl => match us, hl with | [_], _ => rfl
theorem bd_dies_in {K : PySem.W.Frag} : ∀ f fd, Fun K "dies_in" "dies_in" st_dies_in f fd → Binds K fd ps_dies_in [] := fun _ _ F => F.binds (ps := ps_dies_in) fun _ _ _ _ _ _ us hl => match us, hl with | [_, _], _ => rfl
theorem bd__law_pot {K : PySem.W.Frag} : ∀ f fd, Fun K "_law_pot" "_law_pot" st__law_pot f fd → Binds K fd ps__law_pot [] := fun _ _ F => F.binds (ps := ps__law_pot) fun _ _ _ _ _ _ us hl => match us, hl with | [_, _], _ => rfl
theorem bd__law_draw {K : PySem.W.Frag} : ∀ f fd, Fun K "_law_draw" "_law_draw" st__law_draw f fd → Binds K fd ps__law_draw [] := fun _ _ F => F.binds (ps := ps__law_draw) fun _ _ _ _ _ _ us hl => match us, hl with | [_, _], _ => rfl
theorem bd__law_poly {K : PySem.W.Frag} : ∀ f fd, Fun K "_law_poly" "_law_poly" st__law_poly f fd → Binds K fd ps__law_poly [] := fun _ _ F => F.binds (ps := ps__law_poly) fun _ _ _ _ _ _ us hl => match us, hl with | [_, _, _], _ => rfl
theorem bd__law_product {K : PySem.W.Frag} : ∀ f fd, Fun K "_law_product" "_law_product" st__law_product f fd → Binds K fd ps__law_product [] := fun _ _ F => F.binds (ps := ps__law_product) fun _ _ _ _ _ _ us hl => match us, hl with | [_, _, _], _ => rfl
theorem bd__law_back {K : PySem.W.Frag} : ∀ f fd, Fun K "_law_back" "_law_back" st__law_back f fd → Binds K fd ps__law_back [] := fun _ _ F => F.binds (ps := ps__law_back) fun _ _ _ _ _ _ us hl => match us, hl with | [_, _], _ => rfl
theorem bd__law_rule {K : PySem.W.Frag} : ∀ f fd, Fun K "_law_rule" "_law_rule" st__law_rule f fd → Binds K fd ps__law_rule [] := fun _ _ F => F.binds (ps := ps__law_rule) fun _ _ _ _ _ _ us hl => match us, hl with | [_, _, _], _ => rfl
theorem bd__law_stepped {K : PySem.W.Frag} : ∀ f fd, Fun K "_law_stepped" "_law_stepped" st__law_stepped f fd → Binds K fd ps__law_stepped [] := fun _ _ F => F.binds (ps := ps__law_stepped) fun _ _ _ _ _ _ us hl => match us, hl with | [_, _], _ => rfl
theorem bd__law_due {K : PySem.W.Frag} : ∀ f fd, Fun K "_law_due" "_law_due" st__law_due f fd → Binds K fd ps__law_due [] := fun _ _ F => F.binds (ps := ps__law_due) fun _ _ _ _ _ _ us hl => match us, hl with | [_, _], _ => rfl
theorem bd__law_block {K : PySem.W.Frag} : ∀ f fd, Fun K "_law_block" "_law_block" st__law_block f fd → Binds K fd ps__law_block [] := fun _ _ F => F.binds (ps := ps__law_block) fun _ _ _ _ _ _ us hl => match us, hl with | [_, _, _], _ => rfl
theorem bd__law_whole_of {K : PySem.W.Frag} : ∀ f fd, Fun K "_law_whole_of" "_law_whole_of" st__law_whole_of f fd → Binds K fd ps__law_whole_of [] := fun _ _ F => F.binds (ps := ps__law_whole_of) fun _ _ _ _ _ _ us hl => match us, hl with | [_, _, _], _ => rfl
theorem bd__law_any {K : PySem.W.Frag} : ∀ f fd, Fun K "_law_any" "_law_any" st__law_any f fd → Binds K fd ps__law_any [] := fun _ _ F => F.binds (ps := ps__law_any) fun _ _ _ _ _ _ us hl => match us, hl with | [_, _, _], _ => rfl
theorem bd__law_made {K : PySem.W.Frag} : ∀ f fd, Fun K "_law_made" "_law_made" st__law_made f fd → Binds K fd ps__law_made [] := fun _ _ F => F.binds (ps := ps__law_made) fun _ _ _ _ _ _ us hl => match us, hl with | [_, _, _], _ => rfl
theorem bd__law_is {K : PySem.W.Frag} : ∀ f fd, Fun K "_law_is" "_law_is" st__law_is f fd → Binds K fd ps__law_is [] := fun _ _ F => F.binds (ps := ps__law_is) fun _ _ _ _ _ _ us hl => match us, hl with | [_, _], _ => rfl
theorem bd__law_right {K : PySem.W.Frag} : ∀ f fd, Fun K "_law_right" "_law_right" st__law_right f fd → Binds K fd ps__law_right [] := fun _ _ F => F.binds (ps := ps__law_right) fun _ _ _ _ _ _ us hl => match us, hl with | [_], _ => rfl
theorem bd_law {K : PySem.W.Frag} : ∀ f fd, Fun K "law" "law" st_law f fd → Binds K fd ps_law [] := fun _ _ F => F.binds (ps := ps_law) fun _ _ _ _ _ _ us hl => match us, hl with | [_], _ => rfl
theorem kb_dies_in_row_rule {K : PySem.W.Frag} : ∀ f fd, Fun K "dies_in" "dies_in" st_dies_in f fd → KB K fd ps_dies_in ["row", "rule"] g_dies_in_row_rule := by
  rintro f fd F
  obtain ⟨oc, od, kV, doc, pm, an, cdv, ct, osl, rfl, lk, hcd⟩ := F.ex
  exact ⟨fun s ws hl => .of_eq (match ws, hl with | [x0, x1], _ => rfl), fun hl r => match r, hl with | .cons h0 (.cons h1 (.nil)), _ => (.cons h1 (.cons h0 .nil)), fun hl r => match r, hl with | .cons h0 (.cons h1 (.nil)), _ => (.cons h1 (.cons h0 .nil))⟩
end K22

namespace K22
open PySem PySem.Spec PyProof.Rows L2 DL FL
open NA
open RF
theorem sc_is_number : FnScope N_is_number ps_is_number (defScope st_is_number) := ⟨rfl, rfl, rfl, by decide +kernel, rfl, by decide +kernel, by decide +kernel⟩
theorem der_is_number {P : Program} {w : World} {K : PySem.W.Frag} {mg : Str → Option Value} {base : Heap} (B : Bl mg) {f : Addr} {cdv : Value} {A : Around} {outer : List Env} {s : Shared} {H : Hp} (hr : RoomG 0 (A.deeper (envOfC "is_number" (defScope st_is_number) s.heap.objs.size f cdv))) :
    FSts (cxD P w K mg base N_is_number "is_number" (defScope st_is_number) f cdv A outer s H) (defBody st_is_number) fb_is_number :=
    (fs_one (fs_ret (f_and (f_isi (by decide) rfl B.isinstance (by decide +kernel) rfl B.int (by decide +kernel) (f_var 0)) (f_one (f_not (f_isi (by decide) rfl B.isinstance (by decide +kernel) rfl B.bool (by decide +kernel) (f_var 0)))))))
theorem sc_is_within : FnScope N_is_within ps_is_within (defScope st_is_within) := ⟨rfl, rfl, rfl, by decide +kernel, rfl, by decide +kernel, by decide +kernel⟩
theorem der_is_within {P : Program} {w : World} {K : PySem.W.Frag} {mg : Str → Option Value} {base : Heap} (B : Bl mg) (C_is_number : Cal P w K mg base 1 "is_number" st_is_number ps_is_number (spF F_is_number 1)) {f : Addr} {cdv : Value} {A : Around} {outer : List Env} {s : Shared} {H : Hp} (hr : RoomG 1 (A.deeper (envOfC "is_within" (defScope st_is_within) s.heap.objs.size f cdv))) :
    FSts (cxD P w K mg base N_is_within "is_within" (defScope st_is_within) f cdv A outer s H) (defBody st_is_within) fb_is_within :=
    (fs_one (fs_ret (f_and (f_call C_is_number (hr.mono (by decide)) rfl bd_is_number (fa_cons (f_var 0) fa_nil) (alen_cons alen_nil)) (f_one (f_chain op_le p_le op_le p_le (f_var 1) (f_var 0) (f_var 2))))))
theorem sc_is_two : FnScope N_is_two ps_is_two (defScope st_is_two) := ⟨rfl, rfl, rfl, by decide +kernel, rfl, by decide +kernel, by decide +kernel⟩
theorem der_is_two {P : Program} {w : World} {K : PySem.W.Frag} {mg : Str → Option Value} {base : Heap} (B : Bl mg) {f : Addr} {cdv : Value} {A : Around} {outer : List Env} {s : Shared} {H : Hp} (hr : RoomG 0 (A.deeper (envOfC "is_two" (defScope st_is_two) s.heap.objs.size f cdv))) :
    FSts (cxD P w K mg base N_is_two "is_two" (defScope st_is_two) f cdv A outer s H) (defBody st_is_two) fb_is_two :=
    (fs_one (fs_ret (f_and (f_isi (by decide) rfl B.isinstance (by decide +kernel) rfl B.tuple (by decide +kernel) (f_var 0)) (f_one (f_eq hr.r.units (f_callB call_len_seq p_len rfl B.len (by decide +kernel) (fa_cons (f_var 0) fa_nil)) f_int)))))
theorem sc_ascends : FnScope N_ascends ps_ascends (defScope st_ascends) := ⟨rfl, rfl, rfl, by decide +kernel, rfl, by decide +kernel, by decide +kernel⟩
theorem der_ascends {P : Program} {w : World} {K : PySem.W.Frag} {mg : Str → Option Value} {base : Heap} (B : Bl mg) {f : Addr} {cdv : Value} {A : Around} {outer : List Env} {s : Shared} {H : Hp} (hr : RoomG 0 (A.deeper (envOfC "ascends" (defScope st_ascends) s.heap.objs.size f cdv))) :
    FSts (cxD P w K mg base N_ascends "ascends" (defScope st_ascends) f cdv A outer s H) (defBody st_ascends) fb_ascends :=
    (fs_one (fs_ret (f_callB (cr_all rfl) p_all rfl B.all (by decide +kernel) (fa_cons (f_lc rfl sc_ascends.nd (fi_zip rfl B.zip (fa_cons (f_var 0) (fa_cons (f_slice (f_var 0) (fp_some f_int) fp_no) fa_nil))) (blkOk_by (own := [("low", 1), ("high", 2)]) (N := N_ascends) (sc := defScope st_ascends) (by decide +kernel)) (compG_tup (is := [1, 2]) (by decide)) (tgc_tup (is := [1, 2]) (by decide)) (fun _ _ _ _ _ => (pg_tup (n := 2) rfl (pgs_name2 (pg_name (i := 1) sc_ascends.nd rfl (by first | exact Or.inl rfl | exact Or.inr rfl)) (pgs_name2 (pg_name (i := 2) sc_ascends.nd rfl (by first | exact Or.inl rfl | exact Or.inr rfl)) pgs_nil)))) (fun _ _ _ _ _ => ft_nil) (fun _ _ _ _ _ => (f_lt (f_var 1) (f_var 2)))) fa_nil))))
theorem sc_is_pairs : FnScope N_is_pairs ps_is_pairs (defScope st_is_pairs) := ⟨rfl, rfl, rfl, by decide +kernel, rfl, by decide +kernel, by decide +kernel⟩
theorem der_is_pairs {P : Program} {w : World} {K : PySem.W.Frag} {mg : Str → Option Value} {base : Heap} (B : Bl mg) (C_is_two : Cal P w K mg base 1 "is_two" st_is_two ps_is_two (spF F_is_two 1)) (C_is_number : Cal P w K mg base 1 "is_number" st_is_number ps_is_number (spF F_is_number 1)) (C_is_within : Cal P w K mg base 2 "is_within" st_is_within ps_is_within (spF F_is_within 3)) (C_ascends : Cal P w K mg base 1 "ascends" st_ascends ps_ascends (spF F_ascends 1)) {f : Addr} {cdv : Value} {A : Around} {outer : List Env} {s : Shared} {H : Hp} (hr : RoomG 2 (A.deeper (envOfC "is_pairs" (defScope st_is_pairs) s.heap.objs.size f cdv))) :
    FSts (cxD P w K mg base N_is_pairs "is_pairs" (defScope st_is_pairs) f cdv A outer s H) (defBody st_is_pairs) fb_is_pairs :=
    (fs_cons (fs_if (fc_not (fc_tr (f_isi (by decide) rfl B.isinstance (by decide +kernel) rfl B.tuple (by decide +kernel) (f_var 0)))) (fs_one (fs_ret f_bl)) fs_nil)
    (fs_cons (fs_if (fc_not (fc_tr (f_callB (cr_all rfl) p_all rfl B.all (by decide +kernel) (fa_cons (f_lc rfl sc_is_pairs.nd (fi_seq (f_var 0)) (blkOk_by (own := [("pair", 2)]) (N := N_is_pairs) (sc := defScope st_is_pairs) (by decide +kernel)) (compG_name (i := 2) (by decide)) (tgc_name (i := 2) (by decide)) (fun _ _ _ _ _ => (pg_name (i := 2) sc_is_pairs.nd rfl (by first | exact Or.inl rfl | exact Or.inr rfl))) (fun _ _ _ _ _ => ft_nil) (fun _ _ _ _ _ => (f_and (f_call C_is_two (hr.mono (by decide)) rfl bd_is_two (fa_cons (f_var 2) fa_nil) (alen_cons alen_nil)) (f_and (f_call C_is_number (hr.mono (by decide)) rfl bd_is_number (fa_cons (f_item (f_var 2) f_int) fa_nil) (alen_cons alen_nil)) (f_one (f_call C_is_within (hr.mono (by decide)) rfl bd_is_within (fa_cons (f_item (f_var 2) f_int) (fa_cons f_int (fa_cons (f_sub (f_var 1) f_int) fa_nil))) (alen_cons (alen_cons (alen_cons alen_nil))))))))) fa_nil)))) (fs_one (fs_ret f_bl)) fs_nil)
    (fs_one (fs_ret (f_call C_ascends (hr.mono (by decide)) rfl bd_ascends (fa_cons (f_lc rfl sc_is_pairs.nd (fi_seq (f_var 0)) (blkOk_by (own := [("pair", 2)]) (N := N_is_pairs) (sc := defScope st_is_pairs) (by decide +kernel)) (compG_name (i := 2) (by decide)) (tgc_name (i := 2) (by decide)) (fun _ _ _ _ _ => (pg_name (i := 2) sc_is_pairs.nd rfl (by first | exact Or.inl rfl | exact Or.inr rfl))) (fun _ _ _ _ _ => ft_nil) (fun _ _ _ _ _ => (f_item (f_var 2) f_int))) fa_nil) (alen_cons alen_nil))))))
theorem sc_is_modulus : FnScope N_is_modulus ps_is_modulus (defScope st_is_modulus) := ⟨rfl, rfl, rfl, by decide +kernel, rfl, by decide +kernel, by decide +kernel⟩
theorem der_is_modulus {P : Program} {w : World} {K : PySem.W.Frag} {mg : Str → Option Value} {base : Heap} (B : Bl mg) (H_PRIMES : KName K mg "PRIMES" [2, 3, 5, 6, 7, 10, 11, 13, 14, 15]) (HT_PRIMES : KTup K mg "PRIMES" [(2, [2]), (3, [3]), (5, [5]), (6, [2, 3]), (7, [7]), (10, [2, 5]), (11, [11]), (13, [13]), (14, [2, 7]), (15, [3, 5])]) (C_is_number : Cal P w K mg base 1 "is_number" st_is_number ps_is_number (spF F_is_number 1)) {f : Addr} {cdv : Value} {A : Around} {outer : List Env} {s : Shared} {H : Hp} (hr : RoomG 1 (A.deeper (envOfC "is_modulus" (defScope st_is_modulus) s.heap.objs.size f cdv))) :
    FSts (cxD P w K mg base N_is_modulus "is_modulus" (defScope st_is_modulus) f cdv A outer s H) (defBody st_is_modulus) fb_is_modulus :=
    (fs_one (fs_ret (f_and (f_call C_is_number (hr.mono (by decide)) rfl bd_is_number (fa_cons (f_var 0) fa_nil) (alen_cons alen_nil)) (f_one (f_inK H_PRIMES rfl (f_var 0))))))
theorem sc_has_modulus : FnScope N_has_modulus ps_has_modulus (defScope st_has_modulus) := ⟨rfl, rfl, rfl, by decide +kernel, rfl, by decide +kernel, by decide +kernel⟩
theorem der_has_modulus {P : Program} {w : World} {K : PySem.W.Frag} {mg : Str → Option Value} {base : Heap} (B : Bl mg) (C_is_two : Cal P w K mg base 1 "is_two" st_is_two ps_is_two (spF F_is_two 1)) (C_is_modulus : Cal P w K mg base 2 "is_modulus" st_is_modulus ps_is_modulus (spF F_is_modulus 1)) {f : Addr} {cdv : Value} {A : Around} {outer : List Env} {s : Shared} {H : Hp} (hr : RoomG 2 (A.deeper (envOfC "has_modulus" (defScope st_has_modulus) s.heap.objs.size f cdv))) :
    FSts (cxD P w K mg base N_has_modulus "has_modulus" (defScope st_has_modulus) f cdv A outer s H) (defBody st_has_modulus) fb_has_modulus :=
    (fs_one (fs_ret (f_and (f_call C_is_two (hr.mono (by decide)) rfl bd_is_two (fa_cons (f_var 0) fa_nil) (alen_cons alen_nil)) (f_one (f_call C_is_modulus (hr.mono (by decide)) rfl bd_is_modulus (fa_cons (f_item (f_var 0) f_int) fa_nil) (alen_cons alen_nil))))))
theorem sc_is_rule : FnScope N_is_rule ps_is_rule (defScope st_is_rule) := ⟨rfl, rfl, rfl, by decide +kernel, rfl, by decide +kernel, by decide +kernel⟩
theorem der_is_rule {P : Program} {w : World} {K : PySem.W.Frag} {mg : Str → Option Value} {base : Heap} (B : Bl mg) (C_has_modulus : Cal P w K mg base 3 "has_modulus" st_has_modulus ps_has_modulus (spF F_has_modulus 1)) (C_is_pairs : Cal P w K mg base 3 "is_pairs" st_is_pairs ps_is_pairs (spF F_is_pairs 2)) {f : Addr} {cdv : Value} {A : Around} {outer : List Env} {s : Shared} {H : Hp} (hr : RoomG 3 (A.deeper (envOfC "is_rule" (defScope st_is_rule) s.heap.objs.size f cdv))) :
    FSts (cxD P w K mg base N_is_rule "is_rule" (defScope st_is_rule) f cdv A outer s H) (defBody st_is_rule) fb_is_rule :=
    (fs_one (fs_ret (f_and (f_call C_has_modulus (hr.mono (by decide)) rfl bd_has_modulus (fa_cons (f_var 0) fa_nil) (alen_cons alen_nil)) (f_one (f_call C_is_pairs (hr.mono (by decide)) rfl bd_is_pairs (fa_cons (f_item (f_var 0) f_int) (fa_cons (f_item (f_var 0) f_int) fa_nil)) (alen_cons (alen_cons alen_nil)))))))
theorem sc_is_round : FnScope N_is_round ps_is_round (defScope st_is_round) := ⟨rfl, rfl, rfl, by decide +kernel, rfl, by decide +kernel, by decide +kernel⟩
theorem der_is_round {P : Program} {w : World} {K : PySem.W.Frag} {mg : Str → Option Value} {base : Heap} (B : Bl mg) (C_has_modulus : Cal P w K mg base 3 "has_modulus" st_has_modulus ps_has_modulus (spF F_has_modulus 1)) (C_is_within : Cal P w K mg base 2 "is_within" st_is_within ps_is_within (spF F_is_within 3)) {f : Addr} {cdv : Value} {A : Around} {outer : List Env} {s : Shared} {H : Hp} (hr : RoomG 3 (A.deeper (envOfC "is_round" (defScope st_is_round) s.heap.objs.size f cdv))) :
    FSts (cxD P w K mg base N_is_round "is_round" (defScope st_is_round) f cdv A outer s H) (defBody st_is_round) fb_is_round :=
    (fs_cons (fs_if (fc_w (fcw_or (fc_not (fc_tr (f_call C_has_modulus (hr.mono (by decide)) rfl bd_has_modulus (fa_cons (f_var 0) fa_nil) (alen_cons alen_nil)))) (fcw_or1 (fc_not (fc_tr (f_isi (by decide) rfl B.isinstance (by decide +kernel) rfl B.tuple (by decide +kernel) (f_item (f_var 0) f_int))))))) (fs_one (fs_ret f_bl)) fs_nil)
    (fs_one (fs_ret (f_and (f_gt (f_callB call_len_seq p_len rfl B.len (by decide +kernel) (fa_cons (f_item (f_var 0) f_int) fa_nil)) f_int) (f_one (f_callB (cr_all rfl) p_all rfl B.all (by decide +kernel) (fa_cons (f_lc rfl sc_is_round.nd (fi_seq (f_item (f_var 0) f_int)) (blkOk_by (own := [("rest", 1)]) (N := N_is_round) (sc := defScope st_is_round) (by decide +kernel)) (compG_name (i := 1) (by decide)) (tgc_name (i := 1) (by decide)) (fun _ _ _ _ _ => (pg_name (i := 1) sc_is_round.nd rfl (by first | exact Or.inl rfl | exact Or.inr rfl))) (fun _ _ _ _ _ => ft_nil) (fun _ _ _ _ _ => (f_call C_is_within (hr.mono (by decide)) rfl bd_is_within (fa_cons (f_var 1) (fa_cons f_int (fa_cons (f_sub (f_item (f_var 0) f_int) f_int) fa_nil))) (alen_cons (alen_cons (alen_cons alen_nil)))))) fa_nil)))))))
theorem sc_need_rule : FnScope N_need_rule ps_need_rule (defScope st_need_rule) := ⟨rfl, rfl, rfl, by decide +kernel, rfl, by decide +kernel, by decide +kernel⟩
theorem der_need_rule {P : Program} {w : World} {K : PySem.W.Frag} {mg : Str → Option Value} {base : Heap} (B : Bl mg) (C_is_rule : Cal P w K mg base 4 "is_rule" st_is_rule ps_is_rule (spF F_is_rule 1)) {f : Addr} {cdv : Value} {A : Around} {outer : List Env} {s : Shared} {H : Hp} (hr : RoomG 4 (A.deeper (envOfC "need_rule" (defScope st_need_rule) s.heap.objs.size f cdv))) :
    FSts (cxD P w K mg base N_need_rule "need_rule" (defScope st_need_rule) f cdv A outer s H) (defBody st_need_rule) fb_need_rule :=
    (fs_one (fs_if (fc_not (fc_tr (f_call C_is_rule (hr.mono (by decide)) rfl bd_is_rule (fa_cons (f_var 0) fa_nil) (alen_cons alen_nil)))) (fs_one fs_never) fs_nil))
theorem sc_need_round : FnScope N_need_round ps_need_round (defScope st_need_round) := ⟨rfl, rfl, rfl, by decide +kernel, rfl, by decide +kernel, by decide +kernel⟩
theorem der_need_round {P : Program} {w : World} {K : PySem.W.Frag} {mg : Str → Option Value} {base : Heap} (B : Bl mg) (C_is_round : Cal P w K mg base 4 "is_round" st_is_round ps_is_round (spF F_is_round 1)) {f : Addr} {cdv : Value} {A : Around} {outer : List Env} {s : Shared} {H : Hp} (hr : RoomG 4 (A.deeper (envOfC "need_round" (defScope st_need_round) s.heap.objs.size f cdv))) :
    FSts (cxD P w K mg base N_need_round "need_round" (defScope st_need_round) f cdv A outer s H) (defBody st_need_round) fb_need_round :=
    (fs_one (fs_if (fc_not (fc_tr (f_call C_is_round (hr.mono (by decide)) rfl bd_is_round (fa_cons (f_var 0) fa_nil) (alen_cons alen_nil)))) (fs_one fs_never) fs_nil))
theorem sc_need_same : FnScope N_need_same ps_need_same (defScope st_need_same) := ⟨rfl, rfl, rfl, by decide +kernel, rfl, by decide +kernel, by decide +kernel⟩
theorem der_need_same {P : Program} {w : World} {K : PySem.W.Frag} {mg : Str → Option Value} {base : Heap} (B : Bl mg) {f : Addr} {cdv : Value} {A : Around} {outer : List Env} {s : Shared} {H : Hp} (hr : RoomG 0 (A.deeper (envOfC "need_same" (defScope st_need_same) s.heap.objs.size f cdv))) :
    FSts (cxD P w K mg base N_need_same "need_same" (defScope st_need_same) f cdv A outer s H) (defBody st_need_same) fb_need_same :=
    (fs_one (fs_if (fc_ne hr.r.units (f_item (f_var 0) f_int) (f_item (f_var 1) f_int)) (fs_one fs_never) fs_nil))
theorem sc_primes_of : FnScope N_primes_of ps_primes_of (defScope st_primes_of) := ⟨rfl, rfl, rfl, by decide +kernel, rfl, by decide +kernel, by decide +kernel⟩
theorem der_primes_of {P : Program} {w : World} {K : PySem.W.Frag} {mg : Str → Option Value} {base : Heap} (B : Bl mg) (H_PRIMES : KName K mg "PRIMES" [2, 3, 5, 6, 7, 10, 11, 13, 14, 15]) (HT_PRIMES : KTup K mg "PRIMES" [(2, [2]), (3, [3]), (5, [5]), (6, [2, 3]), (7, [7]), (10, [2, 5]), (11, [11]), (13, [13]), (14, [2, 7]), (15, [3, 5])]) (C_is_modulus : Cal P w K mg base 2 "is_modulus" st_is_modulus ps_is_modulus (spF F_is_modulus 1)) {f : Addr} {cdv : Value} {A : Around} {outer : List Env} {s : Shared} {H : Hp} (hr : RoomG 2 (A.deeper (envOfC "primes_of" (defScope st_primes_of) s.heap.objs.size f cdv))) :
    FSts (cxD P w K mg base N_primes_of "primes_of" (defScope st_primes_of) f cdv A outer s H) (defBody st_primes_of) fb_primes_of :=
    (fs_cons (fs_if (fc_not (fc_tr (f_call C_is_modulus (hr.mono (by decide)) rfl bd_is_modulus (fa_cons (f_var 0) fa_nil) (alen_cons alen_nil)))) (fs_one fs_never) fs_nil)
    (fs_one (fs_ret (f_listO rfl B.list (f_ixK HT_PRIMES rfl (f_var 0))))))
theorem sc_round_step : FnScope N_round_step ps_round_step (defScope st_round_step) := ⟨rfl, rfl, rfl, by decide +kernel, rfl, by decide +kernel, by decide +kernel⟩
theorem der_round_step {P : Program} {w : World} {K : PySem.W.Frag} {mg : Str → Option Value} {base : Heap} (B : Bl mg) (C_need_rule : Cal P w K mg base 5 "need_rule" st_need_rule ps_need_rule (spF F_need_rule 1)) (C_need_round : Cal P w K mg base 5 "need_round" st_need_round ps_need_round (spF F_need_round 1)) (C_need_same : Cal P w K mg base 1 "need_same" st_need_same ps_need_same (spF F_need_same 2)) {f : Addr} {cdv : Value} {A : Around} {outer : List Env} {s : Shared} {H : Hp} (hr : RoomG 5 (A.deeper (envOfC "round_step" (defScope st_round_step) s.heap.objs.size f cdv))) :
    FSts (cxD P w K mg base N_round_step "round_step" (defScope st_round_step) f cdv A outer s H) (defBody st_round_step) fb_round_step :=
    (fs_cons (fs_expr (f_call C_need_rule (hr.mono (by decide)) rfl bd_need_rule (fa_cons (f_var 0) fa_nil) (alen_cons alen_nil)))
    (fs_cons (fs_expr (f_call C_need_round (hr.mono (by decide)) rfl bd_need_round (fa_cons (f_var 1) fa_nil) (alen_cons alen_nil)))
    (fs_cons (fs_expr (f_call C_need_same (hr.mono (by decide)) rfl bd_need_same (fa_cons (f_var 0) (fa_cons (f_var 1) fa_nil)) (alen_cons (alen_cons alen_nil))))
    (fs_cons (fs_asgT (f_var 1) (g_tup (is := [2, 3]) rfl (pgs_name2 (pg_name (i := 2) sc_round_step.nd rfl (by first | exact Or.inl rfl | exact Or.inr rfl)) (pgs_name2 (pg_name (i := 3) sc_round_step.nd rfl (by first | exact Or.inl rfl | exact Or.inr rfl)) pgs_nil))))
    (fs_cons (fs_asg (i := 4) sc_round_step.nd rfl (by first | exact Or.inl rfl | exact Or.inr rfl) (f_callB call_len_seq p_len rfl B.len (by decide +kernel) (fa_cons (f_var 3) fa_nil)))
    (fs_cons (fs_setLc (i := 5) rfl sc_round_step.nd rfl rfl (sw_true rfl rfl rfl (by decide +kernel)) (fi_range1 rfl B.range (fa_cons (f_var 4) fa_nil)) (blkOk_by (own := [("i", 6)]) (N := N_round_step) (sc := defScope st_round_step) (by decide +kernel)) (compG_name (i := 6) (by decide)) (tgc_name (i := 6) (by decide)) (fun _ _ _ _ _ => (pg_name (i := 6) sc_round_step.nd rfl (by first | exact Or.inl rfl | exact Or.inr rfl))) (fun _ _ _ _ _ => ft_nil) (fun _ _ _ _ _ => (f_callB (cr_sum rfl) p_sum rfl B.sum (by decide +kernel) (fa_cons (f_lc rfl sc_round_step.nd (fi_seq (f_item (f_var 0) f_int)) (blkOk_by (own := [("offset", 7), ("factor", 8)]) (N := N_round_step) (by rfl)) (compG_tup (is := [7, 8]) (by decide)) (tgc_tup (is := [7, 8]) (by decide)) (fun _ _ _ _ _ => (pg_tup (n := 2) rfl (pgs_name2 (pg_name (i := 7) sc_round_step.nd rfl (by first | exact Or.inl rfl | exact Or.inr rfl)) (pgs_name2 (pg_name (i := 8) sc_round_step.nd rfl (by first | exact Or.inl rfl | exact Or.inr rfl)) pgs_nil)))) (fun _ _ _ _ _ => ft_nil) (fun _ _ _ _ _ => (f_mul (f_var 8) (f_item (f_var 3) (f_mod (f_add (f_var 6) (f_var 7)) (f_var 4)))))) fa_nil))))
    (fs_one (fs_ret (f_tup (fa_cons (f_var 2) (fa_cons (f_callTy call_tuple_of2 p_tuple rfl B.tuple (by decide +kernel) (fa_cons (f_lc rfl sc_round_step.nd (fi_seq (f_var 5)) (blkOk_by (own := [("total", 9)]) (N := N_round_step) (sc := defScope st_round_step) (by decide +kernel)) (compG_name (i := 9) (by decide)) (tgc_name (i := 9) (by decide)) (fun _ _ _ _ _ => (pg_name (i := 9) sc_round_step.nd rfl (by first | exact Or.inl rfl | exact Or.inr rfl))) (fun _ _ _ _ _ => ft_nil) (fun _ _ _ _ _ => (f_mod (f_var 9) (f_var 2)))) fa_nil)) fa_nil)))))))))))
theorem sc_need_prime_rule : FnScope N_need_prime_rule ps_need_prime_rule (defScope st_need_prime_rule) := ⟨rfl, rfl, rfl, by decide +kernel, rfl, by decide +kernel, by decide +kernel⟩
theorem der_need_prime_rule {P : Program} {w : World} {K : PySem.W.Frag} {mg : Str → Option Value} {base : Heap} (B : Bl mg) (C_need_rule : Cal P w K mg base 5 "need_rule" st_need_rule ps_need_rule (spF F_need_rule 1)) (C_primes_of : Cal P w K mg base 3 "primes_of" st_primes_of ps_primes_of (spF F_primes_of 1)) {f : Addr} {cdv : Value} {A : Around} {outer : List Env} {s : Shared} {H : Hp} (hr : RoomG 5 (A.deeper (envOfC "need_prime_rule" (defScope st_need_prime_rule) s.heap.objs.size f cdv))) :
    FSts (cxD P w K mg base N_need_prime_rule "need_prime_rule" (defScope st_need_prime_rule) f cdv A outer s H) (defBody st_need_prime_rule) fb_need_prime_rule :=
    (fs_cons (fs_expr (f_call C_need_rule (hr.mono (by decide)) rfl bd_need_rule (fa_cons (f_var 0) fa_nil) (alen_cons alen_nil)))
    (fs_one (fs_if (fc_w (fcw_or (fc_gt (f_callB call_len_seq p_len rfl B.len (by decide +kernel) (fa_cons (f_frz (f_call C_primes_of (hr.mono (by decide)) rfl bd_primes_of (fa_cons (f_item (f_var 0) f_int) fa_nil) (alen_cons alen_nil))) fa_nil)) f_int) (fcw_or1 (fc_not (fc_tr (f_item (f_var 0) f_int)))))) (fs_one fs_never) fs_nil)))
theorem sc_dies_in : FnScope N_dies_in ps_dies_in (defScope st_dies_in) := ⟨rfl, rfl, rfl, by decide +kernel, rfl, by decide +kernel, by decide +kernel⟩
theorem der_dies_in {P : Program} {w : World} {K : PySem.W.Frag} {mg : Str → Option Value} {base : Heap} (B : Bl mg) (C_need_prime_rule : Cal P w K mg base 6 "need_prime_rule" st_need_prime_rule ps_need_prime_rule (spF F_need_prime_rule 1)) (C_need_round : Cal P w K mg base 5 "need_round" st_need_round ps_need_round (spF F_need_round 1)) (C_need_same : Cal P w K mg base 1 "need_same" st_need_same ps_need_same (spF F_need_same 2)) (C_round_step : Cal P w K mg base 6 "round_step" st_round_step ps_round_step (spF F_round_step 2)) {f : Addr} {cdv : Value} {A : Around} {outer : List Env} {s : Shared} {H : Hp} (hr : RoomG 6 (A.deeper (envOfC "dies_in" (defScope st_dies_in) s.heap.objs.size f cdv))) :
    FSts (cxD P w K mg base N_dies_in "dies_in" (defScope st_dies_in) f cdv A outer s H) (defBody st_dies_in) fb_dies_in :=
    (fs_cons (fs_expr (f_call C_need_prime_rule (hr.mono (by decide)) rfl bd_need_prime_rule (fa_cons (f_var 0) fa_nil) (alen_cons alen_nil)))
    (fs_cons (fs_expr (f_call C_need_round (hr.mono (by decide)) rfl bd_need_round (fa_cons (f_var 1) fa_nil) (alen_cons alen_nil)))
    (fs_cons (fs_expr (f_call C_need_same (hr.mono (by decide)) rfl bd_need_same (fa_cons (f_var 0) (fa_cons (f_var 1) fa_nil)) (alen_cons (alen_cons alen_nil))))
    (fs_cons (fs_for PassesOwn.never rfl (fi_range1 rfl B.range (fa_cons (f_add (f_callB call_len_seq p_len rfl B.len (by decide +kernel) (fa_cons (f_item (f_var 1) f_int) fa_nil)) f_int) fa_nil)) (g_name (i := 2) sc_dies_in.nd rfl (by first | exact Or.inl rfl | exact Or.inr rfl)) (tgd_name (i := 2)) (show FSts _ _ lb_dies_in_1 from (fs_cons (fs_if (fc_not (fc_tr (f_callB (cr_anyT rfl) p_anyT rfl B.any (by decide +kernel) (fa_cons (f_item (f_var 1) f_int) fa_nil)))) (fs_one (fs_ret (f_var 2))) fs_nil)
    (fs_one (fs_asg (i := 1) sc_dies_in.nd rfl (by first | exact Or.inl rfl | exact Or.inr rfl) (f_call C_round_step (hr.mono (by decide)) rfl bd_round_step (fa_cons (f_var 0) (fa_cons (f_var 1) fa_nil)) (alen_cons (alen_cons alen_nil))))))))
    (fs_one (fs_ret f_non))))))
theorem sc__law_pot : FnScope N__law_pot ps__law_pot (defScope st__law_pot) := ⟨rfl, rfl, rfl, by decide +kernel, rfl, by decide +kernel, by decide +kernel⟩
theorem der__law_pot {P : Program} {w : World} {K : PySem.W.Frag} {mg : Str → Option Value} {base : Heap} (B : Bl mg) {f : Addr} {cdv : Value} {A : Around} {outer : List Env} {s : Shared} {H : Hp} (hr : RoomG 0 (A.deeper (envOfC "_law_pot" (defScope st__law_pot) s.heap.objs.size f cdv))) :
    FSts (cxD P w K mg base N__law_pot "_law_pot" (defScope st__law_pot) f cdv A outer s H) (defBody st__law_pot) fb__law_pot :=
    (fs_cons (fs_asg (i := 2) sc__law_pot.nd rfl (by first | exact Or.inl rfl | exact Or.inr rfl) (f_add (f_add (f_mul f_int (f_var 1)) f_int) (f_callB call_len_seq p_len rfl B.len (by decide +kernel) (fa_cons (f_var 0) fa_nil))))
    (fs_cons (fs_if (fc_lt (f_var 1) (f_callB call_len_seq p_len rfl B.len (by decide +kernel) (fa_cons (f_var 0) fa_nil))) (fs_one (fs_asg (i := 2) sc__law_pot.nd rfl (by first | exact Or.inl rfl | exact Or.inr rfl) (f_item (f_var 0) (f_var 1)))) fs_nil)
    (fs_cons (fs_asg (i := 3) sc__law_pot.nd rfl (by first | exact Or.inl rfl | exact Or.inr rfl) (f_callB (cr_sum rfl) p_sum rfl B.sum (by decide +kernel) (fa_cons (f_lc rfl sc__law_pot.nd (fi_seq (f_var 0)) (blkOk_by (own := [("_law_other", 4)]) (N := N__law_pot) (sc := defScope st__law_pot) (by decide +kernel)) (compG_name (i := 4) (by decide)) (tgc_name (i := 4) (by decide)) (fun _ _ _ _ _ => (pg_name (i := 4) sc__law_pot.nd rfl (by first | exact Or.inl rfl | exact Or.inr rfl))) (fun _ _ _ _ _ => ft_nil) (fun _ _ _ _ _ => (f_mod (f_callTy call_int1 p_int rfl B.int (by decide +kernel) (fa_cons (f_var 4) fa_nil)) (f_add (f_pow f_int f_int) f_int)))) fa_nil)))
    (fs_cons (fs_asg (i := 5) sc__law_pot.nd rfl (by first | exact Or.inl rfl | exact Or.inr rfl) (f_mod (f_callTy call_int1 p_int rfl B.int (by decide +kernel) (fa_cons (f_add (f_add (f_mul (f_var 2) f_int) (f_mul (f_var 3) f_int)) (f_mul (f_var 1) f_int)) fa_nil)) (f_add (f_pow f_int f_int) f_int)))
    (fs_one (fs_ret (f_lstO (fa_cons (f_callB (call_max2 rfl) p_max2 rfl B.max (by decide +kernel) (fa_cons f_int (fa_cons (f_sub (f_var 2) (f_pow f_int f_int)) fa_nil))) (fa_cons (f_var 5) (fa_cons f_int fa_nil))))))))))
theorem sc__law_draw : FnScope N__law_draw ps__law_draw (defScope st__law_draw) := ⟨rfl, rfl, rfl, by decide +kernel, rfl, by decide +kernel, by decide +kernel⟩
theorem der__law_draw {P : Program} {w : World} {K : PySem.W.Frag} {mg : Str → Option Value} {base : Heap} (B : Bl mg) {f : Addr} {cdv : Value} {A : Around} {outer : List Env} {s : Shared} {H : Hp} (hr : RoomG 0 (A.deeper (envOfC "_law_draw" (defScope st__law_draw) s.heap.objs.size f cdv))) :
    FSts (cxD P w K mg base N__law_draw "_law_draw" (defScope st__law_draw) f cdv A outer s H) (defBody st__law_draw) fb__law_draw :=
    (fs_cons (fs_if (fc_gt (f_item (f_var 0) f_int) f_int) (fs_cons (fs_asg (i := 2) sc__law_draw.nd rfl (by first | exact Or.inl rfl | exact Or.inr rfl) (f_mod (f_callTy call_int1 p_int rfl B.int (by decide +kernel) (fa_cons (f_item (f_var 0) f_int) fa_nil)) (f_var 1)))
    (fs_cons (fs_setI (f_var 0) f_int (f_fdiv (f_item (f_var 0) f_int) (f_var 1)))
    (fs_one (fs_ret (f_var 2))))) fs_nil)
    (fs_cons (fs_setI (f_var 0) f_int (f_add (f_item (f_var 0) f_int) f_int))
    (fs_cons (fs_asg (i := 3) sc__law_draw.nd rfl (by first | exact Or.inl rfl | exact Or.inr rfl) (f_mod (f_callTy call_int1 p_int rfl B.int (by decide +kernel) (fa_cons (f_pow (f_add (f_item (f_var 0) f_int) (f_mul f_int (f_item (f_var 0) f_int))) f_int) fa_nil)) (f_add (f_pow f_int f_int) f_int)))
    (fs_one (fs_ret (f_mod (f_fdiv (f_mod (f_callTy call_int1 p_int rfl B.int (by decide +kernel) (fa_cons (f_mul (f_var 3) (f_add (f_var 3) f_int)) fa_nil)) (f_add (f_pow f_int f_int) f_int)) f_int) (f_var 1)))))))
theorem sc__law_poly : FnScope N__law_poly ps__law_poly (defScope st__law_poly) := ⟨rfl, rfl, rfl, by decide +kernel, rfl, by decide +kernel, by decide +kernel⟩
theorem der__law_poly {P : Program} {w : World} {K : PySem.W.Frag} {mg : Str → Option Value} {base : Heap} (B : Bl mg) (C__law_draw : Cal P w K mg base 1 "_law_draw" st__law_draw ps__law_draw (spF F__law_draw 2)) {f : Addr} {cdv : Value} {A : Around} {outer : List Env} {s : Shared} {H : Hp} (hr : RoomG 1 (A.deeper (envOfC "_law_poly" (defScope st__law_poly) s.heap.objs.size f cdv))) :
    FSts (cxD P w K mg base N__law_poly "_law_poly" (defScope st__law_poly) f cdv A outer s H) (defBody st__law_poly) fb__law_poly :=
    (fs_cons (fs_setLcO (i := 3) rfl sc__law_poly.nd rfl rfl (sw_true rfl rfl rfl (by decide +kernel)) (fi_range1 rfl B.range (fa_cons (f_add (f_var 2) f_int) fa_nil)) (blkOk_by (own := [("_law_place", 4)]) (N := N__law_poly) (sc := defScope st__law_poly) (by decide +kernel)) (compG_name (i := 4) (by decide)) (tgc_name (i := 4) (by decide)) (fun _ _ _ _ _ => (pg_name (i := 4) sc__law_poly.nd rfl (by first | exact Or.inl rfl | exact Or.inr rfl))) (fun _ _ _ _ _ => ft_nil) (fun _ _ _ _ _ => (f_call C__law_draw (hr.mono (by decide)) rfl bd__law_draw (fa_cons (f_var 0) (fa_cons (f_var 1) fa_nil)) (alen_cons (alen_cons alen_nil)))))
    (fs_cons (fs_setI (f_var 3) f_int (f_add f_int (f_call C__law_draw (hr.mono (by decide)) rfl bd__law_draw (fa_cons (f_var 0) (fa_cons (f_sub (f_var 1) f_int) fa_nil)) (alen_cons (alen_cons alen_nil)))))
    (fs_cons (fs_setI (f_var 3) (f_var 2) (f_add f_int (f_call C__law_draw (hr.mono (by decide)) rfl bd__law_draw (fa_cons (f_var 0) (fa_cons (f_sub (f_var 1) f_int) fa_nil)) (alen_cons (alen_cons alen_nil)))))
    (fs_one (fs_ret (f_var 3))))))
theorem sc__law_product : FnScope N__law_product ps__law_product (defScope st__law_product) := ⟨rfl, rfl, rfl, by decide +kernel, rfl, by decide +kernel, by decide +kernel⟩
theorem der__law_product {P : Program} {w : World} {K : PySem.W.Frag} {mg : Str → Option Value} {base : Heap} (B : Bl mg) {f : Addr} {cdv : Value} {A : Around} {outer : List Env} {s : Shared} {H : Hp} (hr : RoomG 0 (A.deeper (envOfC "_law_product" (defScope st__law_product) s.heap.objs.size f cdv))) :
    FSts (cxD P w K mg base N__law_product "_law_product" (defScope st__law_product) f cdv A outer s H) (defBody st__law_product) fb__law_product :=
    (fs_cons (fs_asg (i := 3) sc__law_product.nd rfl (by first | exact Or.inl rfl | exact Or.inr rfl) (f_rep (f_lstO (fa_cons f_int fa_nil)) (f_sub (f_add (f_callB call_len_seq p_len rfl B.len (by decide +kernel) (fa_cons (f_var 0) fa_nil)) (f_callB call_len_seq p_len rfl B.len (by decide +kernel) (fa_cons (f_var 1) fa_nil))) f_int)))
    (fs_cons (fs_for PassesOwn.never rfl (fi_enum rfl B.enumerate (fa_cons (f_var 0) fa_nil)) (g_tup (is := [4, 5]) rfl (pgs_name2 (pg_name (i := 4) sc__law_product.nd rfl (by first | exact Or.inl rfl | exact Or.inr rfl)) (pgs_name2 (pg_name (i := 5) sc__law_product.nd rfl (by first | exact Or.inl rfl | exact Or.inr rfl)) pgs_nil))) (tgd_tup (is := [4, 5])) (show FSts _ _ lb__law_product_1 from (fs_one (fs_for PassesOwn.never rfl (fi_enum rfl B.enumerate (fa_cons (f_var 1) fa_nil)) (g_tup (is := [6, 7]) rfl (pgs_name2 (pg_name (i := 6) sc__law_product.nd rfl (by first | exact Or.inl rfl | exact Or.inr rfl)) (pgs_name2 (pg_name (i := 7) sc__law_product.nd rfl (by first | exact Or.inl rfl | exact Or.inr rfl)) pgs_nil))) (tgd_tup (is := [6, 7])) (show FSts _ _ lb__law_product_2 from (fs_cons (fs_asg (i := 8) sc__law_product.nd rfl (by first | exact Or.inl rfl | exact Or.inr rfl) (f_add (f_item (f_var 3) (f_add (f_var 4) (f_var 6))) (f_mul (f_var 5) (f_var 7))))
    (fs_one (fs_setI (f_var 3) (f_add (f_var 4) (f_var 6)) (f_mod (f_callTy call_int1 p_int rfl B.int (by decide +kernel) (fa_cons (f_var 8) fa_nil)) (f_var 2))))))))))
    (fs_one (fs_ret (f_var 3)))))
theorem sc__law_rule : FnScope N__law_rule ps__law_rule (defScope st__law_rule) := ⟨rfl, rfl, rfl, by decide +kernel, rfl, by decide +kernel, by decide +kernel⟩
theorem der__law_rule {P : Program} {w : World} {K : PySem.W.Frag} {mg : Str → Option Value} {base : Heap} (B : Bl mg) (C__law_draw : Cal P w K mg base 1 "_law_draw" st__law_draw ps__law_draw (spF F__law_draw 2)) {f : Addr} {cdv : Value} {A : Around} {outer : List Env} {s : Shared} {H : Hp} (hr : RoomG 1 (A.deeper (envOfC "_law_rule" (defScope st__law_rule) s.heap.objs.size f cdv))) :
    FSts (cxD P w K mg base N__law_rule "_law_rule" (defScope st__law_rule) f cdv A outer s H) (defBody st__law_rule) fb__law_rule :=
    (fs_cons (fs_asg (i := 3) sc__law_rule.nd rfl (by first | exact Or.inl rfl | exact Or.inr rfl) (f_sub (f_call C__law_draw (hr.mono (by decide)) rfl bd__law_draw (fa_cons (f_var 0) (fa_cons (f_sub f_int (f_callB call_len_seq p_len rfl B.len (by decide +kernel) (fa_cons (f_var 1) fa_nil))) fa_nil)) (alen_cons (alen_cons alen_nil))) f_int))
    (fs_one (fs_ret (f_tup (fa_cons (f_var 2) (fa_cons (f_callTy call_tuple_of2 p_tuple rfl B.tuple (by decide +kernel) (fa_cons (f_lc rfl sc__law_rule.nd (fi_enum rfl B.enumerate (fa_cons (f_var 1) fa_nil)) (blkOk_by (own := [("_law_at", 4), ("_law_value", 5)]) (N := N__law_rule) (sc := defScope st__law_rule) (by decide +kernel)) (compG_tup (is := [4, 5]) (by decide)) (tgc_tup (is := [4, 5]) (by decide)) (fun _ _ _ _ _ => (pg_tup (n := 2) rfl (pgs_name2 (pg_name (i := 4) sc__law_rule.nd rfl (by first | exact Or.inl rfl | exact Or.inr rfl)) (pgs_name2 (pg_name (i := 5) sc__law_rule.nd rfl (by first | exact Or.inl rfl | exact Or.inr rfl)) pgs_nil)))) (fun _ _ _ _ _ => (ft_one (fc_ne hr.r.units (f_var 5) f_int))) (fun _ _ _ _ _ => (f_tup (fa_cons (f_add (f_var 3) (f_var 4)) (fa_cons (f_var 5) fa_nil))))) fa_nil)) fa_nil))))))
theorem sc__law_stepped : FnScope N__law_stepped ps__law_stepped (defScope st__law_stepped) := ⟨rfl, rfl, rfl, by decide +kernel, rfl, by decide +kernel, by decide +kernel⟩
theorem der__law_stepped {P : Program} {w : World} {K : PySem.W.Frag} {mg : Str → Option Value} {base : Heap} (B : Bl mg) {f : Addr} {cdv : Value} {A : Around} {outer : List Env} {s : Shared} {H : Hp} (hr : RoomG 0 (A.deeper (envOfC "_law_stepped" (defScope st__law_stepped) s.heap.objs.size f cdv))) :
    FSts (cxD P w K mg base N__law_stepped "_law_stepped" (defScope st__law_stepped) f cdv A outer s H) (defBody st__law_stepped) fb__law_stepped :=
    (fs_cons (fs_asg (i := 2) sc__law_stepped.nd rfl (by first | exact Or.inl rfl | exact Or.inr rfl) (f_callB call_len_seq p_len rfl B.len (by decide +kernel) (fa_cons (f_var 1) fa_nil)))
    (fs_cons (fs_asg (i := 3) sc__law_stepped.nd rfl (by first | exact Or.inl rfl | exact Or.inr rfl) (f_lstO fa_nil))
    (fs_cons (fs_for PassesOwn.never rfl (fi_range1 rfl B.range (fa_cons (f_var 2) fa_nil)) (g_name (i := 4) sc__law_stepped.nd rfl (by first | exact Or.inl rfl | exact Or.inr rfl)) (tgd_name (i := 4)) (show FSts _ _ lb__law_stepped_1 from (fs_one (fs_expr (f_append (f_var 3) (fa_cons (f_mod (f_callTy call_int1 p_int rfl B.int (by decide +kernel) (fa_cons (f_callB (cr_sum rfl) p_sum rfl B.sum (by decide +kernel) (fa_cons (f_lc rfl sc__law_stepped.nd (fi_seq (f_item (f_var 0) f_int)) (blkOk_by (own := [("_law_offset", 5), ("_law_part", 6)]) (N := N__law_stepped) (sc := defScope st__law_stepped) (by decide +kernel)) (compG_tup (is := [5, 6]) (by decide)) (tgc_tup (is := [5, 6]) (by decide)) (fun _ _ _ _ _ => (pg_tup (n := 2) rfl (pgs_name2 (pg_name (i := 5) sc__law_stepped.nd rfl (by first | exact Or.inl rfl | exact Or.inr rfl)) (pgs_name2 (pg_name (i := 6) sc__law_stepped.nd rfl (by first | exact Or.inl rfl | exact Or.inr rfl)) pgs_nil)))) (fun _ _ _ _ _ => ft_nil) (fun _ _ _ _ _ => (f_mul (f_var 6) (f_item (f_var 1) (f_mod (f_callTy call_int1 p_int rfl B.int (by decide +kernel) (fa_cons (f_add (f_var 4) (f_var 5)) fa_nil)) (f_var 2)))))) fa_nil)) fa_nil)) (f_item (f_var 0) f_int)) fa_nil))))))
    (fs_one (fs_ret (f_callTy call_tuple_of2 p_tuple rfl B.tuple (by decide +kernel) (fa_cons (f_var 3) fa_nil)))))))
theorem sc__law_due : FnScope N__law_due ps__law_due (defScope st__law_due) := ⟨rfl, rfl, rfl, by decide +kernel, rfl, by decide +kernel, by decide +kernel⟩
theorem der__law_due {P : Program} {w : World} {K : PySem.W.Frag} {mg : Str → Option Value} {base : Heap} (B : Bl mg) (C__law_stepped : Cal P w K mg base 1 "_law_stepped" st__law_stepped ps__law_stepped (spF F__law_stepped 2)) {f : Addr} {cdv : Value} {A : Around} {outer : List Env} {s : Shared} {H : Hp} (hr : RoomG 1 (A.deeper (envOfC "_law_due" (defScope st__law_due) s.heap.objs.size f cdv))) :
    FSts (cxD P w K mg base N__law_due "_law_due" (defScope st__law_due) f cdv A outer s H) (defBody st__law_due) fb__law_due :=
    (fs_cons (fs_asg (i := 2) sc__law_due.nd rfl (by first | exact Or.inl rfl | exact Or.inr rfl) (f_var 1))
    (fs_cons (fs_for PassesOwn.never rfl (fi_range1 rfl B.range (fa_cons (f_add (f_callB call_len_seq p_len rfl B.len (by decide +kernel) (fa_cons (f_var 1) fa_nil)) f_int) fa_nil)) (g_name (i := 3) sc__law_due.nd rfl (by first | exact Or.inl rfl | exact Or.inr rfl)) (tgd_name (i := 3)) (show FSts _ _ lb__law_due_1 from (fs_cons (fs_if (fc_eq hr.r.units (f_var 2) (f_mulT (f_tup (fa_cons f_int fa_nil)) (f_callB call_len_seq p_len rfl B.len (by decide +kernel) (fa_cons (f_var 1) fa_nil)))) (fs_one (fs_ret (f_var 3))) fs_nil)
    (fs_one (fs_asg (i := 2) sc__law_due.nd rfl (by first | exact Or.inl rfl | exact Or.inr rfl) (f_call C__law_stepped (hr.mono (by decide)) rfl bd__law_stepped (fa_cons (f_var 0) (fa_cons (f_var 2) fa_nil)) (alen_cons (alen_cons alen_nil))))))))
    (fs_one (fs_ret f_non))))
theorem sc__law_block : FnScope N__law_block ps__law_block (defScope st__law_block) := ⟨rfl, rfl, rfl, by decide +kernel, rfl, by decide +kernel, by decide +kernel⟩
theorem der__law_block {P : Program} {w : World} {K : PySem.W.Frag} {mg : Str → Option Value} {base : Heap} (B : Bl mg) (C__law_draw : Cal P w K mg base 1 "_law_draw" st__law_draw ps__law_draw (spF F__law_draw 2)) {f : Addr} {cdv : Value} {A : Around} {outer : List Env} {s : Shared} {H : Hp} (hr : RoomG 1 (A.deeper (envOfC "_law_block" (defScope st__law_block) s.heap.objs.size f cdv))) :
    FSts (cxD P w K mg base N__law_block "_law_block" (defScope st__law_block) f cdv A outer s H) (defBody st__law_block) fb__law_block :=
    (fs_cons (fs_asg (i := 3) sc__law_block.nd rfl (by first | exact Or.inl rfl | exact Or.inr rfl) (f_lstO (fa_cons f_int fa_nil)))
    (fs_cons (fs_for PassesOwn.never rfl (fi_range1 rfl B.range (fa_cons f_int fa_nil)) (g_name (i := 4) sc__law_block.nd rfl (by first | exact Or.inl rfl | exact Or.inr rfl)) (tgd_name (i := 4)) (show FSts _ _ lb__law_block_1 from (fs_one (fs_if (fc_le (f_mul (f_item (f_var 3) (f_neg f_int)) (f_var 1)) (f_var 2)) (fs_one (fs_expr (f_append (f_var 3) (fa_cons (f_mul (f_item (f_var 3) (f_neg f_int)) (f_var 1)) fa_nil)))) fs_nil))))
    (fs_one (fs_ret (f_item (f_var 3) (f_call C__law_draw (hr.mono (by decide)) rfl bd__law_draw (fa_cons (f_var 0) (fa_cons (f_callB call_len_seq p_len rfl B.len (by decide +kernel) (fa_cons (f_var 3) fa_nil)) fa_nil)) (alen_cons (alen_cons alen_nil))))))))
theorem sc__law_whole_of : FnScope N__law_whole_of ps__law_whole_of (defScope st__law_whole_of) := ⟨rfl, rfl, rfl, by decide +kernel, rfl, by decide +kernel, by decide +kernel⟩
theorem der__law_whole_of {P : Program} {w : World} {K : PySem.W.Frag} {mg : Str → Option Value} {base : Heap} (B : Bl mg) (C__law_draw : Cal P w K mg base 1 "_law_draw" st__law_draw ps__law_draw (spF F__law_draw 2)) (C__law_product : Cal P w K mg base 1 "_law_product" st__law_product ps__law_product (spF F__law_product 3)) (C__law_poly : Cal P w K mg base 2 "_law_poly" st__law_poly ps__law_poly (spF F__law_poly 3)) {f : Addr} {cdv : Value} {A : Around} {outer : List Env} {s : Shared} {H : Hp} (hr : RoomG 2 (A.deeper (envOfC "_law_whole_of" (defScope st__law_whole_of) s.heap.objs.size f cdv))) :
    FSts (cxD P w K mg base N__law_whole_of "_law_whole_of" (defScope st__law_whole_of) f cdv A outer s H) (defBody st__law_whole_of) fb__law_whole_of :=
    (fs_cons (fs_asg (i := 3) sc__law_whole_of.nd rfl (by first | exact Or.inl rfl | exact Or.inr rfl) (f_var 1))
    (fs_cons (fs_if (fc_w (fcw_and (fc_lt (f_sub (f_mul f_int (f_callB call_len_seq p_len rfl B.len (by decide +kernel) (fa_cons (f_var 1) fa_nil))) f_int) f_int) (fcw_and1 (fc_eq hr.r.units (f_call C__law_draw (hr.mono (by decide)) rfl bd__law_draw (fa_cons (f_var 0) (fa_cons f_int fa_nil)) (alen_cons (alen_cons alen_nil))) f_int)))) (fs_one (fs_asg (i := 3) sc__law_whole_of.nd rfl (by first | exact Or.inl rfl | exact Or.inr rfl) (f_frz (f_call C__law_product (hr.mono (by decide)) rfl bd__law_product (fa_cons (f_var 1) (fa_cons (f_var 1) (fa_cons (f_var 2) fa_nil))) (alen_cons (alen_cons (alen_cons alen_nil))))))) fs_nil)
    (fs_one (fs_ret (f_call C__law_product (hr.mono (by decide)) rfl bd__law_product (fa_cons (f_var 3) (fa_cons (f_frz (f_call C__law_poly (hr.mono (by decide)) rfl bd__law_poly (fa_cons (f_var 0) (fa_cons (f_var 2) (fa_cons (f_call C__law_draw (hr.mono (by decide)) rfl bd__law_draw (fa_cons (f_var 0) (fa_cons (f_sub f_int (f_callB call_len_seq p_len rfl B.len (by decide +kernel) (fa_cons (f_var 3) fa_nil))) fa_nil)) (alen_cons (alen_cons alen_nil))) fa_nil))) (alen_cons (alen_cons (alen_cons alen_nil))))) (fa_cons (f_var 2) fa_nil))) (alen_cons (alen_cons (alen_cons alen_nil))))))))
theorem sc__law_any : FnScope N__law_any ps__law_any (defScope st__law_any) := ⟨rfl, rfl, rfl, by decide +kernel, rfl, by decide +kernel, by decide +kernel⟩
theorem der__law_any {P : Program} {w : World} {K : PySem.W.Frag} {mg : Str → Option Value} {base : Heap} (B : Bl mg) (C__law_draw : Cal P w K mg base 1 "_law_draw" st__law_draw ps__law_draw (spF F__law_draw 2)) {f : Addr} {cdv : Value} {A : Around} {outer : List Env} {s : Shared} {H : Hp} (hr : RoomG 1 (A.deeper (envOfC "_law_any" (defScope st__law_any) s.heap.objs.size f cdv))) :
    FSts (cxD P w K mg base N__law_any "_law_any" (defScope st__law_any) f cdv A outer s H) (defBody st__law_any) fb__law_any :=
    (fs_one (fs_ret (f_lcO rfl sc__law_any.nd (fi_range1 rfl B.range (fa_cons (f_var 2) fa_nil)) (blkOk_by (own := [("_law_place", 3)]) (N := N__law_any) (sc := defScope st__law_any) (by decide +kernel)) (compG_name (i := 3) (by decide)) (tgc_name (i := 3) (by decide)) (fun _ _ _ _ _ => (pg_name (i := 3) sc__law_any.nd rfl (by first | exact Or.inl rfl | exact Or.inr rfl))) (fun _ _ _ _ _ => ft_nil) (fun _ _ _ _ _ => (f_call C__law_draw (hr.mono (by decide)) rfl bd__law_draw (fa_cons (f_var 0) (fa_cons (f_var 1) fa_nil)) (alen_cons (alen_cons alen_nil)))))))
theorem sc__law_made : FnScope N__law_made ps__law_made (defScope st__law_made) := ⟨rfl, rfl, rfl, by decide +kernel, rfl, by decide +kernel, by decide +kernel⟩
theorem der__law_made {P : Program} {w : World} {K : PySem.W.Frag} {mg : Str → Option Value} {base : Heap} (B : Bl mg) (C__law_poly : Cal P w K mg base 2 "_law_poly" st__law_poly ps__law_poly (spF F__law_poly 3)) (C__law_draw : Cal P w K mg base 1 "_law_draw" st__law_draw ps__law_draw (spF F__law_draw 2)) (C__law_any : Cal P w K mg base 2 "_law_any" st__law_any ps__law_any (spF F__law_any 3)) (C__law_block : Cal P w K mg base 2 "_law_block" st__law_block ps__law_block (spF F__law_block 3)) (C__law_whole_of : Cal P w K mg base 3 "_law_whole_of" st__law_whole_of ps__law_whole_of (spF F__law_whole_of 3)) {f : Addr} {cdv : Value} {A : Around} {outer : List Env} {s : Shared} {H : Hp} (hr : RoomG 3 (A.deeper (envOfC "_law_made" (defScope st__law_made) s.heap.objs.size f cdv))) :
    FSts (cxD P w K mg base N__law_made "_law_made" (defScope st__law_made) f cdv A outer s H) (defBody st__law_made) fb__law_made :=
    (fs_cons (fs_if (fc_eq hr.r.units (f_var 2) f_int) (fs_one (fs_ret (f_lstO (fa_cons (f_frz (f_call C__law_poly (hr.mono (by decide)) rfl bd__law_poly (fa_cons (f_var 0) (fa_cons (f_var 1) (fa_cons (f_call C__law_draw (hr.mono (by decide)) rfl bd__law_draw (fa_cons (f_var 0) (fa_cons f_int fa_nil)) (alen_cons (alen_cons alen_nil))) fa_nil))) (alen_cons (alen_cons (alen_cons alen_nil))))) (fa_cons (f_frz (f_call C__law_any (hr.mono (by decide)) rfl bd__law_any (fa_cons (f_var 0) (fa_cons (f_var 1) (fa_cons (f_add f_int (f_call C__law_draw (hr.mono (by decide)) rfl bd__law_draw (fa_cons (f_var 0) (fa_cons f_int fa_nil)) (alen_cons (alen_cons alen_nil)))) fa_nil))) (alen_cons (alen_cons (alen_cons alen_nil))))) fa_nil))))) fs_nil)
    (fs_cons (fs_if (fc_eq hr.r.units (f_var 2) f_int) (fs_cons (fs_asg (i := 3) sc__law_made.nd rfl (by first | exact Or.inl rfl | exact Or.inr rfl) (f_call C__law_block (hr.mono (by decide)) rfl bd__law_block (fa_cons (f_var 0) (fa_cons (f_var 1) (fa_cons f_int fa_nil))) (alen_cons (alen_cons (alen_cons alen_nil)))))
    (fs_cons (fs_asg (i := 4) sc__law_made.nd rfl (by first | exact Or.inl rfl | exact Or.inr rfl) (f_frz (f_rep (f_call C__law_any (hr.mono (by decide)) rfl bd__law_any (fa_cons (f_var 0) (fa_cons (f_var 1) (fa_cons (f_var 3) fa_nil))) (alen_cons (alen_cons (alen_cons alen_nil)))) (f_add f_int (f_call C__law_draw (hr.mono (by decide)) rfl bd__law_draw (fa_cons (f_var 0) (fa_cons (f_fdiv f_int (f_var 3)) fa_nil)) (alen_cons (alen_cons alen_nil)))))))
    (fs_one (fs_ret (f_lstO (fa_cons (f_frz (f_call C__law_whole_of (hr.mono (by decide)) rfl bd__law_whole_of (fa_cons (f_var 0) (fa_cons (f_lst (fa_cons (f_sub (f_var 1) f_int) (fa_cons f_int fa_nil))) (fa_cons (f_var 1) fa_nil))) (alen_cons (alen_cons (alen_cons alen_nil))))) (fa_cons (f_var 4) fa_nil))))))) fs_nil)
    (fs_cons (fs_asg (i := 5) sc__law_made.nd rfl (by first | exact Or.inl rfl | exact Or.inr rfl) (f_add f_int (f_call C__law_draw (hr.mono (by decide)) rfl bd__law_draw (fa_cons (f_var 0) (fa_cons f_int fa_nil)) (alen_cons (alen_cons alen_nil)))))
    (fs_cons (fs_if (fc_eq hr.r.units (f_var 2) f_int) (fs_cons (fs_asg (i := 3) sc__law_made.nd rfl (by first | exact Or.inl rfl | exact Or.inr rfl) (f_call C__law_block (hr.mono (by decide)) rfl bd__law_block (fa_cons (f_var 0) (fa_cons (f_var 1) (fa_cons (f_fdiv f_int (f_var 5)) fa_nil))) (alen_cons (alen_cons (alen_cons alen_nil)))))
    (fs_cons (fs_asg (i := 6) sc__law_made.nd rfl (by first | exact Or.inl rfl | exact Or.inr rfl) (f_frz (f_call C__law_any (hr.mono (by decide)) rfl bd__law_any (fa_cons (f_var 0) (fa_cons (f_var 1) (fa_cons (f_mul (f_var 5) (f_var 3)) fa_nil))) (alen_cons (alen_cons (alen_cons alen_nil))))))
    (fs_cons (fs_setLc (i := 4) rfl sc__law_made.nd rfl rfl (sw_true rfl rfl rfl (by decide +kernel)) (fi_range1 rfl B.range (fa_cons (f_callB call_len_seq p_len rfl B.len (by decide +kernel) (fa_cons (f_var 6) fa_nil)) fa_nil)) (blkOk_by (own := [("_law_at", 7)]) (N := N__law_made) (sc := defScope st__law_made) (by decide +kernel)) (compG_name (i := 7) (by decide)) (tgc_name (i := 7) (by decide)) (fun _ _ _ _ _ => (pg_name (i := 7) sc__law_made.nd rfl (by first | exact Or.inl rfl | exact Or.inr rfl))) (fun _ _ _ _ _ => ft_nil) (fun _ _ _ _ _ => (f_mod (f_callTy call_int1 p_int rfl B.int (by decide +kernel) (fa_cons (f_sub (f_item (f_var 6) (f_mod (f_callTy call_int1 p_int rfl B.int (by decide +kernel) (fa_cons (f_add (f_var 7) (f_var 3)) fa_nil)) (f_callB call_len_seq p_len rfl B.len (by decide +kernel) (fa_cons (f_var 6) fa_nil)))) (f_item (f_var 6) (f_var 7))) fa_nil)) (f_var 1))))
    (fs_one (fs_ret (f_lstO (fa_cons (f_frz (f_call C__law_whole_of (hr.mono (by decide)) rfl bd__law_whole_of (fa_cons (f_var 0) (fa_cons (f_frz (f_rep (f_lstO (fa_cons f_int fa_nil)) (f_var 5))) (fa_cons (f_var 1) fa_nil))) (alen_cons (alen_cons (alen_cons alen_nil))))) (fa_cons (f_var 4) fa_nil)))))))) fs_nil)
    (fs_cons (fs_asg (i := 3) sc__law_made.nd rfl (by first | exact Or.inl rfl | exact Or.inr rfl) (f_call C__law_block (hr.mono (by decide)) rfl bd__law_block (fa_cons (f_var 0) (fa_cons (f_var 1) (fa_cons (f_fdiv f_int (f_var 5)) fa_nil))) (alen_cons (alen_cons (alen_cons alen_nil)))))
    (fs_cons (fs_asg (i := 6) sc__law_made.nd rfl (by first | exact Or.inl rfl | exact Or.inr rfl) (f_frz (f_call C__law_any (hr.mono (by decide)) rfl bd__law_any (fa_cons (f_var 0) (fa_cons (f_var 1) (fa_cons (f_mul (f_var 5) (f_var 3)) fa_nil))) (alen_cons (alen_cons (alen_cons alen_nil))))))
    (fs_cons (fs_asg (i := 8) sc__law_made.nd rfl (by first | exact Or.inl rfl | exact Or.inr rfl) (f_add (f_add (f_lst (fa_cons f_int fa_nil)) (f_frz (f_rep (f_lstO (fa_cons f_int fa_nil)) (f_sub (f_var 5) f_int)))) (f_lst (fa_cons f_int fa_nil))))
    (fs_one (fs_ret (f_lstO (fa_cons (f_frz (f_call C__law_whole_of (hr.mono (by decide)) rfl bd__law_whole_of (fa_cons (f_var 0) (fa_cons (f_var 8) (fa_cons (f_var 1) fa_nil))) (alen_cons (alen_cons (alen_cons alen_nil))))) (fa_cons (f_add (f_var 6) (f_lc rfl sc__law_made.nd (fi_seq (f_var 6)) (blkOk_by (own := [("_law_value", 9)]) (N := N__law_made) (sc := defScope st__law_made) (by decide +kernel)) (compG_name (i := 9) (by decide)) (tgc_name (i := 9) (by decide)) (fun _ _ _ _ _ => (pg_name (i := 9) sc__law_made.nd rfl (by first | exact Or.inl rfl | exact Or.inr rfl))) (fun _ _ _ _ _ => ft_nil) (fun _ _ _ _ _ => (f_mod (f_callTy call_int1 p_int rfl B.int (by decide +kernel) (fa_cons (f_neg (f_var 9)) fa_nil)) (f_var 1))))) fa_nil))))))))))))
theorem sc__law_is : FnScope N__law_is ps__law_is (defScope st__law_is) := ⟨rfl, rfl, rfl, by decide +kernel, rfl, by decide +kernel, by decide +kernel⟩
theorem der__law_is {P : Program} {w : World} {K : PySem.W.Frag} {mg : Str → Option Value} {base : Heap} (B : Bl mg) {f : Addr} {cdv : Value} {A : Around} {outer : List Env} {s : Shared} {H : Hp} (hr : RoomG 0 (A.deeper (envOfC "_law_is" (defScope st__law_is) s.heap.objs.size f cdv))) :
    FSts (cxD P w K mg base N__law_is "_law_is" (defScope st__law_is) f cdv A outer s H) (defBody st__law_is) fb__law_is :=
    (fs_cons (fs_if (fc_isN (f_var 1) f_non) (fs_one (fs_ret (f_isN (f_var 0) f_non))) fs_nil)
    (fs_one (fs_ret (f_and (f_isi (by decide) rfl B.isinstance (by decide +kernel) rfl B.int (by decide +kernel) (f_var 0)) (f_and (f_not (f_isi (by decide) rfl B.isinstance (by decide +kernel) rfl B.bool (by decide +kernel) (f_var 0))) (f_one (f_eq hr.r.units (f_var 0) (f_var 1))))))))
theorem sc__law_right : FnScope N__law_right ps__law_right (defScope st__law_right) := ⟨rfl, rfl, rfl, by decide +kernel, rfl, by decide +kernel, by decide +kernel⟩
theorem der__law_right {P : Program} {w : World} {K : PySem.W.Frag} {mg : Str → Option Value} {base : Heap} (B : Bl mg) (C__law_draw : Cal P w K mg base 1 "_law_draw" st__law_draw ps__law_draw (spF F__law_draw 2)) (C__law_made : Cal P w K mg base 4 "_law_made" st__law_made ps__law_made (spF F__law_made 3)) (C__law_rule : Cal P w K mg base 2 "_law_rule" st__law_rule ps__law_rule (spF F__law_rule 3)) (C__law_due : Cal P w K mg base 2 "_law_due" st__law_due ps__law_due (spF F__law_due 2)) (C__law_is : Cal P w K mg base 1 "_law_is" st__law_is ps__law_is (spF F__law_is 2)) (C_dies_in : Cal P w K mg base 7 "dies_in" st_dies_in ps_dies_in (spF F_dies_in 2)) (C__law_stepped : Cal P w K mg base 1 "_law_stepped" st__law_stepped ps__law_stepped (spF F__law_stepped 2)) {f : Addr} {cdv : Value} {A : Around} {outer : List Env} {s : Shared} {H : Hp} (hr : RoomG 7 (A.deeper (envOfC "_law_right" (defScope st__law_right) s.heap.objs.size f cdv))) :
    FSts (cxD P w K mg base N__law_right "_law_right" (defScope st__law_right) f cdv A outer s H) (defBody st__law_right) fb__law_right :=
    (fs_cons (fs_asgT (f_tup (fa_cons (f_item (f_lst (fa_cons f_int (fa_cons f_int (fa_cons f_int (fa_cons f_int (fa_cons f_int (fa_cons f_int fa_nil))))))) (f_call C__law_draw (hr.mono (by decide)) rfl bd__law_draw (fa_cons (f_var 0) (fa_cons f_int fa_nil)) (alen_cons (alen_cons alen_nil)))) (fa_cons (f_call C__law_draw (hr.mono (by decide)) rfl bd__law_draw (fa_cons (f_var 0) (fa_cons f_int fa_nil)) (alen_cons (alen_cons alen_nil))) fa_nil))) (g_tup (is := [1, 2]) rfl (pgs_name2 (pg_name (i := 1) sc__law_right.nd rfl (by first | exact Or.inl rfl | exact Or.inr rfl)) (pgs_name2 (pg_name (i := 2) sc__law_right.nd rfl (by first | exact Or.inl rfl | exact Or.inr rfl)) pgs_nil))))
    (fs_cons (fs_asgL (f_frz (f_call C__law_made (hr.mono (by decide)) rfl bd__law_made (fa_cons (f_var 0) (fa_cons (f_var 1) (fa_cons (f_var 2) fa_nil))) (alen_cons (alen_cons (alen_cons alen_nil))))) (g_lst (is := [3, 4]) rfl (pgs_name2 (pg_name (i := 3) sc__law_right.nd rfl (by first | exact Or.inl rfl | exact Or.inr rfl)) (pgs_name2 (pg_name (i := 4) sc__law_right.nd rfl (by first | exact Or.inl rfl | exact Or.inr rfl)) pgs_nil))))
    (fs_cons (fs_par (i := 5) (j := 6) rfl sc__law_right.nd rfl rfl (by decide) rfl rfl (fa_cons (f_call C__law_rule (hr.mono (by decide)) rfl bd__law_rule (fa_cons (f_var 0) (fa_cons (f_var 3) (fa_cons (f_var 1) fa_nil))) (alen_cons (alen_cons (alen_cons alen_nil)))) (fa_cons (f_callTy call_tuple_of2 p_tuple rfl B.tuple (by decide +kernel) (fa_cons (f_var 4) fa_nil)) fa_nil)) (by rfl))
    (fs_cons (fs_asg (i := 7) sc__law_right.nd rfl (by first | exact Or.inl rfl | exact Or.inr rfl) (f_call C__law_due (hr.mono (by decide)) rfl bd__law_due (fa_cons (f_var 5) (fa_cons (f_var 6) fa_nil)) (alen_cons (alen_cons alen_nil))))
    (fs_cons (fs_if (fc_not (fc_tr (f_call C__law_is (hr.mono (by decide)) rfl bd__law_is (fa_cons (f_call C_dies_in (hr.mono (by decide)) rfl bd_dies_in (fa_cons (f_var 5) (fa_cons (f_tup (fa_cons (f_var 1) (fa_cons (f_var 6) fa_nil))) fa_nil)) (alen_cons (alen_cons alen_nil))) (fa_cons (f_var 7) fa_nil)) (alen_cons (alen_cons alen_nil))))) (fs_one (fs_ret f_bl)) fs_nil)
    (fs_cons (fs_if (fc_not (fc_tr (f_call C__law_is (hr.mono (by decide)) rfl bd__law_is (fa_cons (f_callK C_dies_in (hr.mono (by decide)) rfl kb_dies_in_row_rule pm_dies_in_row_rule (fk_cons (f_tup (fa_cons (f_var 1) (fa_cons (f_call C__law_stepped (hr.mono (by decide)) rfl bd__law_stepped (fa_cons (f_var 5) (fa_cons (f_var 6) fa_nil)) (alen_cons (alen_cons alen_nil))) fa_nil))) (fk_cons (f_var 5) fk_nil)) (alen_cons (alen_cons alen_nil))) (fa_cons (f_if (fc_in (f_var 7) (f_tup (fa_cons f_non (fa_cons f_int fa_nil)))) (f_var 7) (f_sub (f_var 7) f_int)) fa_nil)) (alen_cons (alen_cons alen_nil))))) (fs_one (fs_ret f_bl)) fs_nil)
    (fs_cons (fs_asgT (f_tup (fa_cons (f_call C__law_draw (hr.mono (by decide)) rfl bd__law_draw (fa_cons (f_var 0) (fa_cons (f_callB call_len_seq p_len rfl B.len (by decide +kernel) (fa_cons (f_var 6) fa_nil)) fa_nil)) (alen_cons (alen_cons alen_nil))) (fa_cons (f_add f_int (f_call C__law_draw (hr.mono (by decide)) rfl bd__law_draw (fa_cons (f_var 0) (fa_cons (f_sub (f_var 1) f_int) fa_nil)) (alen_cons (alen_cons alen_nil)))) fa_nil))) (g_tup (is := [8, 9]) rfl (pgs_name2 (pg_name (i := 8) sc__law_right.nd rfl (by first | exact Or.inl rfl | exact Or.inr rfl)) (pgs_name2 (pg_name (i := 9) sc__law_right.nd rfl (by first | exact Or.inl rfl | exact Or.inr rfl)) pgs_nil))))
    (fs_cons (fs_asg (i := 10) sc__law_right.nd rfl (by first | exact Or.inl rfl | exact Or.inr rfl) (f_callTy call_tuple_of2 p_tuple rfl B.tuple (by decide +kernel) (fa_cons (f_lc rfl sc__law_right.nd (fi_seq (f_add (f_slice (f_var 6) (fp_some (f_var 8)) fp_no) (f_slice (f_var 6) fp_no (fp_some (f_var 8))))) (blkOk_by (own := [("_law_value", 11)]) (N := N__law_right) (sc := defScope st__law_right) (by decide +kernel)) (compG_name (i := 11) (by decide)) (tgc_name (i := 11) (by decide)) (fun _ _ _ _ _ => (pg_name (i := 11) sc__law_right.nd rfl (by first | exact Or.inl rfl | exact Or.inr rfl))) (fun _ _ _ _ _ => ft_nil) (fun _ _ _ _ _ => (f_mod (f_callTy call_int1 p_int rfl B.int (by decide +kernel) (fa_cons (f_mul (f_var 11) (f_var 9)) fa_nil)) (f_var 1)))) fa_nil)))
    (fs_cons (fs_if (fc_not (fc_tr (f_call C__law_is (hr.mono (by decide)) rfl bd__law_is (fa_cons (f_call C_dies_in (hr.mono (by decide)) rfl bd_dies_in (fa_cons (f_var 5) (fa_cons (f_tup (fa_cons (f_var 1) (fa_cons (f_var 10) fa_nil))) fa_nil)) (alen_cons (alen_cons alen_nil))) (fa_cons (f_var 7) fa_nil)) (alen_cons (alen_cons alen_nil))))) (fs_one (fs_ret f_bl)) fs_nil)
    (fs_cons (fs_asg (i := 12) sc__law_right.nd rfl (by first | exact Or.inl rfl | exact Or.inr rfl) (f_listO rfl B.list (f_var 6)))
    (fs_cons (fs_asg (i := 13) sc__law_right.nd rfl (by first | exact Or.inl rfl | exact Or.inr rfl) (f_call C__law_draw (hr.mono (by decide)) rfl bd__law_draw (fa_cons (f_var 0) (fa_cons (f_callB call_len_seq p_len rfl B.len (by decide +kernel) (fa_cons (f_var 6) fa_nil)) fa_nil)) (alen_cons (alen_cons alen_nil))))
    (fs_cons (fs_setI (f_var 12) (f_var 13) (f_mod (f_callTy call_int1 p_int rfl B.int (by decide +kernel) (fa_cons (f_add (f_item (f_var 12) (f_var 13)) (f_var 9)) fa_nil)) (f_var 1)))
    (fs_cons (fs_if (fc_not (fc_tr (f_call C__law_is (hr.mono (by decide)) rfl bd__law_is (fa_cons (f_call C_dies_in (hr.mono (by decide)) rfl bd_dies_in (fa_cons (f_var 5) (fa_cons (f_tup (fa_cons (f_var 1) (fa_cons (f_callTy call_tuple_of2 p_tuple rfl B.tuple (by decide +kernel) (fa_cons (f_var 12) fa_nil)) fa_nil))) fa_nil)) (alen_cons (alen_cons alen_nil))) (fa_cons (f_call C__law_due (hr.mono (by decide)) rfl bd__law_due (fa_cons (f_var 5) (fa_cons (f_callTy call_tuple_of2 p_tuple rfl B.tuple (by decide +kernel) (fa_cons (f_var 12) fa_nil)) fa_nil)) (alen_cons (alen_cons alen_nil))) fa_nil)) (alen_cons (alen_cons alen_nil))))) (fs_one (fs_ret f_bl)) fs_nil)
    (fs_one (fs_ret (f_call C__law_is (hr.mono (by decide)) rfl bd__law_is (fa_cons (f_call C_dies_in (hr.mono (by decide)) rfl bd_dies_in (fa_cons (f_var 5) (fa_cons (f_tup (fa_cons (f_var 1) (fa_cons (f_mulT (f_tup (fa_cons f_int fa_nil)) (f_callB call_len_seq p_len rfl B.len (by decide +kernel) (fa_cons (f_var 6) fa_nil))) fa_nil))) fa_nil)) (alen_cons (alen_cons alen_nil))) (fa_cons f_int fa_nil)) (alen_cons (alen_cons alen_nil))))))))))))))))))
theorem sc_law : FnScope N_law ps_law (defScope st_law) := ⟨rfl, rfl, rfl, by decide +kernel, rfl, by decide +kernel, by decide +kernel⟩
theorem der_law {P : Program} {w : World} {K : PySem.W.Frag} {mg : Str → Option Value} {base : Heap} (B : Bl mg) (C__law_right : Cal P w K mg base 8 "_law_right" st__law_right ps__law_right (spF F__law_right 1)) (C__law_pot : Cal P w K mg base 1 "_law_pot" st__law_pot ps__law_pot (spF F__law_pot 2)) {f : Addr} {cdv : Value} {A : Around} {outer : List Env} {s : Shared} {H : Hp} (hr : RoomG 8 (A.deeper (envOfC "law" (defScope st_law) s.heap.objs.size f cdv))) :
    FSts (cxD P w K mg base N_law "law" (defScope st_law) f cdv A outer s H) (defBody st_law) fb_law :=
    (fs_cons (fs_for PassesOwn.never rfl (fi_range1 rfl B.range (fa_cons (f_callB (call_max2 rfl) p_max2 rfl B.max (by decide +kernel) (fa_cons f_int (fa_cons (f_callB (call_min2 rfl) p_min2 rfl B.min (by decide +kernel) (fa_cons f_int (fa_cons (f_callB call_len_seq p_len rfl B.len (by decide +kernel) (fa_cons (f_var 0) fa_nil)) fa_nil))) fa_nil))) fa_nil)) (g_name (i := 1) sc_law.nd rfl (by first | exact Or.inl rfl | exact Or.inr rfl)) (tgd_name (i := 1)) (show FSts _ _ lb_law_1 from (fs_one (fs_if (fc_not (fc_tr (f_call1O C__law_right (hr.mono (by decide)) rfl bd__law_right (f_call C__law_pot (hr.mono (by decide)) rfl bd__law_pot (fa_cons (f_var 0) (fa_cons (f_var 1) fa_nil)) (alen_cons (alen_cons alen_nil)))))) (fs_one (fs_ret f_bl)) fs_nil))))
    (fs_one (fs_ret f_bl)))
end K22

namespace K22
open PySem PySem.Spec PyProof.Rows L2 DL FL
open NA

structure Facts (K : PySem.W.Frag) (mg : Str → Option Value) : Prop where
  B : Bl mg
  H_PRIMES : KName K mg "PRIMES" [2, 3, 5, 6, 7, 10, 11, 13, 14, 15]
  HT_PRIMES : KTup K mg "PRIMES" [(2, [2]), (3, [3]), (5, [5]), (6, [2, 3]), (7, [7]), (10, [2, 5]), (11, [11]), (13, [13]), (14, [2, 7]), (15, [3, 5])]
  D_is_number : DefM K mg "is_number" st_is_number
  D_is_within : DefM K mg "is_within" st_is_within
  D_is_two : DefM K mg "is_two" st_is_two
  D_ascends : DefM K mg "ascends" st_ascends
  D_is_pairs : DefM K mg "is_pairs" st_is_pairs
  D_is_modulus : DefM K mg "is_modulus" st_is_modulus
  D_has_modulus : DefM K mg "has_modulus" st_has_modulus
  D_is_rule : DefM K mg "is_rule" st_is_rule
  D_is_round : DefM K mg "is_round" st_is_round
  D_need_rule : DefM K mg "need_rule" st_need_rule
  D_need_round : DefM K mg "need_round" st_need_round
  D_need_same : DefM K mg "need_same" st_need_same
  D_primes_of : DefM K mg "primes_of" st_primes_of
  D_round_step : DefM K mg "round_step" st_round_step
  D_need_prime_rule : DefM K mg "need_prime_rule" st_need_prime_rule
  D_dies_in : DefM K mg "dies_in" st_dies_in
  D__law_pot : DefM K mg "_law_pot" st__law_pot
  D__law_draw : DefM K mg "_law_draw" st__law_draw
  D__law_poly : DefM K mg "_law_poly" st__law_poly
  D__law_product : DefM K mg "_law_product" st__law_product
  D__law_rule : DefM K mg "_law_rule" st__law_rule
  D__law_stepped : DefM K mg "_law_stepped" st__law_stepped
  D__law_due : DefM K mg "_law_due" st__law_due
  D__law_block : DefM K mg "_law_block" st__law_block
  D__law_whole_of : DefM K mg "_law_whole_of" st__law_whole_of
  D__law_any : DefM K mg "_law_any" st__law_any
  D__law_made : DefM K mg "_law_made" st__law_made
  D__law_is : DefM K mg "_law_is" st__law_is
  D__law_right : DefM K mg "_law_right" st__law_right
  D_law : DefM K mg "law" st_law
theorem cal_is_number {P : Program} {w : World} {K : PySem.W.Frag} {mg : Str → Option Value} {base : Heap} (F : Facts K mg) : Cal P w K mg base 1 "is_number" st_is_number ps_is_number (spF F_is_number 1) := Cal.ofF F.D_is_number sc_is_number rfl (fun f cdv A outer s H hr => der_is_number F.B hr)
theorem cal_is_within {P : Program} {w : World} {K : PySem.W.Frag} {mg : Str → Option Value} {base : Heap} (F : Facts K mg) : Cal P w K mg base 2 "is_within" st_is_within ps_is_within (spF F_is_within 3) := Cal.ofF F.D_is_within sc_is_within rfl (fun f cdv A outer s H hr => der_is_within F.B (cal_is_number F) hr)
theorem cal_is_two {P : Program} {w : World} {K : PySem.W.Frag} {mg : Str → Option Value} {base : Heap} (F : Facts K mg) : Cal P w K mg base 1 "is_two" st_is_two ps_is_two (spF F_is_two 1) := Cal.ofF F.D_is_two sc_is_two rfl (fun f cdv A outer s H hr => der_is_two F.B hr)
theorem cal_ascends {P : Program} {w : World} {K : PySem.W.Frag} {mg : Str → Option Value} {base : Heap} (F : Facts K mg) : Cal P w K mg base 1 "ascends" st_ascends ps_ascends (spF F_ascends 1) := Cal.ofF F.D_ascends sc_ascends rfl (fun f cdv A outer s H hr => der_ascends F.B hr)
theorem cal_is_pairs {P : Program} {w : World} {K : PySem.W.Frag} {mg : Str → Option Value} {base : Heap} (F : Facts K mg) : Cal P w K mg base 3 "is_pairs" st_is_pairs ps_is_pairs (spF F_is_pairs 2) := Cal.ofF F.D_is_pairs sc_is_pairs rfl (fun f cdv A outer s H hr => der_is_pairs F.B (cal_is_two F) (cal_is_number F) (cal_is_within F) (cal_ascends F) hr)
theorem cal_is_modulus {P : Program} {w : World} {K : PySem.W.Frag} {mg : Str → Option Value} {base : Heap} (F : Facts K mg) : Cal P w K mg base 2 "is_modulus" st_is_modulus ps_is_modulus (spF F_is_modulus 1) := Cal.ofF F.D_is_modulus sc_is_modulus rfl (fun f cdv A outer s H hr => der_is_modulus F.B F.H_PRIMES F.HT_PRIMES (cal_is_number F) hr)
theorem cal_has_modulus {P : Program} {w : World} {K : PySem.W.Frag} {mg : Str → Option Value} {base : Heap} (F : Facts K mg) : Cal P w K mg base 3 "has_modulus" st_has_modulus ps_has_modulus (spF F_has_modulus 1) := Cal.ofF F.D_has_modulus sc_has_modulus rfl (fun f cdv A outer s H hr => der_has_modulus F.B (cal_is_two F) (cal_is_modulus F) hr)
theorem cal_is_rule {P : Program} {w : World} {K : PySem.W.Frag} {mg : Str → Option Value} {base : Heap} (F : Facts K mg) : Cal P w K mg base 4 "is_rule" st_is_rule ps_is_rule (spF F_is_rule 1) := Cal.ofF F.D_is_rule sc_is_rule rfl (fun f cdv A outer s H hr => der_is_rule F.B (cal_has_modulus F) (cal_is_pairs F) hr)
theorem cal_is_round {P : Program} {w : World} {K : PySem.W.Frag} {mg : Str → Option Value} {base : Heap} (F : Facts K mg) : Cal P w K mg base 4 "is_round" st_is_round ps_is_round (spF F_is_round 1) := Cal.ofF F.D_is_round sc_is_round rfl (fun f cdv A outer s H hr => der_is_round F.B (cal_has_modulus F) (cal_is_within F) hr)
theorem cal_need_rule {P : Program} {w : World} {K : PySem.W.Frag} {mg : Str → Option Value} {base : Heap} (F : Facts K mg) : Cal P w K mg base 5 "need_rule" st_need_rule ps_need_rule (spF F_need_rule 1) := Cal.ofF F.D_need_rule sc_need_rule rfl (fun f cdv A outer s H hr => der_need_rule F.B (cal_is_rule F) hr)
theorem cal_need_round {P : Program} {w : World} {K : PySem.W.Frag} {mg : Str → Option Value} {base : Heap} (F : Facts K mg) : Cal P w K mg base 5 "need_round" st_need_round ps_need_round (spF F_need_round 1) := Cal.ofF F.D_need_round sc_need_round rfl (fun f cdv A outer s H hr => der_need_round F.B (cal_is_round F) hr)
theorem cal_need_same {P : Program} {w : World} {K : PySem.W.Frag} {mg : Str → Option Value} {base : Heap} (F : Facts K mg) : Cal P w K mg base 1 "need_same" st_need_same ps_need_same (spF F_need_same 2) := Cal.ofF F.D_need_same sc_need_same rfl (fun f cdv A outer s H hr => der_need_same F.B hr)
theorem cal_primes_of {P : Program} {w : World} {K : PySem.W.Frag} {mg : Str → Option Value} {base : Heap} (F : Facts K mg) : Cal P w K mg base 3 "primes_of" st_primes_of ps_primes_of (spF F_primes_of 1) := Cal.ofF F.D_primes_of sc_primes_of rfl (fun f cdv A outer s H hr => der_primes_of F.B F.H_PRIMES F.HT_PRIMES (cal_is_modulus F) hr)
theorem cal_round_step {P : Program} {w : World} {K : PySem.W.Frag} {mg : Str → Option Value} {base : Heap} (F : Facts K mg) : Cal P w K mg base 6 "round_step" st_round_step ps_round_step (spF F_round_step 2) := Cal.ofF F.D_round_step sc_round_step rfl (fun f cdv A outer s H hr => der_round_step F.B (cal_need_rule F) (cal_need_round F) (cal_need_same F) hr)
theorem cal_need_prime_rule {P : Program} {w : World} {K : PySem.W.Frag} {mg : Str → Option Value} {base : Heap} (F : Facts K mg) : Cal P w K mg base 6 "need_prime_rule" st_need_prime_rule ps_need_prime_rule (spF F_need_prime_rule 1) := Cal.ofF F.D_need_prime_rule sc_need_prime_rule rfl (fun f cdv A outer s H hr => der_need_prime_rule F.B (cal_need_rule F) (cal_primes_of F) hr)
theorem cal_dies_in {P : Program} {w : World} {K : PySem.W.Frag} {mg : Str → Option Value} {base : Heap} (F : Facts K mg) : Cal P w K mg base 7 "dies_in" st_dies_in ps_dies_in (spF F_dies_in 2) := Cal.ofF F.D_dies_in sc_dies_in rfl (fun f cdv A outer s H hr => der_dies_in F.B (cal_need_prime_rule F) (cal_need_round F) (cal_need_same F) (cal_round_step F) hr)
theorem cal__law_pot {P : Program} {w : World} {K : PySem.W.Frag} {mg : Str → Option Value} {base : Heap} (F : Facts K mg) : Cal P w K mg base 1 "_law_pot" st__law_pot ps__law_pot (spF F__law_pot 2) := Cal.ofF F.D__law_pot sc__law_pot rfl (fun f cdv A outer s H hr => der__law_pot F.B hr)
theorem cal__law_draw {P : Program} {w : World} {K : PySem.W.Frag} {mg : Str → Option Value} {base : Heap} (F : Facts K mg) : Cal P w K mg base 1 "_law_draw" st__law_draw ps__law_draw (spF F__law_draw 2) := Cal.ofF F.D__law_draw sc__law_draw rfl (fun f cdv A outer s H hr => der__law_draw F.B hr)
theorem cal__law_poly {P : Program} {w : World} {K : PySem.W.Frag} {mg : Str → Option Value} {base : Heap} (F : Facts K mg) : Cal P w K mg base 2 "_law_poly" st__law_poly ps__law_poly (spF F__law_poly 3) := Cal.ofF F.D__law_poly sc__law_poly rfl (fun f cdv A outer s H hr => der__law_poly F.B (cal__law_draw F) hr)
theorem cal__law_product {P : Program} {w : World} {K : PySem.W.Frag} {mg : Str → Option Value} {base : Heap} (F : Facts K mg) : Cal P w K mg base 1 "_law_product" st__law_product ps__law_product (spF F__law_product 3) := Cal.ofF F.D__law_product sc__law_product rfl (fun f cdv A outer s H hr => der__law_product F.B hr)
theorem cal__law_rule {P : Program} {w : World} {K : PySem.W.Frag} {mg : Str → Option Value} {base : Heap} (F : Facts K mg) : Cal P w K mg base 2 "_law_rule" st__law_rule ps__law_rule (spF F__law_rule 3) := Cal.ofF F.D__law_rule sc__law_rule rfl (fun f cdv A outer s H hr => der__law_rule F.B (cal__law_draw F) hr)
theorem cal__law_stepped {P : Program} {w : World} {K : PySem.W.Frag} {mg : Str → Option Value} {base : Heap} (F : Facts K mg) : Cal P w K mg base 1 "_law_stepped" st__law_stepped ps__law_stepped (spF F__law_stepped 2) := Cal.ofF F.D__law_stepped sc__law_stepped rfl (fun f cdv A outer s H hr => der__law_stepped F.B hr)
theorem cal__law_due {P : Program} {w : World} {K : PySem.W.Frag} {mg : Str → Option Value} {base : Heap} (F : Facts K mg) : Cal P w K mg base 2 "_law_due" st__law_due ps__law_due (spF F__law_due 2) := Cal.ofF F.D__law_due sc__law_due rfl (fun f cdv A outer s H hr => der__law_due F.B (cal__law_stepped F) hr)
theorem cal__law_block {P : Program} {w : World} {K : PySem.W.Frag} {mg : Str → Option Value} {base : Heap} (F : Facts K mg) : Cal P w K mg base 2 "_law_block" st__law_block ps__law_block (spF F__law_block 3) := Cal.ofF F.D__law_block sc__law_block rfl (fun f cdv A outer s H hr => der__law_block F.B (cal__law_draw F) hr)
theorem cal__law_whole_of {P : Program} {w : World} {K : PySem.W.Frag} {mg : Str → Option Value} {base : Heap} (F : Facts K mg) : Cal P w K mg base 3 "_law_whole_of" st__law_whole_of ps__law_whole_of (spF F__law_whole_of 3) := Cal.ofF F.D__law_whole_of sc__law_whole_of rfl (fun f cdv A outer s H hr => der__law_whole_of F.B (cal__law_draw F) (cal__law_product F) (cal__law_poly F) hr)
theorem cal__law_any {P : Program} {w : World} {K : PySem.W.Frag} {mg : Str → Option Value} {base : Heap} (F : Facts K mg) : Cal P w K mg base 2 "_law_any" st__law_any ps__law_any (spF F__law_any 3) := Cal.ofF F.D__law_any sc__law_any rfl (fun f cdv A outer s H hr => der__law_any F.B (cal__law_draw F) hr)
theorem cal__law_made {P : Program} {w : World} {K : PySem.W.Frag} {mg : Str → Option Value} {base : Heap} (F : Facts K mg) : Cal P w K mg base 4 "_law_made" st__law_made ps__law_made (spF F__law_made 3) := Cal.ofF F.D__law_made sc__law_made rfl (fun f cdv A outer s H hr => der__law_made F.B (cal__law_poly F) (cal__law_draw F) (cal__law_any F) (cal__law_block F) (cal__law_whole_of F) hr)
theorem cal__law_is {P : Program} {w : World} {K : PySem.W.Frag} {mg : Str → Option Value} {base : Heap} (F : Facts K mg) : Cal P w K mg base 1 "_law_is" st__law_is ps__law_is (spF F__law_is 2) := Cal.ofF F.D__law_is sc__law_is rfl (fun f cdv A outer s H hr => der__law_is F.B hr)
theorem cal__law_right {P : Program} {w : World} {K : PySem.W.Frag} {mg : Str → Option Value} {base : Heap} (F : Facts K mg) : Cal P w K mg base 8 "_law_right" st__law_right ps__law_right (spF F__law_right 1) := Cal.ofF F.D__law_right sc__law_right rfl (fun f cdv A outer s H hr => der__law_right F.B (cal__law_draw F) (cal__law_made F) (cal__law_rule F) (cal__law_due F) (cal__law_is F) (cal_dies_in F) (cal__law_stepped F) hr)
theorem cal_law {P : Program} {w : World} {K : PySem.W.Frag} {mg : Str → Option Value} {base : Heap} (F : Facts K mg) : Cal P w K mg base 9 "law" st_law ps_law (spF F_law 1) := Cal.ofF F.D_law sc_law rfl (fun f cdv A outer s H hr => der_law F.B (cal__law_right F) (cal__law_pot F) hr)
theorem ends {P : Program} {w : World} {K : PySem.W.Frag} {mg : Str → Option Value} {fa : Addr} (hmg : mg "law" = some (.ref fa)) (F : Facts K mg) :
    ∃ fd : FuncData, (∀ (s : Shared) (u : Value), BindsTo s fd ⟨[u], []⟩ [("_law_script", u)]) ∧ ∀ base : Heap, K.In base → base.Ns mainGlobals mg → FnD P w K mg base 9 fa fd ["_law_script"] (spF F_law 1) := by
  obtain ⟨f, fd, m, Fn⟩ := F.D_law.ex
  have e := hmg.symm.trans m
  cases e
  refine ⟨fd, ?_, fun base _ _ => ?_⟩
  · obtain ⟨oc, od, kV, doc, pm, an, cdv, ct, osl, rfl, lk, hcd⟩ := Fn.ex
    exact fun s v => .of_eq rfl
  · obtain ⟨f', fd', F', m', Fn'⟩ := (cal_law (P := P) (w := w) (base := base) F).ex
    rw [m] at m'
    cases m'
    obtain ⟨oc, od, kV, doc, pm, an, cdv, ct, osl, rfl, lk, hcd⟩ := Fn.ex
    obtain ⟨oc', od', kV', doc', pm', an', cdv', ct', osl', rfl, lk', hcd'⟩ := Fn'.ex
    rw [lk] at lk'
    cases lk'
    exact F'
end K22

open PySem PySem.W PyProof.Rows
set_option maxRecDepth 100000 in
set_option maxHeartbeats 0 in
theorem PySem.Challenge.cw_nearadds_k22_round_rows_that_die_out_holds : PySem.Challenge.rw_nearadds_k22_round_rows_that_die_out.Holds := by
  w_on; o_law; k_head; (case hw => w_witness2)
  k_fill
  refine DL.dwalk (n := 63) (k := 9) (x := "_law_script") (sp := FL.spF K22.F_law 1) rfl (by decide) rfl ⟨rfl, by decide, by decide⟩ (fun w h Y => PySem.W.kIn_of Y) ?F (FL.law_sp K22.main)
  intro w mg fa h KX G hmg
  refine K22.ends hmg (K22.Facts.mk ?B ?H_PRIMES ?HT_PRIMES ?D_is_number ?D_is_within ?D_is_two ?D_ascends ?D_is_pairs ?D_is_modulus ?D_has_modulus ?D_is_rule ?D_is_round ?D_need_rule ?D_need_round ?D_need_same ?D_primes_of ?D_round_step ?D_need_prime_rule ?D_dies_in ?D__law_pot ?D__law_draw ?D__law_poly ?D__law_product ?D__law_rule ?D__law_stepped ?D__law_due ?D__law_block ?D__law_whole_of ?D__law_any ?D__law_made ?D__law_is ?D__law_right ?D_law)
  case B =>
    refine' DL.bl_mk KX G ?b_isinstance ?b_int ?b_bool ?b_str ?b_tuple ?b_list ?b_dict ?b_len ?b_all ?b_any ?b_sum ?b_abs ?b_max ?b_min ?b_repr ?b_range ?b_enumerate ?b_zip ?b_reversed ?b_sorted ?b_set
    (case b_isinstance => k_is)
    (case b_int => k_is)
    (case b_bool => k_is)
    (case b_str => k_is)
    (case b_tuple => k_is)
    (case b_list => k_is)
    (case b_dict => k_is)
    (case b_len => k_is)
    (case b_all => k_is)
    (case b_any => k_is)
    (case b_sum => k_is)
    (case b_abs => k_is)
    (case b_max => k_is)
    (case b_min => k_is)
    (case b_repr => k_is)
    (case b_range => k_is)
    (case b_enumerate => k_is)
    (case b_zip => k_is)
    (case b_reversed => k_is)
    (case b_sorted => k_is)
    (case b_set => k_is)
  case H_PRIMES =>
    refine' DL.kname_mk KX G ?a ?l ?e ?n ?o
    (case a => k_is); (case l => k_is); (case e => rfl); (case n => decide); (case o => rfl)
  case HT_PRIMES =>
    refine' FL.primes_mk KX G ?a ?l ?e ?l2 ?l3 ?l5 ?l6 ?l7 ?l10 ?l11 ?l13 ?l14 ?l15
    (case a => k_is); (case l => k_is); (case e => exact ⟨rfl, rfl, rfl, rfl, rfl, rfl, rfl, rfl, rfl, rfl, rfl⟩); (case l2 => k_is); (case l3 => k_is); (case l5 => k_is); (case l6 => k_is); (case l7 => k_is); (case l10 => k_is); (case l11 => k_is); (case l13 => k_is); (case l14 => k_is); (case l15 => k_is)
  case D_is_number =>
    refine' DL.def_mk KX G ?a ?l ?c ?k
    (case a => k_is); (case l => k_is); (case c => k_is); (case k => k_is)
  case D_is_within =>
    refine' DL.def_mk KX G ?a ?l ?c ?k
    (case a => k_is); (case l => k_is); (case c => k_is); (case k => k_is)
  case D_is_two =>
    refine' DL.def_mk KX G ?a ?l ?c ?k
    (case a => k_is); (case l => k_is); (case c => k_is); (case k => k_is)
  case D_ascends =>
    refine' DL.def_mk KX G ?a ?l ?c ?k
    (case a => k_is); (case l => k_is); (case c => k_is); (case k => k_is)
  case D_is_pairs =>
    refine' DL.def_mk KX G ?a ?l ?c ?k
    (case a => k_is); (case l => k_is); (case c => k_is); (case k => k_is)
  case D_is_modulus =>
    refine' DL.def_mk KX G ?a ?l ?c ?k
    (case a => k_is); (case l => k_is); (case c => k_is); (case k => k_is)
  case D_has_modulus =>
    refine' DL.def_mk KX G ?a ?l ?c ?k
    (case a => k_is); (case l => k_is); (case c => k_is); (case k => k_is)
  case D_is_rule =>
    refine' DL.def_mk KX G ?a ?l ?c ?k
    (case a => k_is); (case l => k_is); (case c => k_is); (case k => k_is)
  case D_is_round =>
    refine' DL.def_mk KX G ?a ?l ?c ?k
    (case a => k_is); (case l => k_is); (case c => k_is); (case k => k_is)
  case D_need_rule =>
    refine' DL.def_mk KX G ?a ?l ?c ?k
    (case a => k_is); (case l => k_is); (case c => k_is); (case k => k_is)
  case D_need_round =>
    refine' DL.def_mk KX G ?a ?l ?c ?k
    (case a => k_is); (case l => k_is); (case c => k_is); (case k => k_is)
  case D_need_same =>
    refine' DL.def_mk KX G ?a ?l ?c ?k
    (case a => k_is); (case l => k_is); (case c => k_is); (case k => k_is)
  case D_primes_of =>
    refine' DL.def_mk KX G ?a ?l ?c ?k
    (case a => k_is); (case l => k_is); (case c => k_is); (case k => k_is)
  case D_round_step =>
    refine' DL.def_mk KX G ?a ?l ?c ?k
    (case a => k_is); (case l => k_is); (case c => k_is); (case k => k_is)
  case D_need_prime_rule =>
    refine' DL.def_mk KX G ?a ?l ?c ?k
    (case a => k_is); (case l => k_is); (case c => k_is); (case k => k_is)
  case D_dies_in =>
    refine' DL.def_mk KX G ?a ?l ?c ?k
    (case a => k_is); (case l => k_is); (case c => k_is); (case k => k_is)
  case D__law_pot =>
    refine' DL.def_mk KX G ?a ?l ?c ?k
    (case a => k_is); (case l => k_is); (case c => k_is); (case k => k_is)
  case D__law_draw =>
    refine' DL.def_mk KX G ?a ?l ?c ?k
    (case a => k_is); (case l => k_is); (case c => k_is); (case k => k_is)
  case D__law_poly =>
    refine' DL.def_mk KX G ?a ?l ?c ?k
    (case a => k_is); (case l => k_is); (case c => k_is); (case k => k_is)
  case D__law_product =>
    refine' DL.def_mk KX G ?a ?l ?c ?k
    (case a => k_is); (case l => k_is); (case c => k_is); (case k => k_is)
  case D__law_rule =>
    refine' DL.def_mk KX G ?a ?l ?c ?k
    (case a => k_is); (case l => k_is); (case c => k_is); (case k => k_is)
  case D__law_stepped =>
    refine' DL.def_mk KX G ?a ?l ?c ?k
    (case a => k_is); (case l => k_is); (case c => k_is); (case k => k_is)
  case D__law_due =>
    refine' DL.def_mk KX G ?a ?l ?c ?k
    (case a => k_is); (case l => k_is); (case c => k_is); (case k => k_is)
  case D__law_block =>
    refine' DL.def_mk KX G ?a ?l ?c ?k
    (case a => k_is); (case l => k_is); (case c => k_is); (case k => k_is)
  case D__law_whole_of =>
    refine' DL.def_mk KX G ?a ?l ?c ?k
    (case a => k_is); (case l => k_is); (case c => k_is); (case k => k_is)
  case D__law_any =>
    refine' DL.def_mk KX G ?a ?l ?c ?k
    (case a => k_is); (case l => k_is); (case c => k_is); (case k => k_is)
  case D__law_made =>
    refine' DL.def_mk KX G ?a ?l ?c ?k
    (case a => k_is); (case l => k_is); (case c => k_is); (case k => k_is)
  case D__law_is =>
    refine' DL.def_mk KX G ?a ?l ?c ?k
    (case a => k_is); (case l => k_is); (case c => k_is); (case k => k_is)
  case D__law_right =>
    refine' DL.def_mk KX G ?a ?l ?c ?k
    (case a => k_is); (case l => k_is); (case c => k_is); (case k => k_is)
  case D_law =>
    refine' DL.def_mk KX G ?a ?l ?c ?k
    (case a => k_is); (case l => k_is); (case c => k_is); (case k => k_is)
