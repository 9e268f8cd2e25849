import PyProof.Rows.All
import Wide.All
import OpenK.AllK
import Wide.FinOn
import HandS.ForMost
import HandS.Conv
import HandS.TupAny
import HandS.IsInst
import HandS.Wide
import HandS.EndBits
import HandS.RevRange
import HandS.TupLe
import HandS.Style
import PyProof.ReprRoads
import PyProof.ReprBulk
import HandS.Zip
import PyProof.FitsInt
import HandS.Small
import HandS.More
import HandS.SortInts
import HandS.WideBits
import HandS.SetFor
import HandS.Strs
import HandS.TupMul
import HandS.Flow
import KE.KDictPairs
import HandS.NoneIn
import KE.GoesEnum
import KE.GoesMore
import KE.GoesZip
import PySem.Challenge.RW_nearadds_k25_multiples_that_contradict
set_option linter.all false
set_option Elab.async false
set_option maxRecDepth 100000
set_option maxHeartbeats 4000000
namespace DL
open PySem PySem.Spec PyProof.Rows L2
/-- a tuple's object without a dict of its own -/
structure TupO (o : Obj) : Prop where
  cl : o.cls = .type "tuple"
  nd : o.dict = none
/-- what stands stays, only a dict may be locked -/
def Sm (H H' : Hp) : Prop := ∀ b o, H b = some o → H' b = some o ∨ ∃ k kvs, o = .dK kvs ∧ H' b = some (.frz k (.dK kvs))
theorem Sm.refl (H : Hp) : Sm H H := fun _ _ h => .inl h
theorem Sm.of {H H' : Hp} (h : ∀ b o, H b = some o → H' b = some o) : Sm H H' := fun b o e => .inl (h b o e)
theorem Sm.at' {H H' : Hp} (e : Sm H H') {a : Addr} {o : HO} (h : H a = some o) (n : ∀ kvs, o ≠ .dK kvs) : H' a = some o := by
  rcases e a o h with h | ⟨k, kvs, rfl, _⟩
  · exact h
  · exact (n kvs rfl).elim
theorem Sm.trans {H H1 H2 : Hp} (a : Sm H H1) (b : Sm H1 H2) : Sm H H2 := fun c o h => by
  rcases a c o h with h1 | ⟨k, kvs, rfl, h1⟩
  · exact b c o h1
  · exact .inr ⟨k, kvs, rfl, b.at' h1 (fun _ z => by cases z)⟩
theorem Sm.seq {K : PySem.W.Frag} {H H' : Hp} (e : Sm H H') {a : Addr} {xs : List V} (h : SqL K H a xs) : SqL K H' a xs := by
  rcases h with (h | ⟨o, h⟩) | h
  · exact .inl (.inl (e.at' h fun _ z => by cases z))
  · exact .inl (.inr ⟨o, e.at' h fun _ z => by cases z⟩)
  · exact .inr h
theorem Sm.rdK {H H' : Hp} (e : Sm H H') {a : Addr} {kvs : List (Key × V)} (h : Rd H a (.dK kvs)) : Rd H' a (.dK kvs) := by
  rcases h with h | ⟨o, h⟩
  · rcases e _ _ h with h | ⟨k, kvs', z, h⟩
    · exact .inl h
    · cases z; exact .inr ⟨k, h⟩
  · exact .inr ⟨o, e.at' h fun _ z => by cases z⟩
/-- the place holds such a tuple -/
def SqP (K : PySem.W.Frag) (H : Hp) (a : Addr) (xs : List V) : Prop :=
  (∃ o, H a = some (.frz o (.tup xs)) ∧ TupO o) ∨
    ∃ (o : Obj) (its : Array Value) (n : Nat), K.lookup a = some o ∧ TupO o ∧ o.data = .seq its n ∧ its.size ≤ sizeLine ∧ Vals xs its.toList
theorem SqP.t {K : PySem.W.Frag} {H : Hp} {a : Addr} {xs : List V} (h : SqP K H a xs) : SqT K H a xs := by
  rcases h with ⟨o, e, _⟩ | ⟨o, its, n, e, t, r⟩
  · exact .inl (.inr ⟨o, e⟩)
  · exact .inr ⟨o, its, n, e, t.cl, r⟩
theorem SqP.mono {K : PySem.W.Frag} {H H' : Hp} {a : Addr} {xs : List V} (e : Sm H H') (h : SqP K H a xs) : SqP K H' a xs := by
  rcases h with ⟨o, h, t⟩ | h
  · exact .inl ⟨o, e.at' h (fun _ z => by cases z), t⟩
  · exact .inr h
/-- a new tuple -/
def NewT (H : Hp) (xs : List V) (Q : VK) : Prop := ∀ p o, H p = none → TupO o → Q (.ref p) (upd H p (.frz o (.tup xs)))
section
variable {X : Cx} {pins : List (Addr × Obj)} {σ : L2.St} {H : Hp} {s : Shared} {Q : VK}
theorem lay_tup (I : Inv X pins σ H s) {its : List Value} {xs : List V} (z : xs.length ≤ sizeLine) (r : Vals xs its) (q : NewT H xs Q) : EP X pins σ Q (.ref s.heap.objs.size) { s with heap := s.heap.push { cls := .type "tuple", data := .seq its.toArray } } := by
  have new : (s.heap.push { cls := .type "tuple", data := .seq its.toArray }).get? s.heap.objs.size = some { cls := .type "tuple", data := .seq its.toArray } := Heap.get?_push_size _ rfl
  have old : ∀ b ob, s.heap.get? b = some ob → (s.heap.push { cls := .type "tuple", data := .seq its.toArray }).get? b = some ob := fun _ _ e => Heap.get?_push_of_some _ e
  exact ⟨.ref _, _, I.laid (t' := s.toks) (o := .frz _ (.tup xs)) old (Nat.le_refl _) ⟨new, z, its, r, _, new, rfl, _, rfl⟩, rfl, q _ _ (I.hok.fresh (Nat.le_refl _)) ⟨rfl, rfl⟩⟩
theorem pt_tup {es : List Expr} {pos : Pos} {x1} {t : TA} (h : PA X es t) : PE X (.Tuple es x1 pos) (fun σ H Q => t σ H fun xs H1 => xs.length ≤ sizeLine ∧ NewT H1 xs Q) :=
  ⟨fun pins s σ H Q I hq => wpAny_Tuple_spliced (thn (h.run pos pins s σ H _ I hq) fun us s1 ⟨xs, H1, I1, r, z, q⟩ => ⟨by rw [← r.length]; exact z, lay_tup I1 z r q⟩)⟩
theorem callT_tuple : CallR X (.type "tuple") (fun xs H Q => ∃ p ys, xs = [.ref p] ∧ ((SqL X.K H p ys ∧ NewT H ys Q) ∨ (SqT X.K H p ys ∧ Q (.ref p) H))) := by
  rintro pins s σ H xs us Q I r ⟨p, ys, rfl, h⟩
  obtain ⟨u, rfl, rx⟩ := vals1 r
  cases rx
  rcases h with ⟨hL, q⟩ | ⟨hT, q⟩
  · obtain ⟨its, rv, pl, z⟩ := I.list hL
    have hn := rv.length
    exact call_tuple_list pl.isList (fun h2 keep => lay_tup (I.kept (t' := s.toks) keep) z rv q) (by rw [List.size_toArray]; omega)
  · obtain ⟨its, rv, pl, z⟩ := I.tuple hT
    exact call_tuple_same pl ⟨.ref p, H, I, rfl, q⟩
def rCatP (K : PySem.W.Frag) : R2 := fun x y H Q => ∃ a b xs ys, x = .ref a ∧ y = .ref b ∧ SqT K H a xs ∧ SqT K H b ys ∧ xs.length + ys.length ≤ sizeLine ∧
  (xs = [] → Q (.ref b) H) ∧ (xs ≠ [] → ys = [] → Q (.ref a) H) ∧ (xs ≠ [] → ys ≠ [] → NewT H (xs ++ ys) Q)
theorem opP_cat : OpR X (binaryOp .Add) (rCatP X.K) := by
  rintro pins s σ H x y v u Q I rx ry ⟨a, b, xs, ys, rfl, rfl, ha, hb, z, q0, q1, q2⟩
  cases rx; cases ry
  obtain ⟨its, r1, p1, _⟩ := I.tuple ha
  obtain ⟨its2, r2, p2, _⟩ := I.tuple hb
  by_cases hx : xs = []
  · subst hx
    cases r1
    exact cat_tup0 p1 p2 ⟨.ref b, H, I, rfl, q0 rfl⟩
  · refine HT.cat_tup p1 p2 (fun e => hx (r1.nil_iff.mp e)) (fun e => ⟨.ref a, H, I, rfl, q1 hx (r2.nil_iff.mp e)⟩) (fun e => ?_) (by rw [← r1.length, ← r2.length]; exact z)
    exact lay_tup I (by rw [List.length_append]; exact z) (r1.append r2) (q2 hx fun w => e (r2.nil_iff.mpr w))
def rSlP (K : PySem.W.Frag) : V → Option Int → Option Int → Hp → VK → Prop := fun x lo hi H Q => ∃ a xs, x = .ref a ∧ SqT K H a xs ∧
  (HT.sIx xs.length 0 lo = 0 ∧ HT.sIx xs.length xs.length hi = xs.length → Q (.ref a) H) ∧ (¬ (HT.sIx xs.length 0 lo = 0 ∧ HT.sIx xs.length xs.length hi = xs.length) → NewT H (cutV xs lo hi) Q)
theorem slP_tup : SlR X (rSlP X.K) := by
  rintro pins s σ H x v vl vu lo hi sl Q I rx hs pl pu ⟨a, xs, rfl, hx, q1, q2⟩
  cases rx
  obtain ⟨its, r, ht, z⟩ := I.tuple hx
  have hn : its.toArray.size = xs.length := by rw [List.size_toArray]; exact r.length.symm
  refine ⟨"tuple", _, PyProof.Rows.slot_tuple_getitem.lookup, ht.typeIs, ?_⟩
  by_cases hw : HT.sIx xs.length 0 lo = 0 ∧ HT.sIx xs.length xs.length hi = xs.length
  · exact getItem_tuple_whole ht hs pl pu (by rw [hn]; exact hw) ⟨.ref a, H, I, rfl, q1 hw⟩
  · refine HT.getItem_tuple_cut ht hs pl pu (by rw [hn]; exact hw) ?_ (by rw [hn]; exact z)
    rw [hn]
    exact lay_tup I (Nat.le_trans (cutV_length xs lo hi) z) ((r.drop (HT.sIx xs.length 0 lo)).take (HT.sIx xs.length xs.length hi - HT.sIx xs.length 0 lo)) (q2 hw)
end
end DL

namespace DL
open PySem PySem.Spec PyProof.Rows L2

/-- what a slot holds: data, or the address of a mutable cell -/
inductive DV where
  | d (x : PyData)
  | cell (a : Addr)
/-- what stands in a mutable cell -/
inductive Cell where
  | lst (xs : List PyData)
  | dct (kvs : List (Key × PyData))
abbrev Mu := Addr → Option Cell
def put (μ : Mu) (a : Addr) (c : Cell) : Mu := fun b => if b = a then some c else μ b
def del (μ : Mu) (a : Addr) : Mu := fun b => if b = a then none else μ b
theorem put_same {μ : Mu} {a : Addr} {c : Cell} : put μ a c a = some c := by simp [put]
theorem put_ne {μ : Mu} {a b : Addr} {c : Cell} (h : b ≠ a) : put μ a c b = μ b := by simp [put, h]
theorem del_same {μ : Mu} {a : Addr} : del μ a a = none := by simp [del]
theorem del_ne {μ : Mu} {a b : Addr} (h : b ≠ a) : del μ a b = μ b := by simp [del, h]
/-- the heap without the cells -/
def hid (μ : Mu) (H : Hp) : Hp := fun b => if (μ b).isSome = true then none else H b
theorem hid_of {μ : Mu} {H : Hp} {b : Addr} (h : μ b = none) : hid μ H b = H b := by simp [hid, h]
theorem hid_some {μ : Mu} {H : Hp} {b : Addr} {o : HO} (h : hid μ H b = some o) : H b = some o ∧ μ b = none := by
  unfold hid at h
  cases e : μ b with
  | none => rw [e] at h; exact ⟨by simpa using h, rfl⟩
  | some c => rw [e] at h; simp at h

def kD : Key → PyData
  | .inl i => .int i
  | .inr x => .str x

mutual
/-- the value v is the data d in the heap H -/
inductive Da (K : PySem.W.Frag) (H : Hp) : V → PyData → Prop
  | non : Da K H .non .none
  | bl (b : Bool) : Da K H (.bl b) (.bool b)
  | int (i : Int) : Da K H (.int i) (.int i)
  | str (x : Str) : Da K H (.str x) (.str x)
  | lst {a : Addr} {xs : List V} {ds : List PyData} : SqL K H a xs → DaAll K H xs ds → Da K H (.ref a) (.list ds)
  | tup {a : Addr} {xs : List V} {ds : List PyData} : SqP K H a xs → DaAll K H xs ds → Da K H (.ref a) (.tuple ds)
  | dct {a : Addr} {kvs : List (Key × V)} {ds : List PyData} : Rd H a (.dK kvs) → DaAll K H (kvs.map (·.2)) ds → Da K H (.ref a) (.dict ((kvs.map fun p => kD p.1).zip ds))
inductive DaAll (K : PySem.W.Frag) (H : Hp) : List V → List PyData → Prop
  | nil : DaAll K H [] []
  | cons {v : V} {vs : List V} {d : PyData} {ds : List PyData} : Da K H v d → DaAll K H vs ds → DaAll K H (v :: vs) (d :: ds)
end

theorem same_seqW {K : PySem.W.Frag} {H H' : Hp} {a : Addr} {xs : List V} (e : Sm H H') (h : SqT K H a xs) : SqT K H' a xs := by
  rcases h with (h | ⟨o, h⟩) | h
  · exact .inl (.inl (e.at' h fun _ z => by cases z))
  · exact .inl (.inr ⟨o, e.at' h fun _ z => by cases z⟩)
  · exact .inr h
theorem same_seqT {K : PySem.W.Frag} {H H' : Hp} {a : Addr} {xs : List V} (e : Sm H H') (h : SqP K H a xs) : SqT K H' a xs := (h.mono e).t

mutual
theorem Da.mono {K : PySem.W.Frag} {H H' : Hp} (e : Sm H H') : ∀ {v : V} {d : PyData}, Da K H v d → Da K H' v d
  | _, _, .non => .non
  | _, _, .bl b => .bl b
  | _, _, .int i => .int i
  | _, _, .str x => .str x
  | _, _, .lst h a => .lst (e.seq h) (DaAll.mono e a)
  | _, _, .tup h a => .tup (h.mono e) (DaAll.mono e a)
  | _, _, .dct h a => .dct (e.rdK h) (DaAll.mono e a)
theorem DaAll.mono {K : PySem.W.Frag} {H H' : Hp} (e : Sm H H') : ∀ {vs : List V} {ds : List PyData}, DaAll K H vs ds → DaAll K H' vs ds
  | _, _, .nil => .nil
  | _, _, .cons h t => .cons (Da.mono e h) (DaAll.mono e t)
end
theorem DaAll.length {K : PySem.W.Frag} {H : Hp} : ∀ {vs : List V} {ds : List PyData}, DaAll K H vs ds → vs.length = ds.length
  | _, _, .nil => rfl
  | _, _, .cons _ t => by simp [DaAll.length t]
theorem DaAll.get {K : PySem.W.Frag} {H : Hp} : ∀ {vs : List V} {ds : List PyData}, DaAll K H vs ds → ∀ {i : Nat} {d : PyData}, ds[i]? = some d → ∃ v, vs[i]? = some v ∧ Da K H v d
  | _, _, .nil, i, d, h => by simp at h
  | _, _, .cons h t, 0, d, e => by simp at e; subst e; exact ⟨_, rfl, h⟩
  | _, _, .cons h t, i + 1, d, e => by
    obtain ⟨v, h1, h2⟩ := DaAll.get t (i := i) (by simpa using e)
    exact ⟨v, by simpa using h1, h2⟩
theorem DaAll.append {K : PySem.W.Frag} {H : Hp} : ∀ {vs ws : List V} {ds es : List PyData}, DaAll K H vs ds → DaAll K H ws es → DaAll K H (vs ++ ws) (ds ++ es)
  | _, _, _, _, .nil, h => h
  | _, _, _, _, .cons a t, h => .cons a (DaAll.append t h)
theorem DaAll.take {K : PySem.W.Frag} {H : Hp} : ∀ {vs : List V} {ds : List PyData} (n : Nat), DaAll K H vs ds → DaAll K H (vs.take n) (ds.take n)
  | _, _, 0, _ => by simpa using DaAll.nil
  | _, _, n + 1, .nil => by simpa using DaAll.nil
  | _, _, n + 1, .cons a t => by simpa using DaAll.cons a (DaAll.take n t)
theorem DaAll.drop {K : PySem.W.Frag} {H : Hp} : ∀ {vs : List V} {ds : List PyData} (n : Nat), DaAll K H vs ds → DaAll K H (vs.drop n) (ds.drop n)
  | _, _, 0, h => by simpa using h
  | _, _, n + 1, .nil => by simpa using DaAll.nil
  | _, _, n + 1, .cons a t => by simpa using DaAll.drop n t
theorem DaAll.ints {K : PySem.W.Frag} {H : Hp} : ∀ (ns : List Int), DaAll K H (ns.map V.int) (ns.map PyData.int)
  | [] => .nil
  | n :: ns => .cons (.int n) (DaAll.ints ns)
theorem DaAll.ints_inv {K : PySem.W.Frag} {H : Hp} : ∀ {ns : List Int} {vs : List V}, DaAll K H vs (ns.map PyData.int) → vs = ns.map V.int
  | [], _, h => by cases h; rfl
  | n :: ns, _, h => by
    cases h with
    | cons a t => cases a; rw [DaAll.ints_inv t]; rfl

/-- an item that is walked over: data, or a tuple whose object is not told in full -/
def DaI (K : PySem.W.Frag) (H : Hp) (v : V) (d : PyData) : Prop := Da K H v d ∨ ∃ a vs ds, v = .ref a ∧ d = .tuple ds ∧ SqT K H a vs ∧ DaAll K H vs ds
theorem DaI.mono {K : PySem.W.Frag} {H H' : Hp} (e : Sm H H') {v : V} {d : PyData} (h : DaI K H v d) : DaI K H' v d := by
  rcases h with h | ⟨a, vs, ds, e1, e2, s, t⟩
  · exact .inl (h.mono e)
  · exact .inr ⟨a, vs, ds, e1, e2, same_seqW e s, t.mono e⟩
theorem DaI.tup {K : PySem.W.Frag} {H : Hp} {v : V} {ds : List PyData} (h : DaI K H v (.tuple ds)) : ∃ a vs, v = .ref a ∧ SqT K H a vs ∧ DaAll K H vs ds := by
  rcases h with h | ⟨a, vs, ds', e1, e2, s, t⟩
  · cases h with
    | tup s t => exact ⟨_, _, rfl, s.t, t⟩
  · cases e2
    exact ⟨a, vs, e1, s, t⟩
def DaB (b : Bool) (K : PySem.W.Frag) (H : Hp) (v : V) (d : PyData) : Prop := match b with
  | true => Da K H v d
  | false => DaI K H v d
theorem DaB.mono {K : PySem.W.Frag} {H H' : Hp} (e : Sm H H') {v : V} {d : PyData} : ∀ {b : Bool}, DaB b K H v d → DaB b K H' v d
  | true, h => Da.mono e h
  | false, h => DaI.mono e h
theorem DaB.i {K : PySem.W.Frag} {H : Hp} {v : V} {d : PyData} : ∀ {b : Bool}, DaB b K H v d → DaI K H v d
  | true, h => .inl h
  | false, h => h
/-- a slot's (or a result's) value -/
def RV (K : PySem.W.Frag) (μ : Mu) (H : Hp) (v : V) : DV → Prop
  | .d x => Da K (hid μ H) v x
  | .cell a => v = .ref a
def RVb (b : Bool) (K : PySem.W.Frag) (μ : Mu) (H : Hp) (v : V) : DV → Prop
  | .d x => DaB b K (hid μ H) v x
  | .cell a => v = .ref a
theorem RVb.rv {K : PySem.W.Frag} {μ : Mu} {H : Hp} {v : V} : ∀ {d : DV}, RVb true K μ H v d → RV K μ H v d
  | .d _, h => h
  | .cell _, h => h
theorem RV.rvb {K : PySem.W.Frag} {μ : Mu} {H : Hp} {v : V} : ∀ {d : DV}, RV K μ H v d → RVb true K μ H v d
  | .d _, h => h
  | .cell _, h => h
def RVs (K : PySem.W.Frag) (μ : Mu) (H : Hp) : List V → List DV → Prop := Paired fun v d => RV K μ H v d
abbrev DSt := List (Option DV)
def RS (K : PySem.W.Frag) (μ : Mu) (H : Hp) (σ : L2.St) (δ : DSt) : Prop := σ.length = δ.length ∧ ∀ (i : Nat) (d : DV), δ[i]? = some (some d) → ∃ v, σ[i]? = some (some v) ∧ RV K μ H v d
/-- a cell stands in the heap -/
def CellOk (K : PySem.W.Frag) (μ : Mu) (H : Hp) (a : Addr) : Cell → Prop
  | .lst ds => ∃ xs, H a = some (.lst xs) ∧ DaAll K (hid μ H) xs ds
  | .dct kvs => ∃ ks : List (Key × V), H a = some (.dK ks) ∧ ks.map (·.1) = kvs.map (·.1) ∧ DaAll K (hid μ H) (ks.map (·.2)) (kvs.map (·.2))
def RM (K : PySem.W.Frag) (μ : Mu) (H : Hp) : Prop := ∀ a c, μ a = some c → CellOk K μ H a c
/-- what was tracked and is no cell stays -/
def Ext (μ : Mu) (H : Hp) (μ' : Mu) (H' : Hp) : Prop := Sm (hid μ H) (hid μ' H')
theorem Ext.refl (μ : Mu) (H : Hp) : Ext μ H μ H := Sm.refl _
theorem Ext.trans {μ μ1 μ2 : Mu} {H H1 H2 : Hp} (a : Ext μ H μ1 H1) (b : Ext μ1 H1 μ2 H2) : Ext μ H μ2 H2 := Sm.trans a b
theorem RV.mono {K : PySem.W.Frag} {μ μ' : Mu} {H H' : Hp} (e : Ext μ H μ' H') {v : V} : ∀ {d : DV}, RV K μ H v d → RV K μ' H' v d
  | .d _, h => Da.mono e h
  | .cell _, h => h
theorem RVs.mono {K : PySem.W.Frag} {μ μ' : Mu} {H H' : Hp} (e : Ext μ H μ' H') : ∀ {vs : List V} {ds : List DV}, RVs K μ H vs ds → RVs K μ' H' vs ds
  | _, _, .nil => .nil
  | _, _, .cons h t => .cons (h.mono e) (RVs.mono e t)
theorem RS.mono {K : PySem.W.Frag} {μ μ' : Mu} {H H' : Hp} (e : Ext μ H μ' H') {σ : L2.St} {δ : DSt} (h : RS K μ H σ δ) : RS K μ' H' σ δ :=
  ⟨h.1, fun i d q => let ⟨v, a, b⟩ := h.2 i d q; ⟨v, a, b.mono e⟩⟩
theorem RS.set {K : PySem.W.Frag} {μ : Mu} {H : Hp} {σ : L2.St} {δ : DSt} (h : RS K μ H σ δ) {v : V} {d : DV} (r : RV K μ H v d) (i : Nat) : RS K μ H (σ.set i (some v)) (δ.set i (some d)) := by
  refine ⟨by simpa using h.1, fun j e q => ?_⟩
  by_cases hj : i = j
  · subst hj
    by_cases hl : i < δ.length
    · rw [List.getElem?_set_self hl] at q
      cases q
      exact ⟨v, by rw [List.getElem?_set_self (by rw [h.1]; exact hl)], r⟩
    · rw [List.getElem?_eq_none (by simpa using hl)] at q; cases q
  · rw [List.getElem?_set_ne hj] at q
    obtain ⟨v', a, b⟩ := h.2 j e q
    exact ⟨v', by rw [List.getElem?_set_ne hj]; exact a, b⟩
/-- slots forgotten -/
theorem RS.weak {K : PySem.W.Frag} {μ : Mu} {H : Hp} {σ σ' : L2.St} {δ δ' : DSt} (h : RS K μ H σ δ) (hl : σ'.length = δ'.length) (hw : ∀ (i : Nat) d, δ'[i]? = some (some d) → δ[i]? = some (some d) ∧ σ'[i]? = σ[i]?) : RS K μ H σ' δ' :=
  ⟨hl, fun i d q => let ⟨a, b⟩ := hw i d q; let ⟨v, c, e⟩ := h.2 i d a; ⟨v, b ▸ c, e⟩⟩
theorem RS.start {K : PySem.W.Frag} {μ : Mu} {H : Hp} {N : List Str} {vs : List V} {ds : List DV} (h : RVs K μ H vs ds) : RS K μ H (L2.start N vs) (ds.map some ++ List.replicate (N.length - ds.length) none) := by
  have hl : vs.length = ds.length := Paired.length h
  refine ⟨by simp [L2.start, hl], fun i d q => ?_⟩
  by_cases hi : i < ds.length
  · rw [List.getElem?_append_left (by simpa using hi), List.getElem?_map] at q
    have e : ds[i]? = some d := by
      cases e : ds[i]? with
      | none => rw [e] at q; cases q
      | some x => rw [e] at q; simp at q; rw [q]
    have g : ∀ {vs : List V} {ds : List DV} {i : Nat}, RVs K μ H vs ds → ds[i]? = some d → ∃ v, vs[i]? = some v ∧ RV K μ H v d := by
      intro vs ds i h
      induction h generalizing i with
      | nil => intro e; simp at e
      | cons a t ih =>
        intro e
        cases i with
        | zero => simp at e; subst e; exact ⟨_, rfl, a⟩
        | succ i => obtain ⟨v, h1, h2⟩ := ih (i := i) (by simpa using e); exact ⟨v, by simpa using h1, h2⟩
    obtain ⟨v, h1, h2⟩ := g h e
    refine ⟨v, ?_, h2⟩
    unfold L2.start
    rw [List.getElem?_append_left (by simpa [hl] using hi), List.getElem?_map, h1]
    rfl
  · rw [List.getElem?_append_right (by simpa using hi), List.getElem?_replicate] at q
    split at q <;> cases q

theorem RM.free {K : PySem.W.Frag} {μ : Mu} {H : Hp} (m : RM K μ H) {p : Addr} (h : H p = none) : μ p = none := by
  cases e : μ p with
  | none => rfl
  | some c =>
    have q := m p c e
    cases c with
    | lst ds => obtain ⟨xs, a, _⟩ := q; rw [h] at a; cases a
    | dct kvs => obtain ⟨xs, a, _⟩ := q; rw [h] at a; cases a
theorem ext_new {μ : Mu} {H : Hp} {p : Addr} {o : HO} (h : H p = none) : Ext μ H μ (upd H p o) := Sm.of fun b u e => by
  obtain ⟨e1, e2⟩ := hid_some e
  rw [hid_of e2, upd_ne (ne_of_none e1 h)]
  exact e1
theorem CellOk.mono {K : PySem.W.Frag} {μ μ' : Mu} {H H' : Hp} (e : Ext μ H μ' H') {a : Addr} : ∀ {c : Cell}, CellOk K μ H a c → H' a = H a → CellOk K μ' H' a c
  | .lst _, ⟨xs, h, r⟩, q => ⟨xs, by rw [q]; exact h, r.mono e⟩
  | .dct _, ⟨ks, h, k, r⟩, q => ⟨ks, by rw [q]; exact h, k, r.mono e⟩
theorem RM.new {K : PySem.W.Frag} {μ : Mu} {H : Hp} (m : RM K μ H) {p : Addr} {o : HO} (h : H p = none) : RM K μ (upd H p o) := fun a c e => by
  have hne : a ≠ p := fun z => by subst z; rw [m.free h] at e; cases e
  exact (m a c e).mono (ext_new h) (upd_ne hne)
theorem hid_new {K : PySem.W.Frag} {μ : Mu} {H : Hp} (m : RM K μ H) {p : Addr} {o : HO} (h : H p = none) : hid μ (upd H p o) p = some o := by
  rw [hid_of (m.free h), upd_same]
/-- a new cell -/
theorem ext_cell {μ : Mu} {H : Hp} {p : Addr} {o : HO} {c : Cell} (h : H p = none) : Ext μ H (put μ p c) (upd H p o) := Sm.of fun b u e => by
  obtain ⟨e1, e2⟩ := hid_some e
  have hb : b ≠ p := ne_of_none e1 h
  rw [hid_of (by rw [put_ne hb]; exact e2), upd_ne hb]
  exact e1
theorem RM.cell {K : PySem.W.Frag} {μ : Mu} {H : Hp} (m : RM K μ H) {p : Addr} {o : HO} {c : Cell} (h : H p = none) (hc : CellOk K (put μ p c) (upd H p o) p c) : RM K (put μ p c) (upd H p o) := fun a e q => by
  by_cases ha : a = p
  · subst ha; rw [put_same] at q; cases q; exact hc
  · rw [put_ne ha] at q
    exact (m a e q).mono (ext_cell h) (upd_ne ha)
/-- a cell is written -/
theorem ext_write {μ : Mu} {H : Hp} {p : Addr} {o : HO} {c e : Cell} (h : μ p = some e) : Ext μ H (put μ p c) (upd H p o) := Sm.of fun b u q => by
  obtain ⟨e1, e2⟩ := hid_some q
  have hb : b ≠ p := fun z => by subst z; rw [h] at e2; cases e2
  rw [hid_of (by rw [put_ne hb]; exact e2), upd_ne hb]
  exact e1
theorem RM.write {K : PySem.W.Frag} {μ : Mu} {H : Hp} (m : RM K μ H) {p : Addr} {o : HO} {c e : Cell} (h : μ p = some e) (hc : CellOk K (put μ p c) (upd H p o) p c) : RM K (put μ p c) (upd H p o) := fun a u q => by
  by_cases ha : a = p
  · subst ha; rw [put_same] at q; cases q; exact hc
  · rw [put_ne ha] at q
    exact (m a u q).mono (ext_write h) (upd_ne ha)
/-- a cell becomes data -/
theorem ext_freeze {μ : Mu} {H : Hp} {p : Addr} : Ext μ H (del μ p) H := Sm.of fun b u q => by
  obtain ⟨e1, e2⟩ := hid_some q
  rw [hid_of (by unfold del; split <;> first | rfl | exact e2)]
  exact e1
theorem RM.freeze {K : PySem.W.Frag} {μ : Mu} {H : Hp} (m : RM K μ H) {p : Addr} : RM K (del μ p) H := fun a c q => by
  have ha : a ≠ p := fun z => by subst z; rw [del_same] at q; cases q
  rw [del_ne ha] at q
  exact (m a c q).mono ext_freeze rfl
theorem freeze_lst {K : PySem.W.Frag} {μ : Mu} {H : Hp} (m : RM K μ H) {p : Addr} {ds : List PyData} (h : μ p = some (.lst ds)) : Da K (hid (del μ p) H) (.ref p) (.list ds) := by
  obtain ⟨xs, h1, h2⟩ := m p _ h
  exact .lst (.of (by rw [hid_of del_same]; exact h1)) (h2.mono ext_freeze)
/-- what a sequence's data say of the heap itself -/
theorem unhid {μ : Mu} {H : Hp} : Sm (hid μ H) H := Sm.of fun _ _ h => (hid_some h).1
end DL

namespace DL
open PySem PySem.Spec PyProof.Rows L2

abbrev DK := DV → Mu → Prop
abbrev DT := DSt → Mu → DK → Prop
abbrev DTT := DSt → Mu → (Bool → Mu → Prop) → Prop
abbrev DTA := DSt → Mu → (List DV → Mu → Prop) → Prop
abbrev DTP := DSt → Mu → (Option Int → Mu → Prop) → Prop
structure DEnds where
  nx : DSt → Mu → Prop
  rt : DK
  bk : DSt → Mu → Prop := fun _ _ => False
  ct : DSt → Mu → Prop := fun _ _ => False
abbrev DTS := DEnds → DSt → Mu → Prop
abbrev DTG := DV → DSt → Mu → (DSt → Mu → Prop) → Prop
abbrev DTGs := List DV → DSt → Mu → (DSt → Mu → Prop) → Prop

/-- what a wish over data says of a wish over values -/
def Wk (K : PySem.W.Frag) (μ : Mu) (H : Hp) (Qd : DK) (Q : VK) : Prop := ∀ d μ' v H', Ext μ H μ' H' → RM K μ' H' → RV K μ' H' v d → Qd d μ' → Q v H'
def up (K : PySem.W.Frag) (t : DT) : TE := fun σ H Q => ∃ δ μ Qd, RS K μ H σ δ ∧ RM K μ H ∧ t δ μ Qd ∧ Wk K μ H Qd Q
def upT (K : PySem.W.Frag) (t : DTT) : TT := fun σ H Q => ∃ δ μ Qd, RS K μ H σ δ ∧ RM K μ H ∧ t δ μ Qd ∧ ∀ b μ' H', Ext μ H μ' H' → RM K μ' H' → Qd b μ' → Q b H'
def upA (K : PySem.W.Frag) (t : DTA) : TA := fun σ H Q => ∃ δ μ Qd, RS K μ H σ δ ∧ RM K μ H ∧ t δ μ Qd ∧ ∀ ds μ' vs H', Ext μ H μ' H' → RM K μ' H' → RVs K μ' H' vs ds → Qd ds μ' → Q vs H'
abbrev DE (X : Cx) (e : Expr) (t : DT) : Prop := PE X e (up X.K t)
abbrev DC (X : Cx) (e : Expr) (t : DTT) : Prop := PT X e (upT X.K t)
abbrev DCW (X : Cx) (e : Expr) (t : DTT) : Prop := PW X e (upT X.K t)
abbrev DA (X : Cx) (es : List Expr) (t : DTA) : Prop := PA X es (upA X.K t)

theorem pe_imp {X : Cx} {e : Expr} {t t' : TE} (h : PE X e t) (w : ∀ σ H Q, t' σ H Q → t σ H Q) : PE X e t' := ⟨fun pins s σ H Q I q => h.run pins s σ H Q I (w _ _ _ q)⟩
theorem pt_imp {X : Cx} {e : Expr} {t t' : TT} (h : PT X e t) (w : ∀ σ H Q, t' σ H Q → t σ H Q) : PT X e t' := ⟨fun pins s σ H Q I q => h.run pins s σ H Q I (w _ _ _ q)⟩
theorem pw_imp {X : Cx} {e : Expr} {t t' : TT} (h : PW X e t) (w : ∀ σ H Q, t' σ H Q → t σ H Q) : PW X e t' := ⟨fun wh pins s σ H Q I q => h.run wh pins s σ H Q I (w _ _ _ q)⟩
theorem pa_imp {X : Cx} {e : List Expr} {t t' : TA} (h : PA X e t) (w : ∀ σ H Q, t' σ H Q → t σ H Q) : PA X e t' := ⟨fun pos pins s σ H Q I q => h.run pos pins s σ H Q I (w _ _ _ q)⟩
theorem ps_imp {X : Cx} {e : Stmt} {t t' : TS} (h : PS X e t) (w : ∀ D σ H, t' D σ H → t D σ H) : PS X e t' := ⟨fun pins s σ H D I q => h.run pins s σ H D I (w _ _ _ q)⟩
theorem pss_imp {X : Cx} {e : List Stmt} {t t' : TS} (h : PSs X e t) (w : ∀ D σ H, t' D σ H → t D σ H) : PSs X e t' := ⟨fun pins s σ H D I q => h.run pins s σ H D I (w _ _ _ q)⟩

section
variable {K : PySem.W.Frag} {μ : Mu} {H : Hp} {σ : L2.St} {δ : DSt}
/-- a wish behind a further step -/
theorem Wk.step {Qd : DK} {Q : VK} {μ1 : Mu} {H1 : Hp} (w : Wk K μ H Qd Q) (e : Ext μ H μ1 H1) : Wk K μ1 H1 Qd Q := fun d μ' v H' e' m r q => w d μ' v H' (e.trans e') m r q
/-- use of a part -/
theorem up_use {t : DT} {Qd : DK} {Q : VK} (rs : RS K μ H σ δ) (rm : RM K μ H) (h : t δ μ Qd) (w : Wk K μ H Qd Q) : up K t σ H Q := ⟨δ, μ, Qd, rs, rm, h, w⟩
theorem upT_use {t : DTT} {Qd : Bool → Mu → Prop} {Q : Bool → Hp → Prop} (rs : RS K μ H σ δ) (rm : RM K μ H) (h : t δ μ Qd) (w : ∀ b μ' H', Ext μ H μ' H' → RM K μ' H' → Qd b μ' → Q b H') : upT K t σ H Q := ⟨δ, μ, Qd, rs, rm, h, w⟩
theorem upA_use {t : DTA} {Qd : List DV → Mu → Prop} {Q : List V → Hp → Prop} (rs : RS K μ H σ δ) (rm : RM K μ H) (h : t δ μ Qd) (w : ∀ ds μ' vs H', Ext μ H μ' H' → RM K μ' H' → RVs K μ' H' vs ds → Qd ds μ' → Q vs H') : upA K t σ H Q := ⟨δ, μ, Qd, rs, rm, h, w⟩
end

def dVar (i : Nat) : DT := fun δ μ Q => match δ[i]? with
  | some (some x) => Q x μ
  | _ => False
def dC (x : PyData) : DT := fun _ μ Q => Q (.d x) μ
section
variable {X : Cx} {pos : Pos} {a b c e : Expr} {ta tb tc te : DT}
theorem d_var (i : Nat) {x : Str} (hN : X.N[i]? = some x := by rfl) (hv : Vis X.env.scope x := by first | exact Or.inl rfl | exact Or.inr (Or.inl rfl) | exact Or.inr (Or.inr rfl)) (hd : (x == ("__debug__" : Str)) = false := by decide)
    (hcd : (x == ("__classdict__" : Str)) = false := by decide) : DE X (.Name x pos) (dVar i) := pe_imp (pe_var hN hv hd hcd) fun σ H Q h => by
  obtain ⟨δ, μ, Qd, rs, rm, q, w⟩ := h
  unfold dVar at q
  split at q
  · next x e =>
    obtain ⟨v, h1, h2⟩ := rs.2 i x e
    exact ⟨v, h1, w x μ v H (.refl _ _) rm h2 q⟩
  · exact q.elim
theorem d_const {v : V} {x : PyData} (h : PE X e (tC v)) (r : ∀ K H, Da K H v x) : DE X e (dC x) := pe_imp h fun σ H Q ⟨δ, μ, Qd, rs, rm, q, w⟩ => w (.d x) μ v H (.refl _ _) rm (r _ _) q
theorem d_int {i j} : DE X (.Constant (.int i) j pos) (dC (.int i)) := d_const pe_int fun _ _ => .int i
theorem d_bl {i j} : DE X (.Constant (.bool i) j pos) (dC (.bool i)) := d_const pe_bl fun _ _ => .bl i
theorem d_non {j} : DE X (.Constant .none j pos) (dC .none) := d_const pe_non fun _ _ => .non
theorem d_str {x j} : DE X (.Constant (.str x) j pos) (dC (.str x)) := d_const pe_str fun _ _ => .str x
/-- a module's constant: a number, a text, a tuple, a list, of the written part -/
theorem d_glob {x : Str} {v : V} {u : Value} {y : PyData} (hg : Gl X x) (hm : X.mg x = some u) (r : RelV v u) (hd : ∀ H, Da X.K H v y) (hdb : (x == ("__debug__" : Str)) = false := by decide) : DE X (.Name x pos) (dC y) :=
  pe_imp (pe_glob hg hm r hdb) fun σ H Q ⟨δ, μ, Qd, rs, rm, q, w⟩ => w (.d y) μ v H (.refl _ _) rm (hd _) q

abbrev DR2 := DV → DV → Mu → DK → Prop
abbrev DR1 := DV → Mu → DK → Prop
def dOp (r : DR2) (ta tb : DT) : DT := fun δ μ Q => ta δ μ fun x μ1 => tb δ μ1 fun y μ2 => r x y μ2 Q
def dUn (r : DR1) (ta : DT) : DT := fun δ μ Q => ta δ μ fun x μ1 => r x μ1 Q
/-- rd over data leads to rv over values -/
def Up2 (K : PySem.W.Frag) (rd : DR2) (rv : R2) : Prop := ∀ x y μ Qd v u H Q, RM K μ H → RV K μ H v x → RV K μ H u y → rd x y μ Qd → Wk K μ H Qd Q → rv v u H Q
def Up1 (K : PySem.W.Frag) (rd : DR1) (rv : V → Hp → VK → Prop) : Prop := ∀ x μ Qd v H Q, RM K μ H → RV K μ H v x → rd x μ Qd → Wk K μ H Qd Q → rv v H Q
theorem up_op {rd : DR2} {rv : R2} (h : Up2 X.K rd rv) : ∀ σ H Q, up X.K (dOp rd ta tb) σ H Q → tOp rv (up X.K ta) (up X.K tb) σ H Q := fun σ H Q ⟨δ, μ, Qd, rs, rm, q, w⟩ =>
  up_use rs rm q fun x μ1 v H1 e1 m1 r1 q1 => up_use (rs.mono e1) m1 q1 fun y μ2 u H2 e2 m2 r2 q2 => h x y μ2 Qd v u H2 Q m2 (r1.mono e2) r2 q2 (w.step (e1.trans e2))
theorem d_op {op : Operator} {rd : DR2} {rv : R2} (ho : OpR X (binaryOp op) rv) (h : Up2 X.K rd rv) (ha : DE X a ta) (hb : DE X b tb) : DE X (.BinOp a op b pos) (dOp rd ta tb) := pe_imp (pe_op ho ha hb) (up_op h)
theorem d_cmp {op : CmpOp} {rd : DR2} {rv : R2} (ho : OpR X (compareOp op) rv) (h : Up2 X.K rd rv) (ha : DE X a ta) (hb : DE X b tb) (hm : behindInMarks op b = false) : DE X (.Compare a [op] [b] pos) (dOp rd ta tb) := pe_imp (pe_cmpR ho ha hb hm) (up_op h)
theorem d_ix {rd : DR2} {rv : R2} (ho : IxR X rv) (h : Up2 X.K rd rv) (ha : DE X a ta) (hb : DE X b tb) (hs : PlainIx b) : DE X (.Subscript a b pos) (dOp rd ta tb) := pe_imp (pe_ix ho ha hb hs) (up_op h)
theorem d_un {op : UnaryOp} {rd : DR1} {rv : V → Hp → VK → Prop} (ho : UnR X (unaryOp op) rv) (h : Up1 X.K rd rv) (ha : DE X a ta) : DE X (.UnaryOp op a pos) (dUn rd ta) :=
  pe_imp (pe_un ho ha) fun σ H Q ⟨δ, μ, Qd, rs, rm, q, w⟩ => up_use rs rm q fun x μ1 v H1 e1 m1 r1 q1 => h x μ1 Qd v H1 Q m1 r1 q1 (w.step e1)

/-- ints in, under C, data out -/
def rdI (C : Int → Int → Prop) (g : Int → Int → PyData) : DR2 := fun x y μ Q => match x, y with
  | .d (.int i), .d (.int j) => C i j ∧ Q (.d (g i j)) μ
  | _, _ => False
def rdI0 (g : Int → Int → PyData) : DR2 := fun x y μ Q => match x, y with
  | .d (.int i), .d (.int j) => Q (.d (g i j)) μ
  | _, _ => False
def rdU (g : Int → PyData) : DR1 := fun x μ Q => match x with
  | .d (.int i) => Q (.d (g i)) μ
  | _ => False
/-- the bits together within the line -/
def Bits (i j : Int) : Prop := Builtin.Int.intBits i + Builtin.Int.intBits j < 100000000
theorem Bits.ok {i j : Int} (h : Bits i j) : IntMulOk i j := by
  unfold Bits at h
  have e : bitsLine = 134217728 := by decide
  unfold IntMulOk
  intro z
  rw [Bool.and_eq_true] at z
  have z2 := z.2
  unfold Builtin.Int.intTooBig at z2
  have z3 := of_decide_eq_true z2
  rw [e] at z3
  omega
theorem op_mulB : OpR X (binaryOp .Mult) (rI Bits fun i j => .int (i * j)) := opI fun _ _ _ _ _ _ _ hc q => mul_int q hc.ok
def CPowB (i j : Int) : Prop := 0 ≤ j ∧ (Builtin.Int.intBits i : Int) * j ≤ 2 ^ 27
theorem op_powB : OpR X (binaryOp .Pow) (rI CPowB fun i j => .int (i ^ j.toNat)) := opI fun _ _ _ _ _ _ _ hc q => pow_int hc.1 hc.2 q
abbrev cLt : DR2 := rdI0 fun i j => .bool (decide (i < j))
abbrev cLe : DR2 := rdI0 fun i j => .bool (decide (i ≤ j))
abbrev cGt : DR2 := rdI0 fun i j => .bool (decide (j < i))
abbrev cGe : DR2 := rdI0 fun i j => .bool (decide (j ≤ i))
/-- a < b < c -/
def dChain (r r' : DR2) (ta tb tc : DT) : DT := fun δ μ Q => ta δ μ fun x μ1 => tb δ μ1 fun y μ2 => r x y μ2 fun z μ3 => match z with
  | .d (.bool true) => tc δ μ3 fun w μ4 => r' y w μ4 Q
  | .d (.bool false) => Q (.d (.bool false)) μ3
  | _ => False
theorem d_chain {op op' : CmpOp} {rd rd' : DR2} {rv rv' : R2} (ho : OpR X (compareOp op) rv) (h : Up2 X.K rd rv) (ho' : OpR X (compareOp op') rv') (h' : Up2 X.K rd' rv') (ha : DE X a ta) (hb : DE X b tb) (hc : DE X c tc) (hm : lastMarks [op, op'] [b, c] = false := by with_unfolding_all rfl) :
    DE X (.Compare a [op, op'] [b, c] pos) (dChain rd rd' ta tb tc) := pe_imp (pe_chain ho ho' ha hb hc hm) fun σ H Q ⟨δ, μ, Qd, rs, rm, q, w⟩ =>
  up_use rs rm q fun x μ1 v H1 e1 m1 r1 q1 => up_use (rs.mono e1) m1 q1 fun y μ2 u H2 e2 m2 r2 q2 => h x y μ2 _ v u H2 _ m2 (r1.mono e2) r2 q2 fun z μ3 p H3 e3 m3 r3 q3 => by
    split at q3
    · cases r3
      exact ⟨true, rfl, by
        rw [if_pos rfl]
        exact up_use (rs.mono (e1.trans (e2.trans e3))) m3 q3 fun k μ4 w' H4 e4 m4 r4 q4 => h' y k μ4 Qd u w' H4 Q m4 (r2.mono (e3.trans e4)) r4 q4 (w.step (e1.trans (e2.trans (e3.trans e4))))⟩
    · cases r3
      refine ⟨false, rfl, ?_⟩
      rw [if_neg Bool.false_ne_true]
      exact w (.d (.bool false)) μ3 _ H3 (e1.trans (e2.trans e3)) m3 (Da.bl false) q3
    · exact q3.elim

def dB (t : DT) : DTT := fun δ μ Q => t δ μ fun x μ1 => match x with
  | .d (.bool b) => Q b μ1
  | _ => False
theorem c_cmp {op : CmpOp} {rd : DR2} {rv : R2} (ho : OpR X (compareOp op) rv) (h : Up2 X.K rd rv) (ha : DE X a ta) (hb : DE X b tb) (hm : behindInMarks op b = false) : DC X (.Compare a [op] [b] pos) (dB (dOp rd ta tb)) :=
  pt_imp (pt_cmpR ho ha hb hm) fun σ H Q ⟨δ, μ, Qd, rs, rm, q, w⟩ => up_op h σ H _ ⟨δ, μ, _, rs, rm, q, fun x μ1 v H1 e1 m1 r1 q1 => by
    split at q1
    · cases r1
      exact ⟨_, rfl, w _ μ1 H1 e1 m1 q1⟩
    · exact q1.elim⟩
variable {rest : List Expr}
variable {tA tB : DTT}
def dAnd (t u : DTT) : DTT := fun δ μ Q => t δ μ fun b μ1 => if b = true then u δ μ1 Q else Q false μ1
def dOr (t u : DTT) : DTT := fun δ μ Q => t δ μ fun b μ1 => if b = true then Q true μ1 else u δ μ1 Q
def dNot (t : DTT) : DTT := fun δ μ Q => t δ μ fun b μ1 => Q (!b) μ1
theorem cw_and1 (ha : DC X a tA) : DCW X (.BoolOp .And [a] pos) tA := pw_and1 ha
theorem cw_or1 (ha : DC X a tA) : DCW X (.BoolOp .Or [a] pos) tA := pw_or1 ha
theorem cw_and (ha : DC X a tA) (hb : DCW X (.BoolOp .And (b :: rest) pos) tB) : DCW X (.BoolOp .And (a :: b :: rest) pos) (dAnd tA tB) := pw_imp (pw_and ha hb) fun σ H Q ⟨δ, μ, Qd, rs, rm, q, w⟩ =>
  upT_use rs rm q fun c μ1 H1 e1 m1 q1 => by
    cases c with
    | true => rw [if_pos rfl] at q1 ⊢; exact upT_use (rs.mono e1) m1 q1 fun d μ2 H2 e2 m2 q2 => w d μ2 H2 (e1.trans e2) m2 q2
    | false => rw [if_neg Bool.false_ne_true] at q1 ⊢; exact w _ μ1 H1 e1 m1 q1
theorem cw_or (ha : DC X a tA) (hb : DCW X (.BoolOp .Or (b :: rest) pos) tB) : DCW X (.BoolOp .Or (a :: b :: rest) pos) (dOr tA tB) := pw_imp (pw_or ha hb) fun σ H Q ⟨δ, μ, Qd, rs, rm, q, w⟩ =>
  upT_use rs rm q fun c μ1 H1 e1 m1 q1 => by
    cases c with
    | true => rw [if_pos rfl] at q1 ⊢; exact w _ μ1 H1 e1 m1 q1
    | false => rw [if_neg Bool.false_ne_true] at q1 ⊢; exact upT_use (rs.mono e1) m1 q1 fun d μ2 H2 e2 m2 q2 => w d μ2 H2 (e1.trans e2) m2 q2
theorem c_w (h : DCW X e tA) : DC X e tA := h.pt
theorem c_not (ha : DC X a tA) : DC X (.UnaryOp .Not a pos) (dNot tA) := pt_imp (pt_not ha) fun σ H Q ⟨δ, μ, Qd, rs, rm, q, w⟩ =>
  upT_use rs rm q fun c μ1 H1 e1 m1 q1 => w _ μ1 H1 e1 m1 q1
/-- and, or, not as values (all True or False but the last) -/
def dAndV (ta tb : DT) : DT := fun δ μ Q => ta δ μ fun x μ1 => match x with
  | .d (.bool true) => tb δ μ1 Q
  | .d (.bool false) => Q (.d (.bool false)) μ1
  | _ => False
def dOrV (ta tb : DT) : DT := fun δ μ Q => ta δ μ fun x μ1 => match x with
  | .d (.bool true) => Q (.d (.bool true)) μ1
  | .d (.bool false) => tb δ μ1 Q
  | _ => False
def dNotV (ta : DT) : DT := fun δ μ Q => ta δ μ fun x μ1 => match x with
  | .d (.bool b) => Q (.d (.bool (!b))) μ1
  | _ => False
theorem d_one {op} (h : DE X a ta) : DE X (.BoolOp op [a] pos) ta := pe_one h
def dIf (t : DTT) (ta tb : DT) : DT := fun δ μ Q => t δ μ fun c μ1 => if c = true then ta δ μ1 Q else tb δ μ1 Q
theorem d_if (hc : DC X c tA) (ha : DE X a ta) (hb : DE X b tb) : DE X (.IfExp c a b pos) (dIf tA ta tb) := pe_imp (pe_ifExp hc ha hb) fun σ H Q ⟨δ, μ, Qd, rs, rm, q, w⟩ =>
  upT_use rs rm q fun x μ1 H1 e1 m1 q1 => by
    cases x with
    | true => rw [if_pos rfl] at q1 ⊢; exact up_use (rs.mono e1) m1 q1 (w.step e1)
    | false => rw [if_neg Bool.false_ne_true] at q1 ⊢; exact up_use (rs.mono e1) m1 q1 (w.step e1)
/-- is None -/
def isNone : PyData → Bool
  | .none => true
  | _ => false
def rdIsN : DR2 := fun x y μ Q => match x, y with
  | .d x, .d .none => Q (.d (.bool (isNone x))) μ
  | _, _ => False
def rdNotN : DR2 := fun x y μ Q => match x, y with
  | .d x, .d .none => Q (.d (.bool (!isNone x))) μ
  | _, _ => False

def aNil : DTA := fun _ μ Q => Q [] μ
def aCons (ta : DT) (tr : DTA) : DTA := fun δ μ Q => ta δ μ fun x μ1 => tr δ μ1 fun xs μ2 => Q (x :: xs) μ2
variable {es : List Expr} {tr : DTA}
theorem a_nil : DA X [] aNil := pa_imp pa_nil fun σ H Q ⟨δ, μ, Qd, rs, rm, q, w⟩ => w [] μ [] H (.refl _ _) rm .nil q
theorem a_cons (ha : DE X e te) (hr : DA X es tr) (hs : starEach (e :: es) X.env = (false, eval e X.env) :: starEach es X.env := by rfl) : DA X (e :: es) (aCons te tr) :=
  pa_imp (pa_cons ha hr hs) fun σ H Q ⟨δ, μ, Qd, rs, rm, q, w⟩ => up_use rs rm q fun x μ1 v H1 e1 m1 r1 q1 => upA_use (rs.mono e1) m1 q1 fun xs μ2 vs H2 e2 m2 r2 q2 =>
    w (x :: xs) μ2 (v :: vs) H2 (e1.trans e2) m2 (.cons (r1.mono e2) r2) q2
/-- all data -/
def allD : List DV → Option (List PyData)
  | [] => some []
  | .d x :: r => (allD r).map (x :: ·)
  | .cell _ :: _ => none
theorem allD_da {K : PySem.W.Frag} {μ : Mu} {H : Hp} : ∀ {ds : List DV} {vs : List V} {xs : List PyData}, allD ds = some xs → RVs K μ H vs ds → DaAll K (hid μ H) vs xs
  | [], _, _, h, .nil => by cases h; exact .nil
  | .d x :: r, _, _, h, .cons a t => by
    simp only [allD, Option.map_eq_some_iff] at h
    obtain ⟨y, h1, rfl⟩ := h
    exact .cons a (allD_da h1 t)
  | .cell _ :: _, _, _, h, _ => by cases h
def dTup (t : DTA) : DT := fun δ μ Q => t δ μ fun ds μ1 => match allD ds with
  | some xs => xs.length ≤ 1000 ∧ Q (.d (.tuple xs)) μ1
  | none => False
def dLst (t : DTA) : DT := fun δ μ Q => t δ μ fun ds μ1 => match allD ds with
  | some xs => xs.length ≤ 1000 ∧ Q (.d (.list xs)) μ1
  | none => False
/-- a list that will be changed -/
def dLstC (t : DTA) : DT := fun δ μ Q => t δ μ fun ds μ1 => match allD ds with
  | some xs => xs.length ≤ 1000 ∧ ∀ p, μ1 p = none → Q (.cell p) (put μ1 p (.lst xs))
  | none => False
theorem small_line {n : Nat} (h : n ≤ 1000) : n ≤ sizeLine := Nat.le_of_lt (small1000 h)
/-- the wish behind a new object that is data -/
theorem wk_tup {K : PySem.W.Frag} {μ : Mu} {H : Hp} {Qd : DK} {Q : VK} {vs : List V} {xs : List PyData} (w : Wk K μ H Qd Q) (m : RM K μ H) (r : DaAll K (hid μ H) vs xs) (q : Qd (.d (.tuple xs)) μ) : NewT H vs Q := fun p o hp t =>
  w (.d (.tuple xs)) μ _ _ (ext_new hp) (m.new hp) (.tup (.inl ⟨o, hid_new m hp, t⟩) (r.mono (ext_new hp))) q
theorem wk_lst {K : PySem.W.Frag} {μ : Mu} {H : Hp} {Qd : DK} {Q : VK} {vs : List V} {xs : List PyData} (w : Wk K μ H Qd Q) (m : RM K μ H) (r : DaAll K (hid μ H) vs xs) (q : Qd (.d (.list xs)) μ) {p : Addr} (hp : H p = none) : Q (.ref p) (upd H p (.lst vs)) :=
  w (.d (.list xs)) μ _ _ (ext_new hp) (m.new hp) (.lst (.of (hid_new m hp)) (r.mono (ext_new hp))) q
theorem wk_lstC {K : PySem.W.Frag} {μ : Mu} {H : Hp} {Qd : DK} {Q : VK} {vs : List V} {xs : List PyData} (w : Wk K μ H Qd Q) (m : RM K μ H) (r : DaAll K (hid μ H) vs xs) {p : Addr} (hp : H p = none) (q : Qd (.cell p) (put μ p (.lst xs))) : Q (.ref p) (upd H p (.lst vs)) :=
  w (.cell p) (put μ p (.lst xs)) _ _ (ext_cell hp) (m.cell (c := .lst xs) hp ⟨vs, upd_same, r.mono (ext_cell hp)⟩) rfl q
theorem d_tup {x1} (h : DA X es tr) : DE X (.Tuple es x1 pos) (dTup tr) := pe_imp (pt_tup h) fun σ H Q ⟨δ, μ, Qd, rs, rm, q, w⟩ => upA_use rs rm q fun xs μ1 vs H1 e1 m1 r1 q1 => by
  split at q1
  · next ys e =>
    have r := allD_da e r1
    exact ⟨small_line (by rw [r.length]; exact q1.1), wk_tup (w.step e1) m1 r q1.2⟩
  · exact q1.elim
theorem d_lst (h : DA X es tr) : DE X (.List es pos) (dLst tr) := pe_imp (pe_lst h) fun σ H Q ⟨δ, μ, Qd, rs, rm, q, w⟩ => upA_use rs rm q fun xs μ1 vs H1 e1 m1 r1 q1 => by
  split at q1
  · next ys e =>
    have r := allD_da e r1
    exact ⟨small_line (by rw [r.length]; exact q1.1), fun p hp => wk_lst (w.step e1) m1 r q1.2 hp⟩
  · exact q1.elim
theorem d_lstC (h : DA X es tr) : DE X (.List es pos) (dLstC tr) := pe_imp (pe_lst h) fun σ H Q ⟨δ, μ, Qd, rs, rm, q, w⟩ => upA_use rs rm q fun xs μ1 vs H1 e1 m1 r1 q1 => by
  split at q1
  · next ys e =>
    have r := allD_da e r1
    exact ⟨small_line (by rw [r.length]; exact q1.1), fun p hp => wk_lstC (w.step e1) m1 r hp (q1.2 p (m1.free hp))⟩
  · exact q1.elim

abbrev DRA := List DV → Mu → DK → Prop
def dCall (r : DRA) (t : DTA) : DT := fun δ μ Q => t δ μ fun ds μ1 => r ds μ1 Q
def UpA (K : PySem.W.Frag) (rd : DRA) (rv : List V → Hp → VK → Prop) : Prop := ∀ ds μ Qd vs H Q, RM K μ H → RVs K μ H vs ds → rd ds μ Qd → Wk K μ H Qd Q → rv vs H Q
variable {x : Str} {p : Pos} {id T : String} {rd : DRA} {rv : List V → Hp → VK → Prop}
theorem up_call (h : UpA X.K rd rv) : ∀ σ H Q, up X.K (dCall rd tr) σ H Q → tCB rv (upA X.K tr) σ H Q := fun σ H Q ⟨δ, μ, Qd, rs, rm, q, w⟩ =>
  upA_use rs rm q fun ds μ1 vs H1 e1 m1 r1 q1 => h ds μ1 Qd vs H1 Q m1 r1 q1 (w.step e1)
theorem d_callB (hc : CallR X (.builtin id) rv) (h : UpA X.K rd rv) (hg : Gl X x) (hm : X.mg x = none) (hv : bootBuiltins x = some (.builtin id)) (ha : DA X (e :: es) tr) (hn : x ≠ "__name__" := by decide) (hdb : (x == ("__debug__" : Str)) = false := by decide)
    (he : starEach (e :: es) X.env = (false, eval e X.env) :: starEach es X.env := by rfl) (hpl : (backTo pos (starEach es X.env)).any (·.1) = false := by rfl) : DE X (.Call (.Name x p) (e :: es) [] pos) (dCall rd tr) :=
  pe_imp (pe_callB hc hg hm hv ha hn hdb he hpl) (up_call h)
theorem d_callTy (hc : CallR X (.type T) rv) (h : UpA X.K rd rv) (hg : Gl X x) (hm : X.mg x = none) (hv : bootBuiltins x = some (.type T)) (ha : DA X (e :: es) tr) (hn : x ≠ "__name__" := by decide) (hdb : (x == ("__debug__" : Str)) = false := by decide)
    (he : starEach (e :: es) X.env = (false, eval e X.env) :: starEach es X.env := by rfl) (hpl : (backTo pos (starEach es X.env)).any (·.1) = false := by rfl) : DE X (.Call (.Name x p) (e :: es) [] pos) (dCall rd tr) :=
  pe_imp (pe_callTy hc hg hm hv ha hn hdb he hpl) (up_call h)
end
end DL

namespace DL
open PySem PySem.Spec PyProof.Rows L2
section
variable {X : Cx} {pos : Pos} {a b c e : Expr} {ta tb tc te : DT} {K : PySem.W.Frag}

def rdEq : DR2 := fun x y μ Q => match x, y with
  | .d (.int i), .d (.int j) => Q (.d (.bool (decide (i = j)))) μ
  | .d (.str i), .d (.str j) => Q (.d (.bool (decide (i = j)))) μ
  | .d (.bool i), .d (.bool j) => Q (.d (.bool (decide (i = j)))) μ
  | _, _ => False
def rdNe : DR2 := fun x y μ Q => match x, y with
  | .d (.int i), .d (.int j) => Q (.d (.bool (!decide (i = j)))) μ
  | .d (.str i), .d (.str j) => Q (.d (.bool (!decide (i = j)))) μ
  | .d (.bool i), .d (.bool j) => Q (.d (.bool (!decide (i = j)))) μ
  | _, _ => False
theorem dec_str {i j : Str} : decide (V.str i = V.str j) = decide (i = j) := by
  rw [Bool.eq_iff_iff]; simp
theorem dec_int2 {i j : Int} : decide (V.int i = V.int j) = decide (i = j) := by
  rw [Bool.eq_iff_iff]; simp
theorem dec_bl2 {i j : Bool} : decide (V.bl i = V.bl j) = decide (i = j) := by
  rw [Bool.eq_iff_iff]; simp
mutual
theorem Da.dp {H : Hp} : ∀ {v : V} {d : PyData}, Da K H v d → d.canLay0 = true → Dp K H v d
  | _, _, .non, _ => .non
  | _, _, .bl b, _ => .bl b
  | _, _, .int i, _ => .int i
  | _, _, .str x, _ => .str x
  | _, _, .lst (ds := ds) h r, c => .lst h (DaAll.dp r (by simpa [PyData.canLay0] using c))
  | _, _, .tup (ds := ds) h r, c => .tup h.t (DaAll.dp r (by simpa [PyData.canLay0] using c))
  | _, _, .dct h r, c => by simp [PyData.canLay0] at c
theorem DaAll.dp {H : Hp} : ∀ {vs : List V} {ds : List PyData}, DaAll K H vs ds → PyData.canLayAll0 ds = true → DpAll K H vs ds
  | _, _, .nil, _ => .nil
  | _, _, .cons h t, c => by
    simp only [PyData.canLayAll0, Bool.and_eq_true] at c
    exact .cons (Da.dp h c.1) (DaAll.dp t c.2)
end
def intsOf : List PyData → Option (List Int)
  | [] => some []
  | .int i :: r => (intsOf r).map (i :: ·)
  | _ :: _ => none
theorem intsOf_map : ∀ (ns : List Int), intsOf (ns.map PyData.int) = some ns
  | [] => rfl
  | n :: ns => by simp [intsOf, intsOf_map ns]
theorem intsOf_some : ∀ {ds : List PyData} {ns : List Int}, intsOf ds = some ns → ds = ns.map PyData.int
  | [], _, h => by cases h; rfl
  | d :: ds, ns, h => by
    cases d <;> simp only [intsOf, Option.map_eq_some_iff, reduceCtorEq] at h
    obtain ⟨ms, h1, rfl⟩ := h
    rw [intsOf_some h1]; rfl
/-- the items of a sequence -/
def seqOf (μ : Mu) : DV → Option (List PyData)
  | .d (.list xs) => some xs
  | .d (.tuple xs) => some xs
  | .cell a => match μ a with
    | some (.lst xs) => some xs
    | _ => none
  | _ => none
def rdIn : DR2 := fun x y μ Q => match x, (seqOf μ y).bind intsOf with
  | .d (.int i), some ns => Q (.d (.bool (decide (i ∈ ns)))) μ
  | _, _ => False
def rdIx : DR2 := fun x y μ Q => match seqOf μ x, y with
  | some xs, .d (.int i) => match atI xs i with
    | some d => Q (.d d) μ
    | none => False
  | _, _ => False
theorem atI_da {H : Hp} {vs : List V} {ds : List PyData} (r : DaAll K H vs ds) {i : Int} {d : PyData} (h : atI ds i = some d) : ∃ v, atI vs i = some v ∧ Da K H v d := by
  unfold atI at h ⊢
  rw [Option.bind_eq_some_iff] at h
  obtain ⟨j, h1, h2⟩ := h
  obtain ⟨v, h3, h4⟩ := r.get h2
  exact ⟨v, by rw [r.length, h1]; exact h3, h4⟩
/-- an optional bound -/
def dNo : DTP := fun _ μ Q => Q none μ
def dPart (t : DT) : DTP := fun δ μ Q => t δ μ fun x μ1 => match x with
  | .d (.int i) => Q (some i) μ1
  | _ => False
abbrev TPo := L2.St → Hp → (Option Int → Hp → Prop) → Prop
def upP (K : PySem.W.Frag) (t : DTP) : TPo := fun σ H Q => ∃ δ μ Qd, RS K μ H σ δ ∧ RM K μ H ∧ t δ μ Qd ∧ ∀ o μ' H', Ext μ H μ' H' → RM K μ' H' → Qd o μ' → Q o H'
abbrev DPO (X : Cx) (o : Option Expr) (t : DTP) : Prop := PO X o (upP X.K t)
theorem po_imp {o : Option Expr} {t t' : TPo} (h : PO X o t) (w : ∀ σ H Q, t' σ H Q → t σ H Q) : PO X o t' := ⟨fun pins s σ H Q I q => h.run pins s σ H Q I (w _ _ _ q)⟩
theorem o_no : DPO X none dNo := po_imp po_none fun σ H Q ⟨δ, μ, Qd, rs, rm, q, w⟩ => w none μ H (.refl _ _) rm q
theorem o_some (h : DE X e te) : DPO X (some e) (dPart te) := po_imp (po_some h) fun σ H Q ⟨δ, μ, Qd, rs, rm, q, w⟩ => up_use rs rm q fun x μ1 v H1 e1 m1 r1 q1 => by
  split at q1
  · cases r1; exact ⟨_, rfl, w _ μ1 H1 e1 m1 q1⟩
  · exact q1.elim
end
end DL

namespace DL
open PySem PySem.Spec PyProof.Rows L2
section
variable {X : Cx} {pos : Pos} {a b c e : Expr} {ta tb tc te : DT} {K : PySem.W.Frag}

def cutD (xs : List PyData) (lo hi : Option Int) : List PyData := (xs.drop (HT.sIx xs.length 0 lo)).take (HT.sIx xs.length xs.length hi - HT.sIx xs.length 0 lo)
theorem cut_da {H : Hp} {vs : List V} {ds : List PyData} (r : DaAll K H vs ds) (lo hi : Option Int) : DaAll K H (cutV vs lo hi) (cutD ds lo hi) := by
  unfold cutV cutD
  rw [r.length]
  exact (r.drop _).take _
theorem cut_whole {H : Hp} {vs : List V} {ds : List PyData} (r : DaAll K H vs ds) {lo hi : Option Int} (h : HT.sIx vs.length 0 lo = 0 ∧ HT.sIx vs.length vs.length hi = vs.length) : cutD ds lo hi = ds := by
  rw [r.length] at h
  unfold cutD
  rw [h.1, h.2]
  simp
abbrev DRS := DV → Option Int → Option Int → Mu → DK → Prop
def dSl (te : DT) (tl th : DTP) : DT := fun δ μ Q => te δ μ fun x μ1 => tl δ μ1 fun l μ2 => th δ μ2 fun u μ3 => match x with
  | .d (.list xs) => Q (.d (.list (cutD xs l u))) μ3
  | .d (.tuple xs) => Q (.d (.tuple (cutD xs l u))) μ3
  | .cell a => match μ3 a with
    | some (.lst xs) => Q (.d (.list (cutD xs l u))) μ3
    | _ => False
  | _ => False
theorem d_slice {lo hi : Option Expr} {tl th : DTP} {p2 : Pos} (he : DE X e te) (hl : DPO X lo tl) (hu : DPO X hi th) : DE X (.Subscript e (.Slice lo hi none p2) pos) (dSl te tl th) :=
  pe_imp (pe_slice (SlR.or sl_list slP_tup) he hl hu) fun σ H Q ⟨δ, μ, Qd, rs, rm, q, w⟩ =>
    up_use rs rm q fun x μ1 v H1 e1 m1 r1 q1 => ⟨δ, μ1, _, rs.mono e1, m1, q1, fun l μ2 H2 e2 m2 q2 => ⟨δ, μ2, _, rs.mono (e1.trans e2), m2, q2, fun u μ3 H3 e3 m3 q3 => by
      have r3 := r1.mono (e2.trans e3)
      have w3 := w.step (e1.trans (e2.trans e3))
      have lst : ∀ {p : Addr} {vs : List V} {xs : List PyData}, SqL X.K H3 p vs → DaAll X.K (hid μ3 H3) vs xs → Qd (.d (.list (cutD xs l u))) μ3 → rSlL X.K (.ref p) l u H3 Q := fun {p vs xs} s t q => ⟨p, vs, rfl, s, fun p' hp => wk_lst w3 m3 (cut_da t l u) q hp⟩
      split at q3
      · next xs =>
        cases (show Da X.K (hid μ3 H3) v (.list xs) from r3) with
        | lst s t => exact .inl (lst (unhid.seq s) t q3)
      · next xs =>
        cases (show Da X.K (hid μ3 H3) v (.tuple xs) from r3) with
        | @tup p vs _ s t =>
          refine .inr ⟨p, vs, rfl, same_seqT unhid s, fun hw => ?_, fun _ => wk_tup w3 m3 (cut_da t l u) q3⟩
          rw [cut_whole t hw] at q3
          exact w3 (.d (.tuple xs)) μ3 _ H3 (.refl _ _) m3 (Da.tup s t) q3
      · next a =>
        split at q3
        · next xs e =>
          obtain ⟨vs, h1, h2⟩ := m3 a _ e
          cases (show v = .ref a from r3)
          exact .inl (lst (.of h1) h2 q3)
        · exact q3.elim
      · exact q3.elim⟩⟩

variable {es : List Expr} {tr : DTA}
def rdLen : DRA := fun ds μ Q => match ds with
  | [x] => match seqOf μ x with
    | some xs => Q (.d (.int xs.length)) μ
    | none => False
  | _ => False
def rdTuple : DRA := fun ds μ Q => match ds with
  | [x] => match seqOf μ x with
    | some xs => Q (.d (.tuple xs)) μ
    | none => False
  | _ => False
def rdList : DRA := fun ds μ Q => match ds with
  | [x] => match seqOf μ x with
    | some xs => Q (.d (.list xs)) μ
    | none => False
  | _ => False
/-- ints of a list, for sum -/
def rdSum : DRA := fun ds μ Q => match ds with
  | [.d (.list xs)] => match intsOf xs with
    | some ns => Q (.d (.int ns.sum)) μ
    | none => False
  | _ => False
def boolsOf : List PyData → Option (List Bool)
  | [] => some []
  | .bool i :: r => (boolsOf r).map (i :: ·)
  | _ :: _ => none
theorem boolsOf_map : ∀ (ns : List Bool), boolsOf (ns.map PyData.bool) = some ns
  | [] => rfl
  | n :: ns => by simp [boolsOf, boolsOf_map ns]
theorem boolsOf_some : ∀ {ds : List PyData} {ns : List Bool}, boolsOf ds = some ns → ds = ns.map PyData.bool
  | [], _, h => by cases h; rfl
  | d :: ds, ns, h => by
    cases d <;> simp only [boolsOf, Option.map_eq_some_iff, reduceCtorEq] at h
    obtain ⟨ms, h1, rfl⟩ := h
    rw [boolsOf_some h1]; rfl
theorem bools_inv {H : Hp} : ∀ {ns : List Bool} {vs : List V}, DaAll K H vs (ns.map PyData.bool) → vs = ns.map V.bl
  | [], _, h => by cases h; rfl
  | n :: ns, _, h => by
    cases h with
    | cons a t => cases a; rw [bools_inv t]; rfl
def rdAll : DRA := fun ds μ Q => match ds with
  | [.d (.list xs)] => match boolsOf xs with
    | some bs => Q (.d (.bool (bs.all id))) μ
    | none => False
  | _ => False
def rdAny : DRA := fun ds μ Q => match ds with
  | [.d (.list xs)] => match boolsOf xs with
    | some bs => Q (.d (.bool (bs.any id))) μ
    | none => False
  | _ => False
def rdAbs : DRA := fun ds μ Q => match ds with
  | [.d (.int i)] => Q (.d (.int (if i < 0 then -i else i))) μ
  | _ => False
def rdMax2 : DRA := fun ds μ Q => match ds with
  | [.d (.int i), .d (.int j)] => Q (.d (.int (if j > i then j else i))) μ
  | _ => False
def rdMin2 : DRA := fun ds μ Q => match ds with
  | [.d (.int i), .d (.int j)] => Q (.d (.int (if j < i then j else i))) μ
  | _ => False
def rdInt : DRA := fun ds μ Q => match ds with
  | [.d (.int i)] => Q (.d (.int i)) μ
  | [.d (.bool k)] => Q (.d (.int (if k then 1 else 0))) μ
  | _ => False
def rdStr : DRA := fun ds μ Q => match ds with
  | [.d (.int i)] => i.natAbs.log2 < 1920 ∧ Q (.d (.str (toString i))) μ
  | _ => False
def kindOf : PyData → String
  | .none => "NoneType"
  | .bool _ => "bool"
  | .int _ => "int"
  | .str _ => "str"
  | .list _ => "list"
  | .tuple _ => "tuple"
  | .dict _ => "dict"
theorem da_ty {H : Hp} {v : V} {d : PyData} (r : Da K H v d) : TyX K H v (.type (kindOf d)) := by
  cases r with
  | non => exact .base .non
  | bl b => exact .base (.bl b)
  | int i => exact .base (.int i)
  | str x => exact .base (.str x)
  | lst s t =>
    rcases s with (s | ⟨o, s⟩) | ⟨o, _, _, h1, h2, _⟩
    · exact .base (.lst s)
    · exact .base (.frz s)
    · exact .kList h1 h2
  | tup s t =>
    rcases s with ⟨o, s, _⟩ | ⟨o, _, _, h1, h2, _⟩
    · exact .fTuple s
    · exact .kTuple h1 h2.cl
  | dct s t =>
    rcases s with s | ⟨o, s⟩
    · exact .base (.dK s)
    · exact .fDict s
def dIsi (T : String) (te : DT) : DT := fun δ μ Q => te δ μ fun x μ1 => match x with
  | .d d => Q (.d (.bool ((kitB (kindOf d) T).getD false))) μ1
  | _ => False
theorem kit_all (T : String) (hT : ∀ t ∈ ["NoneType", "bool", "int", "str", "list", "tuple", "dict"], (kitB t T).isSome = true) (d : PyData) : PySem.W.kitOne K (.type (kindOf d)) (.type T) = some ((kitB (kindOf d) T).getD false) := by
  refine kit_ty ?_
  have h : (kitB (kindOf d) T).isSome = true := hT _ (by cases d <;> simp [kindOf])
  cases e : kitB (kindOf d) T with
  | none => rw [e] at h; cases h
  | some b => rfl
theorem d_isi {T : String} {xi xt : Str} {p pt : Pos} (hT : ∀ t ∈ ["NoneType", "bool", "int", "str", "list", "tuple", "dict"], (kitB t T).isSome = true) (hg : Gl X xi) (hm : X.mg xi = none) (hv : bootBuiltins xi = some (.builtin "isinstance"))
    (hgt : Gl X xt) (hmt : X.mg xt = none) (hvt : bootBuiltins xt = some (.type T)) (ha : DE X a ta) (hn : xi ≠ "__name__" := by decide) (hdb : (xi == ("__debug__" : Str)) = false := by decide) (hnt : xt ≠ "__name__" := by decide) (hdbt : (xt == ("__debug__" : Str)) = false := by decide)
    (he : starEach [a, .Name xt pt] X.env = (false, eval a X.env) :: starEach [.Name xt pt] X.env := by rfl) (hpl : (backTo pos (starEach [.Name xt pt] X.env)).any (·.1) = false := by rfl) (hs1 : starEach [.Name xt pt] X.env = (false, eval (.Name xt pt) X.env) :: starEach [] X.env := by rfl) :
    DE X (.Call (.Name xi p) [a, .Name xt pt] [] pos) (dIsi T ta) :=
  pe_imp (pe_callB call_isi hg hm hv (pa_cons ha (pa_cons (pe_bltn (v := .ty T) hgt hmt hvt rfl hnt hdbt) pa_nil hs1) he) hn hdb he hpl) fun σ H Q ⟨δ, μ, Qd, rs, rm, q, w⟩ =>
    up_use rs rm q fun x μ1 v H1 e1 m1 r1 q1 => by
      split at q1
      · next d =>
        exact ⟨v, .ty T, .type (kindOf d), .type T, _, rfl, .ty T, da_ty (Da.mono unhid r1), kit_all T hT d, w (.d (.bool _)) μ1 _ H1 e1 m1 (Da.bl _) q1⟩
      · exact q1.elim
end
end DL

namespace DL
open PySem PySem.Spec PyProof.Rows L2

mutual
def noList : PyData → Bool
  | .list _ => false
  | .tuple xs => noListAll xs
  | .dict kvs => noListKv kvs
  | _ => true
def noListAll : List PyData → Bool
  | [] => true
  | x :: xs => noList x && noListAll xs
def noListKv : List (PyData × PyData) → Bool
  | [] => true
  | (_, v) :: r => noList v && noListKv r
end
theorem noListKv_vals : ∀ (ks : List PyData) (ds : List PyData), ks.length = ds.length → noListKv (ks.zip ds) = true → noListAll ds = true
  | [], [], _, _ => by simp [noListAll]
  | k :: ks, d :: ds, hl, h => by
    simp only [List.zip_cons_cons, noListKv, Bool.and_eq_true] at h
    simp only [noListAll, Bool.and_eq_true]
    exact ⟨h.1, noListKv_vals ks ds (by simpa using hl) h.2⟩
  | [], _ :: _, hl, _ => by simp at hl
  | _ :: _, [], hl, _ => by simp at hl
theorem mix_keys {P : Program} {w : World} {k : Key} {v : Value} (h : (mixKind P w).is k v = true) : RelV (kV k) v := by
  rcases keyIs_shape h with ⟨i, t, rfl, rfl⟩ | ⟨x, t, rfl, rfl⟩
  · exact ⟨t, rfl⟩
  · exact ⟨t, rfl⟩
theorem reads_key {h : Heap} {k : Key} {v : Value} (r : RelV (kV k) v) : Reads h v (kD k) [] := by
  cases k with
  | inl i => obtain ⟨t, rfl⟩ := r; exact .int i t
  | inr x => obtain ⟨t, rfl⟩ := r; exact .str x t
theorem pairs_keys {P : Program} {w : World} {h : Heap} : ∀ {es : List DictEntry} {kvs : List (Key × Value)}, Pairs (mixKind P w) es kvs → ReadsAll h (es.map (·.key)) (kvs.map fun p => kD p.1) []
  | _, _, .nil => .nil
  | _, _, .cons a b t => ReadsAll.cons (as := []) (bs := []) (reads_key (mix_keys a)) (pairs_keys t)
theorem pairs_vals {P : Program} {w : World} : ∀ {es : List DictEntry} {kvs : List (Key × Value)}, Pairs (mixKind P w) es kvs → es.map (·.val) = kvs.map (·.2)
  | _, _, .nil => rfl
  | _, _, .cons a b t => by rw [List.map_cons, List.map_cons, b, pairs_vals t]
theorem kv_parts : ∀ {ks : List (Key × V)} {vs : List (Key × Value)}, KV ks vs → ks.map (·.1) = vs.map (·.1) ∧ Vals (ks.map (·.2)) (vs.map (·.2))
  | _, _, .nil => ⟨rfl, .nil⟩
  | _, _, .cons a t => by
    obtain ⟨h1, h2⟩ := kv_parts t
    exact ⟨by rw [List.map_cons, List.map_cons, h1, a.1], .cons a.2 h2⟩
section
variable {X : Cx} {pins : List (Addr × Obj)} {σ : L2.St} {H : Hp} {s : Shared}
mutual
theorem Da.reads (I : Inv X pins σ H s) : ∀ {v : V} {d : PyData}, Da X.K H v d → ∀ (u : Value), RelV v u → ∃ as, Reads s.heap u d as ∧ (noList d = true → sysModules ∉ as)
  | _, _, .non, _, r => by
    cases r
    exact ⟨_, .none, fun _ => by simp⟩
  | _, _, .bl b, _, r => by
    cases r
    exact ⟨_, .bool b, fun _ => by simp⟩
  | _, _, .int i, _, r => by
    obtain ⟨t, rfl⟩ := r
    exact ⟨_, .int i t, fun _ => by simp⟩
  | _, _, .str x, _, r => by
    obtain ⟨t, rfl⟩ := r
    exact ⟨_, .str x t, fun _ => by simp⟩
  | _, _, .lst hs ha, _, r => by
    cases r
    obtain ⟨its, rv, ⟨o, n, ho, hc, _, hd⟩, _⟩ := I.list hs
    obtain ⟨as, hr, _⟩ := DaAll.reads I ha its rv
    exact ⟨_, .list ho hc hd hr, fun z => by simp [noList] at z⟩
  | _, _, .tup hs ha, _, r => by
    cases r
    obtain ⟨its, rv, ⟨o, ho, hc, n, hd⟩, _⟩ := I.tuple hs.t
    obtain ⟨as, hr, hm⟩ := DaAll.reads I ha its rv
    exact ⟨_, .tuple ho hc hd hr, fun z => hm (by simpa only [noList] using z)⟩
  | _, _, .dct (a := a) (kvs := ks) (ds := ds) he ha, _, r => by
    cases r
    obtain ⟨_, hz, vs, rel, o, es, ep, ho, hx, hd, hko, hp, hnd⟩ := dk_rd I.hok he
    obtain ⟨e1, e2⟩ := kv_parts rel
    obtain ⟨as, hr, hm⟩ := DaAll.reads I ha (vs.map (·.2)) e2
    have lk : (ks.map fun p => kD p.1).length = ds.length := by rw [List.length_map, ← ha.length, List.length_map]
    have f1 : ((ks.map fun p => kD p.1).zip ds).map (·.1) = ks.map fun p => kD p.1 := by rw [List.map_fst_zip]; omega
    have f2 : ((ks.map fun p => kD p.1).zip ds).map (·.2) = ds := by rw [List.map_snd_zip]; omega
    have kk : (ks.map fun p => kD p.1) = vs.map fun p => kD p.1 := by
      have e := congrArg (List.map kD) e1
      simpa [List.map_map, Function.comp_def] using e
    refine ⟨a :: [] ++ as, .dict ho hx.1 hd (by rw [f1, kk]; exact pairs_keys hp) (by rw [f2, pairs_vals hp]; exact hr), fun z => ?_⟩
    have z2 := hm (noListKv_vals _ _ lk (by simpa only [noList] using z))
    intro hmem
    rcases List.mem_cons.mp hmem with e | e
    · rw [← e] at hz; simp at hz
    · exact z2 e
theorem DaAll.reads (I : Inv X pins σ H s) : ∀ {vs : List V} {ds : List PyData}, DaAll X.K H vs ds → ∀ (us : List Value), Vals vs us → ∃ as, ReadsAll s.heap us ds as ∧ (noListAll ds = true → sysModules ∉ as)
  | _, _, .nil, _, r => by
    cases r
    exact ⟨_, .nil, fun _ => by simp⟩
  | _, _, .cons h1 h2, _, r => by
    cases r with
    | cons r1 r2 =>
      obtain ⟨as, q1, m1⟩ := Da.reads I h1 _ r1
      obtain ⟨bs, q2, m2⟩ := DaAll.reads I h2 _ r2
      refine ⟨_, .cons q1 q2, fun z => ?_⟩
      simp only [noListAll, Bool.and_eq_true] at z
      intro hm
      rcases List.mem_append.mp hm with e | e
      · exact m1 z.1 e
      · exact m2 z.2 e
end

/-- a dict that holds no further dict -/
def FlatDict (d : PyData) : Prop := ∃ kvs, d = .dict kvs ∧ PyData.hasDictAll (kvs.map (·.1)) = false ∧ PyData.hasDictAll (kvs.map (·.2)) = false
section flat
variable {prog : Program} {w : World} {H0 : Heap} {ad : Addr} {kvs : List (PyData × PyData)}
/-- a dict of the heap as it is read: it is not the table of the modules -/
def FlatAt (H0 : Heap) (ad : Addr) (kvs : List (PyData × PyData)) : Prop :=
  ∃ (ob : Obj) (es : Array DictEntry) (ln : Nat) (xs ys : List Addr), H0.get? ad = some ob ∧ ob.cls = .type "dict" ∧ ob.data = .dict es ln ∧
    ReadsAll H0 (es.toList.map (·.key)) (kvs.map (·.1)) xs ∧ ReadsAll H0 (es.toList.map (·.val)) (kvs.map (·.2)) ys ∧ (ad == sysModules) = false
theorem parts_flat {us : List Value} {ds : List PyData} {xs : List Addr} (r : ReadsAll H0 us ds xs) (no : PyData.hasDictAll ds = false) (sh : PyData.showableAll ds = true) (fits : ∀ t ∈ PyData.shownAll ds, t.length ≤ sizeLine) :
    ∃ deep, ReadAtMost H0 (PyData.depthAll ds) deep ∧ ReprAllK prog w deep H0 (PyData.depthAll ds) us (PyData.shownAll ds) :=
  ReprAllK.of_readsAll r sh (fun yes => absurd yes (by simp only [no, Bool.false_eq_true, not_false_eq_true])) fits
theorem repr_flat {A : Around} {E Q : Value → Shared → Prop} {s : Shared} (f : FlatAt H0 ad kvs) (nk : PyData.hasDictAll (kvs.map (·.1)) = false) (nv : PyData.hasDictAll (kvs.map (·.2)) = false)
    (sh : (PyData.dict kvs).showable = true) (sz : (PyData.dict kvs).shown.length ≤ sizeLine) (free : A.guards = some []) (room : A.units + ((PyData.dict kvs).depth + 1) < cLine) (keep : ∀ b o, H0.get? b = some o → s.heap.get? b = some o)
    (after : ∀ h2 u tk, (∀ b o, s.heap.get? b = some o → h2.get? b = some o) → Q (.str (PyData.dict kvs).shown u) { s with heap := h2, toks := tk }) : wpAny (model prog w) A (call (.builtin "repr") [.ref ad]) Q E s := by
  obtain ⟨ob, es, ln, xs, ys, g1, g2, g3, rk, rv, apart⟩ := f
  obtain ⟨shk, shv⟩ := PyData.showableKv_split kvs (by simpa only [PyData.showable] using sh)
  have whole : (dictText (PyData.shownKv kvs)).length ≤ sizeLine := by
    simpa only [PyData.shown] using sz
  have pk := parts_flat (prog := prog) (w := w) rk nk shk fun t ht => by
    obtain ⟨q, hq, le⟩ := PyData.shownKv_key_le kvs t ht
    exact Nat.le_trans (Nat.le_trans le (dictText_mem_le hq)) whole
  have pv := parts_flat (prog := prog) (w := w) rv nv shv fun t ht => by
    obtain ⟨q, hq, le⟩ := PyData.shownKv_val_le kvs t ht
    exact Nat.le_trans (Nat.le_trans le (dictText_mem_le hq)) whole
  obtain ⟨dk, atk, tk1⟩ := pk
  obtain ⟨dv, atv, tv1⟩ := pv
  have inner := (atk.mono (PyData.depthAll_keys_le kvs)).append (atv.mono (PyData.depthAll_vals_le kvs))
  have out : ad ∉ dk ++ dv := not_mem_of_deeper (Reads.dict g1 g2 g3 rk rv) (by rw [PyData.depth]; exact Nat.lt_succ_self _) inner
  have ents := ReprEntriesK.of_two es.toList _ _ (tk1.more_le (as' := dk ++ dv) (fun _ h => List.mem_append.mpr (.inl h)) (PyData.depthAll_keys_le kvs)) (tv1.more_le (as' := dk ++ dv) (fun _ h => List.mem_append.mpr (.inr h)) (PyData.depthAll_vals_le kvs))
  have dp : (PyData.dict kvs).depth = PyData.depthKv kvs + 1 := by rw [PyData.depth]
  rw [dp] at room
  refine call_repr_slot (by omega) ⟨ob, keep _ _ g1, g2⟩ F.slot_dict_repr ?_
  refine call_dict_reprK g1 g2 g3 apart out ents free (fun _ _ => Clear.nil _) (by show A.units + 1 + _ < cLine; omega) keep (fun h2 u tk hk => ?_) (by rw [← PyData.shownKv_eq]; exact whole)
  have q := after h2 u tk hk
  simp only [PyData.shown, PyData.shownKv_eq] at q
  exact ⟨_, _, rfl, q⟩
end flat
/-- what repr asks -/
structure Show (d : PyData) : Prop where
  sh : d.showable = true
  sz : d.shown.length ≤ sizeLine
  dp : d.depth ≤ 60
  mx : d.hasDict = true → noList d = true ∨ FlatDict d
def rdRepr : DRA := fun ds μ Q => match ds with
  | [.d d] => Show d ∧ Q (.d (.str d.shown)) μ
  | _ => False
def rRepr (K : PySem.W.Frag) : List V → Hp → VK → Prop := fun xs H Q => ∃ x d, xs = [x] ∧ Da K H x d ∧ Show d ∧ Q (.str d.shown) H
theorem call_repr (hg : X.A.guards = some []) (hu : X.A.units + 64 < cLine) : CallR X (.builtin "repr") (rRepr X.K) := by
  intro pins s σ H xs us Q I r h
  obtain ⟨x, d, rfl, hd, S, q⟩ := h
  obtain ⟨u, rfl, ru⟩ := vals1 r
  have Sd := S.dp
  cases hd with
  | non => cases ru; exact PySem.P.repr_of_none ⟨.str _, H, I.tok _, ⟨_, rfl⟩, q⟩
  | bl b => cases ru; exact PySem.P.repr_of_bool ⟨.str _, H, I.tok _, ⟨_, rfl⟩, by simpa only [PyData.shown] using q⟩
  | int i =>
    obtain ⟨t, rfl⟩ := ru
    exact PySem.P.repr_of_int (by have z := S.sh; simpa [PyData.showable] using z) ⟨.str _, H, I.tok _, ⟨_, rfl⟩, q⟩
  | str y =>
    obtain ⟨t, rfl⟩ := ru
    exact PySem.P.repr_of_str ⟨.str _, H, I.tok _, ⟨_, rfl⟩, q⟩ (by have z := S.sz; simpa only [PyData.shown] using z)
  | lst s t =>
    cases ru
    obtain ⟨as, hr, hm⟩ := Da.reads I (Da.lst s t) _ rfl
    exact repr_of_reads' hr S.sh (fun z => hm ((S.mx z).resolve_right nofun)) hg (by omega) (fun _ _ e => e) (fun h' u tk hk => ⟨.str _, H, I.kept hk, ⟨_, rfl⟩, q⟩) S.sz
  | tup s t =>
    cases ru
    obtain ⟨as, hr, hm⟩ := Da.reads I (Da.tup s t) _ rfl
    exact repr_of_reads' hr S.sh (fun z => hm ((S.mx z).resolve_right nofun)) hg (by omega) (fun _ _ e => e) (fun h' u tk hk => ⟨.str _, H, I.kept hk, ⟨_, rfl⟩, q⟩) S.sz
  | @dct a ks ds he ha =>
    cases ru
    rcases S.mx (by simp only [PyData.hasDict]) with mx | ⟨kvs, ek, n1, n2⟩
    · obtain ⟨as, hr, hm⟩ := Da.reads I (Da.dct he ha) _ rfl
      exact repr_of_reads' hr S.sh (fun _ => hm mx) hg (by omega) (fun _ _ e => e) (fun h' u tk hk => ⟨.str _, H, I.kept hk, ⟨_, rfl⟩, q⟩) S.sz
    · obtain ⟨_, hz, vs, rel, o, es, ep, ho, hx, hd, hko, hp, hnd⟩ := dk_rd I.hok he
      obtain ⟨e1, e2⟩ := kv_parts rel
      obtain ⟨as, hr, _⟩ := DaAll.reads I ha (vs.map (·.2)) e2
      have lk : (ks.map fun p => kD p.1).length = ds.length := by rw [List.length_map, ← ha.length, List.length_map]
      have f1 : ((ks.map fun p => kD p.1).zip ds).map (·.1) = ks.map fun p => kD p.1 := by rw [List.map_fst_zip]; omega
      have f2 : ((ks.map fun p => kD p.1).zip ds).map (·.2) = ds := by rw [List.map_snd_zip]; omega
      have kk : (ks.map fun p => kD p.1) = vs.map fun p => kD p.1 := by
        have e := congrArg (List.map kD) e1
        simpa [List.map_map, Function.comp_def] using e
      injection ek with ek
      subst ek
      exact repr_flat ⟨_, _, _, [], as, ho, hx.1, hd, by rw [f1, kk]; exact pairs_keys hp, by rw [f2, pairs_vals hp]; exact hr, hz⟩ n1 n2 S.sh S.sz hg (by omega) (fun _ _ e => e) fun h2 u tk hk => ⟨.str _, H, I.kept hk, ⟨_, rfl⟩, q⟩
end
end DL

namespace DL
open PySem PySem.Spec PyProof.Rows L2

structure EndsOk (K : PySem.W.Frag) (μ : Mu) (H : Hp) (Dd : DEnds) (D : Ends) : Prop where
  nx : ∀ δ' μ' σ' H', Ext μ H μ' H' → RM K μ' H' → RS K μ' H' σ' δ' → Dd.nx δ' μ' → D.nx σ' H'
  rt : Wk K μ H Dd.rt D.rt
  bk : ∀ δ' μ' σ' H', Ext μ H μ' H' → RM K μ' H' → RS K μ' H' σ' δ' → Dd.bk δ' μ' → D.bk σ' H'
  ct : ∀ δ' μ' σ' H', Ext μ H μ' H' → RM K μ' H' → RS K μ' H' σ' δ' → Dd.ct δ' μ' → D.ct σ' H'
theorem EndsOk.step {K : PySem.W.Frag} {μ μ1 : Mu} {H H1 : Hp} {Dd : DEnds} {D : Ends} (h : EndsOk K μ H Dd D) (e : Ext μ H μ1 H1) : EndsOk K μ1 H1 Dd D :=
  ⟨fun δ' μ' σ' H' x => h.nx δ' μ' σ' H' (e.trans x), h.rt.step e, fun δ' μ' σ' H' x => h.bk δ' μ' σ' H' (e.trans x), fun δ' μ' σ' H' x => h.ct δ' μ' σ' H' (e.trans x)⟩
def upS (K : PySem.W.Frag) (t : DTS) : TS := fun D σ H => ∃ δ μ Dd, RS K μ H σ δ ∧ RM K μ H ∧ t Dd δ μ ∧ EndsOk K μ H Dd D
abbrev DS (X : Cx) (st : Stmt) (t : DTS) : Prop := PS X st (upS X.K t)
abbrev DSs (X : Cx) (st : List Stmt) (t : DTS) : Prop := PSs X st (upS X.K t)
def upG (b : Bool) (K : PySem.W.Frag) (g : DTG) : TG := fun v σ H Q => ∃ δ μ d Qd, RS K μ H σ δ ∧ RM K μ H ∧ RVb b K μ H v d ∧ g d δ μ Qd ∧ ∀ δ' μ' σ' H', Ext μ H μ' H' → RM K μ' H' → RS K μ' H' σ' δ' → Qd δ' μ' → Q σ' H'
abbrev DG (b : Bool) (X : Cx) (tg : Expr) (g : DTG) : Prop := PG X tg (upG b X.K g)
theorem pg_imp {X : Cx} {e : Expr} {t t' : TG} (h : PG X e t) (w : ∀ v σ H Q, t' v σ H Q → t v σ H Q) : PG X e t' := ⟨fun pins s σ H v u Q I r q => h.run pins s σ H v u Q I r (w _ _ _ _ q)⟩
section
variable {X : Cx} {pos : Pos} {a b c e : Expr} {ta tb tc te : DT} {K : PySem.W.Frag} {st : Stmt} {rest : List Stmt} {t u : DTS}
def sNext : DTS := fun D δ μ => D.nx δ μ
def sSeq (t u : DTS) : DTS := fun D δ μ => t { D with nx := u D } δ μ
theorem s_nil : DSs X [] sNext := pss_imp pss_nil fun D σ H ⟨δ, μ, Dd, rs, rm, q, w⟩ => w.nx δ μ σ H (.refl _ _) rm rs q
theorem s_cons (h1 : DS X st t) (h2 : DSs X rest u) : DSs X (st :: rest) (sSeq t u) := pss_imp (pss_cons h1 h2) fun D σ H ⟨δ, μ, Dd, rs, rm, q, w⟩ =>
  ⟨δ, μ, _, rs, rm, q, ⟨fun δ' μ' σ' H' e m r z => ⟨δ', μ', Dd, r, m, z, w.step e⟩, w.rt, w.bk, w.ct⟩⟩
theorem s_one (h1 : DS X st t) : DSs X [st] t := pss_one h1
def sBreak : DTS := fun D δ μ => D.bk δ μ
def sCont : DTS := fun D δ μ => D.ct δ μ
def sRet (te : DT) : DTS := fun D δ μ => te δ μ D.rt
theorem s_ret (he : DE X e te) : DS X (.Return (some e) pos) (sRet te) := ps_imp (ps_ret he) fun D σ H ⟨δ, μ, Dd, rs, rm, q, w⟩ => up_use rs rm q w.rt
def sDrop (te : DT) : DTS := fun D δ μ => te δ μ fun _ μ1 => D.nx δ μ1
theorem s_expr (he : DE X e te) (hs : swapsWith e none pos.line X.env = pure false := by rfl) : DS X (.Expr e pos) (sDrop te) := ps_imp (ps_expr he hs) fun D σ H ⟨δ, μ, Dd, rs, rm, q, w⟩ =>
  up_use rs rm q fun x μ1 v H1 e1 m1 r1 q1 => w.nx δ μ1 σ H1 e1 m1 (rs.mono e1) q1
def sIf (c : DTT) (t u : DTS) : DTS := fun D δ μ => c δ μ fun b μ1 => if b = true then t D δ μ1 else u D δ μ1
theorem s_if {tC : DTT} {as bs : List Stmt} (hc : DC X c tC) (ha : DSs X as t) (hb : DSs X bs u) : DS X (.If c as bs pos) (sIf tC t u) := ps_imp (ps_if hc ha hb) fun D σ H ⟨δ, μ, Dd, rs, rm, q, w⟩ =>
  upT_use rs rm q fun k μ1 H1 e1 m1 q1 => by
    cases k with
    | true => rw [if_pos rfl] at q1 ⊢; exact ⟨δ, μ1, Dd, rs.mono e1, m1, q1, w.step e1⟩
    | false => rw [if_neg Bool.false_ne_true] at q1 ⊢; exact ⟨δ, μ1, Dd, rs.mono e1, m1, q1, w.step e1⟩
/-- a way that is never gone -/
def sNever : DTS := fun _ _ _ => False
theorem s_never : DS X st sNever := ps_imp ps_never fun _ _ _ ⟨_, _, _, _, _, q, _⟩ => q.elim
def gdName (i : Nat) : DTG := fun d δ μ Q => Q (δ.set i (some d)) μ
theorem g_name {i : Nat} {x : Str} (hN : X.N.Nodup) (hi : X.N[i]? = some x) (hx : Loc X.env.scope x) (hf : X.fn x = true ∨ X.env.scope.names.lookup x = some .local := by first | exact .inl rfl | exact .inr rfl | assumption) : DG true X (.Name x pos) (gdName i) :=
  pg_imp (pg_name hN hi hx hf) fun v σ H Q ⟨δ, μ, d, Qd, rs, rm, r, q, w⟩ => w _ μ _ H (.refl _ _) rm (rs.set r.rv i) q
/-- two, three names from a tuple (or a list) -/
def setAll : List Nat → List PyData → DSt → DSt
  | i :: is, d :: ds, δ => setAll is ds (δ.set i (some (.d d)))
  | _, _, δ => δ
def gdTup (is : List Nat) : DTG := fun d δ μ Q => match d with
  | .d (.tuple xs) => xs.length = is.length ∧ Q (setAll is xs δ) μ
  | _ => False
/-- the same over values -/
def gNames : List Nat → TGs
  | [] => gNil
  | i :: is => gCons (gName i) (gNames is)
theorem gNames_use : ∀ {is : List Nat} {vs : List V} {xs : List PyData} {μ : Mu} {H : Hp} {σ : L2.St} {δ : DSt} {Q : L2.St → Hp → Prop}, DaAll K (hid μ H) vs xs → xs.length = is.length → RS K μ H σ δ → (∀ σ', RS K μ H σ' (setAll is xs δ) → Q σ' H) → gNames is vs σ H Q
  | [], _, _, _, _, _, _, _, r, hl, rs, q => by
    cases r with
    | nil => exact ⟨rfl, q _ rs⟩
    | cons _ _ => simp at hl
  | i :: is, _, _, _, _, _, _, _, r, hl, rs, q => by
    cases r with
    | nil => simp at hl
    | @cons v vs d ds a t => exact ⟨v, vs, rfl, gNames_use t (by simpa using hl) (rs.set (d := .d d) a i) q⟩
theorem pgs_name2 {i : Nat} {is : List Nat} {x : Str} {es : List Expr} {p : Pos} (h1 : PG X (.Name x p) (gName i)) (h2 : PGs X es (gNames is))
    (hs : (assignEach (.Name x p :: es) X.env).map (·.2) = assign (.Name x p) X.env :: (assignEach es X.env).map (·.2) := by rfl) : PGs X (.Name x p :: es) (gNames (i :: is)) := pgs_cons h1 h2 hs
theorem g_tup {bb : Bool} {es : List Expr} {k : Nat} {is : List Nat} (hc : X.calm = true) (h : PGs X es (gNames is))
    (hn : (assignEach es X.env).length = is.length := by rfl) (hst : (assignEach es X.env).findIdx? (·.1) = none := by rfl) : DG bb X (.Tuple es k pos) (gdTup is) :=
  pg_imp (pg_tup hc h hn hst) fun v σ H Q ⟨δ, μ, d, Qd, rs, rm, r, q, w⟩ => by
    unfold gdTup at q
    split at q
    · next xs =>
      obtain ⟨a, vs, rfl, s, t⟩ := DaI.tup (DaB.i (show DaB bb X.K (hid μ H) v (.tuple xs) from r))
      exact ⟨a, vs, rfl, same_seqW unhid s, by rw [t.length, q.1], gNames_use t q.1 rs fun σ' rs' => w _ μ σ' H (.refl _ _) rm rs' q.2⟩
    · exact q.elim
def sAsg (te : DT) (g : DTG) : DTS := fun D δ μ => te δ μ fun x μ1 => g x δ μ1 D.nx
theorem s_asg {tg : Expr} {g : DTG} (he : DE X e te) (hg : DG true X tg g) (hs : swapsWithSole [tg] e pos.line X.env = pure false := by rfl) (hw : swappedStores [tg] e X.env = pure none := by rfl)
    (h1 : (assignEach [tg] X.env).map (·.2) = [assign tg X.env] := by rfl) : DS X (.Assign [tg] e pos) (sAsg te g) := ps_imp (ps_asg he hg hs hw h1) fun D σ H ⟨δ, μ, Dd, rs, rm, q, w⟩ =>
  up_use rs rm q fun x μ1 v H1 e1 m1 r1 q1 => ⟨δ, μ1, x, Dd.nx, rs.mono e1, m1, r1.rvb, q1, fun δ' μ' σ' H' e' m' r' z => w.nx δ' μ' σ' H' (e1.trans e') m' r' z⟩
theorem s_set {i : Nat} {x : Str} {pos' : Pos} (hN : X.N.Nodup) (hi : X.N[i]? = some x) (hx : Loc X.env.scope x) (he : DE X e te) (hs : swapsWith e (some (.Name x pos')) pos.line X.env = pure false := by rfl) (hf : X.fn x = true ∨ X.env.scope.names.lookup x = some .local := by first | exact .inl rfl | exact .inr rfl | assumption) :
    DS X (.Assign [.Name x pos'] e pos) (sAsg te (gdName i)) := ps_imp (ps_set hN hi hx he hs hf) fun D σ H ⟨δ, μ, Dd, rs, rm, q, w⟩ =>
  up_use rs rm q fun x μ1 v H1 e1 m1 r1 q1 => w.nx _ μ1 _ H1 e1 m1 ((rs.mono e1).set r1 i) q1
/-- a, b = x, y (two plain locals) -/
def sPar (i j : Nat) (ta : DTA) : DTS := fun D δ μ => ta δ μ fun ds μ1 => match ds with
  | [x, y] => D.nx ((δ.set i (some x)).set j (some y)) μ1
  | _ => False
theorem s_par {i j : Nat} {x y : Str} {tA : DTA} {px py pt : Pos} {kt k2 pt2} (hc : X.calm = true) (hN : X.N.Nodup) (hi : X.N[i]? = some x) (hj : X.N[j]? = some y) (hij : i ≠ j)
    (hx : X.env.scope.names.lookup x = some .local) (hy : X.env.scope.names.lookup y = some .local) (ha : DA X [a, b] tA)
    (hw : swappedStores [.Tuple [.Name x px, .Name y py] kt pt] (.Tuple [a, b] k2 pt2) X.env = pure (some [x, y]))
    (hs : swapsWithSole [.Tuple [.Name x px, .Name y py] kt pt] (.Tuple [a, b] k2 pt2) pos.line X.env = pure false := by rfl) :
    DS X (.Assign [.Tuple [.Name x px, .Name y py] kt pt] (.Tuple [a, b] k2 pt2) pos) (sPar i j tA) := ps_imp (ps_par hc hN hi hj hij hx hy ha hw hs) fun D σ H ⟨δ, μ, Dd, rs, rm, q, w⟩ =>
  upA_use rs rm q fun ds μ1 vs H1 e1 m1 r1 q1 => by
    split at q1
    · next x y =>
      cases r1 with
      | cons r t =>
        cases t with
        | cons r' t =>
          cases t
          exact ⟨_, _, rfl, w.nx _ μ1 _ H1 e1 m1 (((rs.mono e1).set r i).set r' j) q1⟩
    · exact q1.elim
/-- o[i] = e, o a cell that is a list -/
def rdSetL : DV → DV → DV → Mu → (Mu → Prop) → Prop := fun o i v μ Q => match o, i, v with
  | .cell p, .d (.int k), .d x => match μ p with
    | some (.lst xs) => match ixN xs.length k with
      | some j => Q (put μ p (.lst (xs.set j x)))
      | none => False
    | _ => False
  | _, _, _ => False
def gdSub (to ti : DT) (r : DV → DV → DV → Mu → (Mu → Prop) → Prop) : DTG := fun v δ μ Q => to δ μ fun o μ1 => ti δ μ1 fun i μ2 => r o i v μ2 fun μ3 => Q δ μ3
end
end DL

namespace DL
open PySem PySem.Spec PyProof.Rows L2
section
variable {X : Cx} {pos : Pos} {a b c e tg iter : Expr} {ta tb tc te : DT} {K : PySem.W.Frag}

abbrev DTI := DSt → Mu → (List PyData → Mu → Prop) → Prop
def Walk (b : Bool) (K : PySem.W.Frag) (μ0 : Mu) (H0 : Hp) (J : It) (ds : List PyData) : Prop := ∀ i μ H, Ext μ0 H0 μ H → RM K μ H →
  (∀ d, ds[i]? = some d → J.go i H ∧ ∀ x H', J.yld i H x H' → Ext μ H μ H' ∧ RM K μ H' ∧ DaB b K (hid μ H') x d) ∧ (ds[i]? = none → J.stop i H)
def upI (b : Bool) (K : PySem.W.Frag) (wi : DTI) : TI := fun σ H R => ∃ δ μ Qd, RS K μ H σ δ ∧ RM K μ H ∧ wi δ μ Qd ∧ ∀ ds μ' H' J, Ext μ H μ' H' → RM K μ' H' → Walk b K μ' H' J ds → Qd ds μ' → R J H'
abbrev DI (b : Bool) (X : Cx) (tg iter : Expr) (wi : DTI) : Prop := PI X tg iter (upI b X.K wi)
theorem pi_imp {t t' : TI} (h : PI X tg iter t) (w : ∀ σ H R, t' σ H R → t σ H R) : PI X tg iter t' := ⟨fun pins s σ H R I q => h.run pins s σ H R I (w _ _ _ q)⟩
theorem walk_list {μ : Mu} {H : Hp} {p : Addr} {vs : List V} {ds : List PyData} (s : SqL K (hid μ H) p vs) (t : DaAll K (hid μ H) vs ds) : Walk true K μ H (Itl K p) ds := fun i μ' H' e m => by
  have s' : SqL K H' p vs := unhid.seq (e.seq s)
  refine ⟨fun d hd => ?_, fun hd => ⟨vs, s', by rw [t.length]; exact List.getElem?_eq_none_iff.mp hd⟩⟩
  obtain ⟨v, h1, h2⟩ := t.get hd
  refine ⟨⟨vs, v, s', h1⟩, fun x H2 ⟨e1, e2⟩ => ?_⟩
  subst e1
  have e3 := e2 vs s'
  rw [h1] at e3
  cases e3
  exact ⟨.refl _ _, m, h2.mono e⟩
theorem walk_tup {μ : Mu} {H : Hp} {p : Addr} {vs : List V} {ds : List PyData} (s : SqT K (hid μ H) p vs) (t : DaAll K (hid μ H) vs ds) : Walk true K μ H (Itt K p) ds := fun i μ' H' e m => by
  have s' : SqT K H' p vs := same_seqW unhid (same_seqW e s)
  refine ⟨fun d hd => ?_, fun hd => ⟨vs, s', by rw [t.length]; exact List.getElem?_eq_none_iff.mp hd⟩⟩
  obtain ⟨v, h1, h2⟩ := t.get hd
  refine ⟨⟨vs, v, s', h1⟩, fun x H2 ⟨e1, e2⟩ => ?_⟩
  subst e1
  have e3 := e2 vs s'
  rw [h1] at e3
  cases e3
  exact ⟨.refl _ _, m, h2.mono e⟩
def dwList (te : DT) : DTI := fun δ μ Q => te δ μ fun x μ1 => match x with
  | .d (.list xs) => Q xs μ1
  | _ => False
def dwTup (te : DT) : DTI := fun δ μ Q => te δ μ fun x μ1 => match x with
  | .d (.tuple xs) => Q xs μ1
  | _ => False
theorem i_list (h : DE X e te) : DI true X tg e (dwList te) := pi_imp (pi_list h) fun σ H R ⟨δ, μ, Qd, rs, rm, q, w⟩ => up_use rs rm q fun x μ1 v H1 e1 m1 r1 q1 => by
  split at q1
  · next xs =>
    cases (show Da X.K (hid μ1 H1) v (.list xs) from r1) with
    | @lst p vs _ s t => exact ⟨p, rfl, ⟨vs, unhid.seq s⟩, w xs μ1 H1 _ e1 m1 (walk_list s t) q1⟩
  · exact q1.elim
theorem i_tup (h : DE X e te) : DI true X tg e (dwTup te) := pi_imp (pi_tup h) fun σ H R ⟨δ, μ, Qd, rs, rm, q, w⟩ => up_use rs rm q fun x μ1 v H1 e1 m1 r1 q1 => by
  split at q1
  · next xs =>
    cases (show Da X.K (hid μ1 H1) v (.tuple xs) from r1) with
    | @tup p vs _ s t => exact ⟨p, rfl, ⟨vs, same_seqT unhid s⟩, w xs μ1 H1 _ e1 m1 (walk_tup s.t t) q1⟩
  · exact q1.elim
/-- lo, lo + 1, .. (n of them) -/
def rangeD (lo : Int) (n : Nat) : List PyData := (List.range n).map fun (i : Nat) => .int (lo + (i : Int))
end
end DL
namespace DL
open PySem PySem.Spec PyProof.Rows L2
theorem rangeD_get {lo : Int} {n i : Nat} : (rangeD lo n)[i]? = if i < n then some (.int (lo + (i : Int))) else none := by
  unfold rangeD
  by_cases h : i < n
  · rw [if_pos h]; simp [List.getElem?_map, h]
  · rw [if_neg h]; simp [List.getElem?_map, h]
section
variable {X : Cx} {pos : Pos} {a b c e tg iter : Expr} {ta tb tc te : DT} {K : PySem.W.Frag}
theorem walk_range {μ : Mu} {H : Hp} {lo : Int} {n : Nat} : Walk true K μ H (Itr lo n) (rangeD lo n) := fun i μ' H' e m => by
  rw [rangeD_get]
  by_cases h : i < n
  · rw [if_pos h]
    refine ⟨fun d hd => ⟨h, fun x H2 ⟨e1, e2⟩ => ?_⟩, fun z => by cases z⟩
    cases hd
    subst e1; subst e2
    exact ⟨.refl _ _, m, .int _⟩
  · rw [if_neg h]
    exact ⟨fun d hd => (by cases hd), fun _ => Nat.le_of_not_lt h⟩
def dwRange1 (ta : DTA) : DTI := fun δ μ Q => ta δ μ fun ds μ1 => match ds with
  | [.d (.int j)] => (-(2 ^ 62) ≤ j ∧ j < 2 ^ 62) ∧ Q (rangeD 0 j.toNat) μ1
  | _ => False
def dwRange2 (ta : DTA) : DTI := fun δ μ Q => ta δ μ fun ds μ1 => match ds with
  | [.d (.int i), .d (.int j)] => (-(2 ^ 62) ≤ i ∧ i < 2 ^ 62 ∧ -(2 ^ 62) ≤ j ∧ j < 2 ^ 62) ∧ Q (rangeD i (j - i).toNat) μ1
  | _ => False
theorem i_range1 {tA : DTA} {p : Pos} (hg : Gl X "range") (hm : X.mg "range" = none) (ha : DA X [a] tA) (hs : starEach [a] X.env = [(false, eval a X.env)] := by rfl) : DI true X tg (.Call (.Name "range" p) [a] [] pos) (dwRange1 tA) :=
  pi_imp (pi_range1 hg hm ha hs) fun σ H R ⟨δ, μ, Qd, rs, rm, q, w⟩ => upA_use rs rm q fun ds μ1 vs H1 e1 m1 r1 q1 => by
    split at q1
    · next j =>
      cases r1 with
      | cons r t => cases t; cases r; exact ⟨j, rfl, q1.1.1, q1.1.2, w _ μ1 H1 _ e1 m1 walk_range q1.2⟩
    · exact q1.elim
/-- enumerate -/
def enumD : Nat → List PyData → List PyData
  | _, [] => []
  | n, x :: xs => .tuple [.int n, x] :: enumD (n + 1) xs
theorem enumD_get : ∀ (n : Nat) (xs : List PyData) (i : Nat), (enumD n xs)[i]? = (xs[i]?).map fun x => .tuple [.int ((n + i : Nat) : Int), x]
  | _, [], _ => by simp [enumD]
  | n, x :: xs, 0 => by simp [enumD]
  | n, x :: xs, i + 1 => by
    rw [enumD, List.getElem?_cons_succ, List.getElem?_cons_succ, enumD_get (n + 1) xs i]
    have e : n + 1 + i = n + (i + 1) := by omega
    rw [e]
theorem walk_enum {μ : Mu} {H : Hp} {p : Addr} {vs : List V} {ds : List PyData} (s : SqL K (hid μ H) p vs) (t : DaAll K (hid μ H) vs ds) : Walk false K μ H (Ite K p) (enumD 0 ds) := fun i μ' H' e m => by
  have s' : SqL K H' p vs := unhid.seq (e.seq s)
  rw [enumD_get]
  refine ⟨fun d hd => ?_, fun hd => ⟨vs, s', ?_⟩⟩
  · rw [Option.map_eq_some_iff] at hd
    obtain ⟨y, hy, rfl⟩ := hd
    obtain ⟨v, h1, h2⟩ := t.get hy
    refine ⟨⟨vs, v, s', h1⟩, ?_⟩
    rintro x H2 ⟨T, x', rfl, hT, rfl, e2⟩
    have e3 := e2 vs s'
    rw [h1] at e3
    cases e3
    refine ⟨ext_new hT, m.new hT, Or.inr ⟨T, _, _, rfl, rfl, .inl (.inl (hid_new m hT)), (.cons ?_ (.cons ((h2.mono e).mono (ext_new hT)) .nil))⟩⟩
    rw [Nat.zero_add]
    exact .int _
  · rw [t.length]
    rw [Option.map_eq_none_iff] at hd
    exact List.getElem?_eq_none_iff.mp hd
def dwEnum (ta : DTA) : DTI := fun δ μ Q => ta δ μ fun ds μ1 => match ds with
  | [.d (.list xs)] => Q (enumD 0 xs) μ1
  | _ => False
theorem i_enum {tA : DTA} {p tpos : Pos} {elts : List Expr} {kk : Nat} (hg : Gl X "enumerate") (hm : X.mg "enumerate" = none) (ha : DA X [e] tA) (hs : starEach [e] X.env = [(false, eval e X.env)] := by rfl) : DI false X (.Tuple elts kk tpos) (.Call (.Name "enumerate" p) [e] [] pos) (dwEnum tA) :=
  pi_imp (pi_enum hg hm ha hs) fun σ H R ⟨δ, μ, Qd, rs, rm, q, w⟩ => upA_use rs rm q fun ds μ1 vs H1 e1 m1 r1 q1 => by
    split at q1
    · next xs =>
      cases r1 with
      | cons r t =>
        cases t
        cases (show Da X.K (hid μ1 H1) _ (.list xs) from r) with
        | @lst p vs _ s t => exact ⟨p, vs, rfl, unhid.seq s, w _ μ1 H1 _ e1 m1 (walk_enum s t) q1⟩
    · exact q1.elim
/-- zip -/
def zipD : List PyData → List PyData → List PyData
  | x :: xs, y :: ys => .tuple [x, y] :: zipD xs ys
  | _, _ => []
theorem zipD_get : ∀ (xs ys : List PyData) (i : Nat) (d : PyData), (zipD xs ys)[i]? = some d → ∃ x y, xs[i]? = some x ∧ ys[i]? = some y ∧ d = .tuple [x, y]
  | x :: xs, y :: ys, 0, d, h => by
    rw [zipD, List.getElem?_cons_zero] at h
    cases h
    exact ⟨x, y, rfl, rfl, rfl⟩
  | x :: xs, y :: ys, i + 1, d, h => by
    rw [zipD, List.getElem?_cons_succ] at h
    simpa using zipD_get xs ys i d h
  | [], _, _, _, h => by simp [zipD] at h
  | _ :: _, [], _, _, h => by simp [zipD] at h
theorem zipD_none : ∀ (xs ys : List PyData) (i : Nat), (zipD xs ys)[i]? = none → xs.length ≤ i ∨ ys.length ≤ i
  | x :: xs, y :: ys, 0, h => by simp [zipD] at h
  | x :: xs, y :: ys, i + 1, h => by
    rw [zipD, List.getElem?_cons_succ] at h
    rcases zipD_none xs ys i h with q | q
    · exact .inl (by simpa using q)
    · exact .inr (by simpa using q)
  | [], _, _, _ => .inl (Nat.zero_le _)
  | _ :: _, [], _, _ => .inr (Nat.zero_le _)
theorem walk_zip {μ : Mu} {H : Hp} {p r : Addr} {vs ws : List V} {ds es : List PyData} (s : SqL K (hid μ H) p vs) (t : DaAll K (hid μ H) vs ds) (s2 : SqL K (hid μ H) r ws) (t2 : DaAll K (hid μ H) ws es) : Walk false K μ H (Itz K p r) (zipD ds es) := fun i μ' H' e m => by
  have s' : SqL K H' p vs := unhid.seq (e.seq s)
  have s2' : SqL K H' r ws := unhid.seq (e.seq s2)
  refine ⟨fun d hd => ?_, fun hd => ⟨vs, ws, s', s2', ?_⟩⟩
  · obtain ⟨x, y, hx, hy, rfl⟩ := zipD_get _ _ _ _ hd
    obtain ⟨v, h1, h2⟩ := t.get hx
    obtain ⟨u, h3, h4⟩ := t2.get hy
    refine ⟨⟨vs, ws, v, u, s', s2', h1, h3⟩, ?_⟩
    rintro z H2 ⟨T, x', y', rfl, hT, rfl, e2, e3⟩
    have e4 := e2 vs s'
    have e5 := e3 ws s2'
    rw [h1] at e4
    rw [h3] at e5
    cases e4; cases e5
    exact ⟨ext_new hT, m.new hT, Or.inr ⟨T, _, _, rfl, rfl, .inl (.inl (hid_new m hT)), (.cons ((h2.mono e).mono (ext_new hT)) (.cons ((h4.mono e).mono (ext_new hT)) .nil))⟩⟩
  · rw [t.length, t2.length]
    exact zipD_none _ _ _ hd
def dwZip (ta : DTA) : DTI := fun δ μ Q => ta δ μ fun ds μ1 => match ds with
  | [.d (.list xs), .d (.list ys)] => Q (zipD xs ys) μ1
  | _ => False
end
end DL

namespace DL
open PySem PySem.Spec PyProof.Rows L2

def wipeD (δ : DSt) : List Nat → DSt
  | [] => δ
  | v :: vs => (wipeD δ vs).set v none
theorem wipe_get (σ : L2.St) : ∀ (vs : List Nat) (k : Nat), (wipe σ vs)[k]? = if k ∈ vs ∧ k < σ.length then some none else σ[k]?
  | [], k => by simp [wipe]
  | v :: vs, k => by
    unfold wipe
    by_cases hk : v = k
    · subst hk
      by_cases hl : v < σ.length
      · rw [List.getElem?_set_self (by rw [wipe_length]; exact hl), if_pos ⟨List.mem_cons_self, hl⟩]
      · rw [List.getElem?_eq_none (by rw [List.length_set, wipe_length]; omega), if_neg (fun z => hl z.2), List.getElem?_eq_none (by omega)]
    · rw [List.getElem?_set_ne hk, wipe_get σ vs k]
      have e : (k ∈ v :: vs ∧ k < σ.length) ↔ (k ∈ vs ∧ k < σ.length) := by
        simp only [List.mem_cons]
        exact ⟨fun z => ⟨z.1.resolve_left fun q => hk q.symm, z.2⟩, fun z => ⟨.inr z.1, z.2⟩⟩
      by_cases h : k ∈ vs ∧ k < σ.length
      · rw [if_pos h, if_pos (e.mpr h)]
      · rw [if_neg h, if_neg (fun z => h (e.mp z))]
theorem wipeD_length (δ : DSt) : ∀ vs : List Nat, (wipeD δ vs).length = δ.length
  | [] => rfl
  | v :: vs => by unfold wipeD; rw [List.length_set, wipeD_length δ vs]
theorem wipeD_some {δ : DSt} {i : Nat} {x : DV} : ∀ {vs : List Nat}, (wipeD δ vs)[i]? = some (some x) → δ[i]? = some (some x) ∧ i ∉ vs
  | [], h => ⟨h, by simp⟩
  | v :: vs, h => by
    unfold wipeD at h
    by_cases hi : v = i
    · subst hi
      by_cases hv : v < (wipeD δ vs).length
      · rw [List.getElem?_set_self hv] at h; cases h
      · rw [List.getElem?_eq_none (by simpa using hv)] at h; cases h
    · rw [List.getElem?_set_ne hi] at h
      obtain ⟨h1, h2⟩ := wipeD_some h
      exact ⟨h1, by simp only [List.mem_cons, not_or]; exact ⟨fun e => hi e.symm, h2⟩⟩
theorem RS.wipe {K : PySem.W.Frag} {μ : Mu} {H : Hp} {σ : L2.St} {δ : DSt} (h : RS K μ H σ δ) (vs : List Nat) : RS K μ H (wipe σ vs) (wipeD δ vs) :=
  h.weak (by rw [wipe_length, wipeD_length]; exact h.1) fun i d e => by
    obtain ⟨h1, h2⟩ := wipeD_some e
    exact ⟨h1, wipe_out h2⟩
theorem wipe_set {σ : L2.St} {i : Nat} {x : Option V} {vs : List Nat} (h : i ∈ vs) : wipe (σ.set i x) vs = wipe σ vs := by
  apply List.ext_getElem?
  intro k
  rw [wipe_get, wipe_get, List.length_set]
  by_cases hk : k ∈ vs ∧ k < σ.length
  · rw [if_pos hk, if_pos hk]
  · rw [if_neg hk, if_neg hk]
    by_cases e : i = k
    · subst e
      have : ¬ i < σ.length := fun z => hk ⟨h, z⟩
      rw [List.getElem?_eq_none (by rw [List.length_set]; omega), List.getElem?_eq_none (by omega)]
    · rw [List.getElem?_set_ne e]
theorem wipe_wipe {σ : L2.St} {vs : List Nat} : wipe (wipe σ vs) vs = wipe σ vs := by
  apply List.ext_getElem?
  intro k
  rw [wipe_get, wipe_length]
  by_cases hk : k ∈ vs ∧ k < σ.length
  · rw [if_pos hk, wipe_get, if_pos hk]
  · rw [if_neg hk]

/-- a comprehension's target -/
structure CompG (b : Bool) (K : PySem.W.Frag) (vs : List Nat) (g : TG) (gd : DTG) : Prop where
  use : ∀ {v : V} {d : DV} {σ : L2.St} {δ : DSt} {μ : Mu} {H : Hp} {Qd : DSt → Mu → Prop} {Q : L2.St → Hp → Prop}, RS K μ H (wipe σ vs) (wipeD δ vs) → RM K μ H → RVb b K μ H v d → gd d (wipeD δ vs) μ Qd →
    (∀ σ2 δ2, RS K μ H σ2 δ2 → wipe σ2 vs = wipe σ vs → Qd δ2 μ → Q σ2 H) → g v (wipe σ vs) H Q
theorem compG_name {K : PySem.W.Frag} {vs : List Nat} {i : Nat} (h : i ∈ vs) : CompG true K vs (gName i) (gdName i) := ⟨fun {v d σ δ μ H Qd Q} rs rm r q w => w _ _ (rs.set r.rv i) (by rw [wipe_set h, wipe_wipe]) q⟩
theorem gNames_use2 {vs' : List Nat} : ∀ {is : List Nat} {vs : List V} {xs : List PyData} {K : PySem.W.Frag} {μ : Mu} {H : Hp} {σ : L2.St} {δ : DSt} {Q : L2.St → Hp → Prop}, (∀ i ∈ is, i ∈ vs') → DaAll K (hid μ H) vs xs → xs.length = is.length → RS K μ H σ δ →
    (∀ σ', RS K μ H σ' (setAll is xs δ) → wipe σ' vs' = wipe σ vs' → Q σ' H) → gNames is vs σ H Q
  | [], _, _, _, _, _, _, _, _, _, r, hl, rs, q => by
    cases r with
    | nil => exact ⟨rfl, q _ rs rfl⟩
    | cons _ _ => simp at hl
  | i :: is, _, _, _, _, _, _, _, _, hi, r, hl, rs, q => by
    cases r with
    | nil => simp at hl
    | @cons v vs d ds a t =>
      exact ⟨v, vs, rfl, gNames_use2 (vs' := vs') (fun j hj => hi j (List.mem_cons_of_mem _ hj)) t (by simpa using hl) (rs.set (d := .d d) a i) fun σ' rs' e => q σ' rs' (by rw [e, wipe_set (hi i List.mem_cons_self)])⟩
theorem compG_tup {bb : Bool} {K : PySem.W.Frag} {vs is : List Nat} (h : ∀ i ∈ is, i ∈ vs) : CompG bb K vs (gTup K is.length (gNames is)) (gdTup is) := ⟨fun {v d σ δ μ H Qd Q} rs rm r q w => by
  unfold gdTup at q
  split at q
  · next xs =>
    obtain ⟨a, us, rfl, s, t⟩ := DaI.tup (DaB.i (show DaB bb K (hid μ H) v (.tuple xs) from r))
    exact ⟨a, us, rfl, same_seqW unhid s, by rw [t.length, q.1], gNames_use2 h t q.1 rs fun σ' rs' e => w σ' _ rs' (by rw [e, wipe_wipe]) q.2⟩
  · exact q.elim⟩

section
variable {X : Cx} {pos : Pos} {elt tg iter : Expr} {ifs : List Expr} {scope : Scope} {own : List (Str × Nat)} {wi : DTI} {g : TG} {gd : DTG} {tt : DTT} {te : DT}
def lcGo (gd : DTG) (tt : DTT) (te : DT) (δw : DSt) (D : Addr) (fin : List PyData → Mu → Prop) : List PyData → List PyData → Mu → Prop
  | [], acc, μ => fin acc μ
  | d :: ds, acc, μ => gd (.d d) δw μ fun δ2 μ2 => tt δ2 μ2 fun b μ3 => if b = true then te δ2 μ3 fun y μ4 => match y with
      | .d x => μ4 D = some (.lst acc) ∧ acc.length < 1000000 ∧ lcGo gd tt te δw D fin ds (acc ++ [x]) (put μ4 D (.lst (acc ++ [x])))
      | .cell _ => False
    else μ3 D = some (.lst acc) ∧ lcGo gd tt te δw D fin ds acc μ3
/-- the list is data -/
def dLc (wi : DTI) (gd : DTG) (tt : DTT) (te : DT) (vs : List Nat) : DT := fun δ μ Q => wi δ μ fun ds μ1 => ∀ D, μ1 D = none → lcGo gd tt te (wipeD δ vs) D (fun acc μ' => Q (.d (.list acc)) (del μ' D)) ds [] (put μ1 D (.lst []))
/-- the list will be changed -/
def dLcC (wi : DTI) (gd : DTG) (tt : DTT) (te : DT) (vs : List Nat) : DT := fun δ μ Q => wi δ μ fun ds μ1 => ∀ D, μ1 D = none → lcGo gd tt te (wipeD δ vs) D (fun acc μ' => Q (.cell D) μ') ds [] (put μ1 D (.lst []))
def dYes : DTT := fun _ μ Q => Q true μ
abbrev DTs (X : Cx) (ifs : List Expr) (t : DTT) : Prop := PTs X ifs (upT X.K t)
theorem t_nil : DTs X [] dYes := ⟨fun pins s σ H Q I ⟨δ, μ, Qd, rs, rm, q, w⟩ => (pts_nil (X := X)).run pins s σ H Q I (w true μ H (.refl _ _) rm q)⟩
theorem t_one {c : Expr} {t : DTT} (h : DC X c t) : DTs X [c] t := pts_one h
theorem lc_up {bb : Bool} {K : PySem.W.Frag} (G : CompG bb K (own.map (·.2)) g gd) {fin : List PyData → Mu → Prop} {δ : DSt} {μ : Mu} {H : Hp} {σ : L2.St} {Q : VK} {J : It} {ds : List PyData} {D : Addr} (rs : RS K μ H σ δ) (rm : RM K μ H) (wk : Walk bb K μ H J ds) (hD : H D = none)
    (h : lcGo gd tt te (wipeD δ (own.map (·.2))) D fin ds [] (put μ D (.lst [])))
    (hf : ∀ acc μ' H', Ext μ H μ' H' → RM K μ' H' → μ' D = some (.lst acc) → fin acc μ' → Q (.ref D) H') :
    ∃ W : Nat → Nat → Hp → Prop, (∃ m, W 0 m (upd H D (.lst []))) ∧ ∀ i m H, W i m H → (J.stop i H ∧ Q (.ref D) H) ∨ (J.go i H ∧ ∃ Nx : Hp → Prop, (∀ H', Nx H' → ∃ m', m' < m ∧ W (i + 1) m' H') ∧ ∀ x H', J.yld i H x H' → g x (wipe σ (own.map (·.2))) H' fun σ2 H2 => wipe σ2 (own.map (·.2)) = wipe σ (own.map (·.2)) ∧ upT K tt σ2 H2 fun b H3 =>
      if b = true then up K te σ2 H3 fun y H4 => ∃ acc, H4 D = some (.lst acc) ∧ acc.length < sizeLine ∧ Nx (upd H4 D (.lst (acc ++ [y]))) else Nx H3) := by
  refine ⟨fun i m H1 => ∃ μ1 acc, i ≤ ds.length ∧ m = ds.length - i ∧ Ext μ H μ1 H1 ∧ RM K μ1 H1 ∧ μ1 D = some (.lst acc) ∧ lcGo gd tt te (wipeD δ (own.map (·.2))) D fin (ds.drop i) acc μ1,
    ⟨ds.length, put μ D (.lst []), [], Nat.zero_le _, by omega, ext_cell hD, rm.cell hD ⟨[], upd_same, .nil⟩, put_same, by simpa using h⟩, ?_⟩
  rintro i m H1 ⟨μ1, acc, hi, rfl, e1, m1, hD1, h1⟩
  have wk1 := wk i μ1 H1 e1 m1
  cases hd : ds[i]? with
  | none =>
    have hle : ds.length ≤ i := List.getElem?_eq_none_iff.mp hd
    rw [List.drop_eq_nil_of_le hle] at h1
    exact .inl ⟨wk1.2 hd, hf acc μ1 H1 e1 m1 hD1 h1⟩
  | some d =>
    have hlt : i < ds.length := (List.getElem?_eq_some_iff.mp hd).1
    have hdr : ds.drop i = d :: ds.drop (i + 1) := by
      rw [List.drop_eq_getElem_cons hlt]
      congr 1
      exact (List.getElem?_eq_some_iff.mp hd).2
    rw [hdr] at h1
    obtain ⟨go, yl⟩ := wk1.1 d hd
    refine .inr ⟨go, fun H' => ∃ μ' acc', Ext μ H μ' H' ∧ RM K μ' H' ∧ μ' D = some (.lst acc') ∧ lcGo gd tt te (wipeD δ (own.map (·.2))) D fin (ds.drop (i + 1)) acc' μ', fun H' ⟨μ', acc', x1, x2, x3, x4⟩ => ⟨ds.length - (i + 1), by omega, μ', acc', by omega, rfl, x1, x2, x3, x4⟩, fun x H2 hy => ?_⟩
    obtain ⟨e2, m2, r2⟩ := yl x H2 hy
    have e12 := e1.trans e2
    have rs2 : RS K μ1 H2 (wipe σ (own.map (·.2))) (wipeD δ (own.map (·.2))) := (rs.mono e12).wipe _
    refine G.use (d := .d d) rs2 m2 r2 h1 fun σ2 δ2 rs3 hw h3 => ⟨hw, ?_⟩
    refine upT_use rs3 m2 h3 fun b μ3 H3 e3 m3 h4 => ?_
    cases b with
    | false =>
      rw [if_neg Bool.false_ne_true] at h4 ⊢
      exact ⟨μ3, acc, e12.trans e3, m3, h4.1, h4.2⟩
    | true =>
      rw [if_pos rfl] at h4 ⊢
      refine up_use (rs3.mono e3) m3 h4 fun y μ4 v H4 e4 m4 r4 h5 => ?_
      split at h5
      · next z =>
        obtain ⟨h6, h7, h8⟩ := h5
        obtain ⟨vs, g1, g2⟩ := m4 D _ h6
        refine ⟨vs, g1, by rw [g2.length]; exact Nat.lt_of_lt_of_le h7 (by decide), put μ4 D (.lst (acc ++ [z])), acc ++ [z], (e12.trans (e3.trans e4)).trans (ext_write h6), m4.write h6 ⟨_, upd_same, ?_⟩, put_same, h8⟩
        exact (g2.append (.cons r4 .nil)).mono (ext_write h6)
      · exact h5.elim
theorem d_lc {bb : Bool} (hc : X.calm = true) (hN : X.N.Nodup) (hi : DI bb X tg iter wi) (ok : BlkOk X.N X.env.scope scope own) (G : CompG bb X.K (own.map (·.2)) g gd)
    (hg : ∀ (s : Shared) (H : Hp) (C : Addr) (cl : List (Str × Addr)) (fp : List Addr), PG (X.blk s H scope (compEnvC scope cl C X.env) fp) tg g)
    (ht : ∀ (s : Shared) (H : Hp) (C : Addr) (cl : List (Str × Addr)) (fp : List Addr), DTs (X.blk s H scope (compEnvC scope cl C X.env) fp) ifs tt)
    (he : ∀ (s : Shared) (H : Hp) (C : Addr) (cl : List (Str × Addr)) (fp : List Addr), DE (X.blk s H scope (compEnvC scope cl C X.env) fp) elt te)
    (hs : ∀ (x : Value), foldedSetIterable iter X.env x = pure x := by intro _; rfl) : DE X (.ListComp elt [⟨tg, iter, ifs, 0⟩] scope pos) (dLc wi gd tt te (own.map (·.2))) :=
  pe_imp (pe_lc hc hN hi ok hg ht he hs) fun σ H Q ⟨δ, μ, Qd, rs, rm, q, w⟩ => ⟨δ, μ, _, rs, rm, q, fun ds μ1 H1 J e1 m1 wk q1 D hD => by
    refine lc_up (fin := fun acc μ' => Qd (.d (.list acc)) (del μ' D)) G (rs.mono e1) m1 wk hD (q1 D (m1.free hD)) fun acc μ' H' e2 m2 hd qq => ?_
    exact w (.d (.list acc)) (del μ' D) _ H' (e1.trans (e2.trans ext_freeze)) m2.freeze (freeze_lst m2 hd) qq⟩
theorem d_lcC {bb : Bool} (hc : X.calm = true) (hN : X.N.Nodup) (hi : DI bb X tg iter wi) (ok : BlkOk X.N X.env.scope scope own) (G : CompG bb X.K (own.map (·.2)) g gd)
    (hg : ∀ (s : Shared) (H : Hp) (C : Addr) (cl : List (Str × Addr)) (fp : List Addr), PG (X.blk s H scope (compEnvC scope cl C X.env) fp) tg g)
    (ht : ∀ (s : Shared) (H : Hp) (C : Addr) (cl : List (Str × Addr)) (fp : List Addr), DTs (X.blk s H scope (compEnvC scope cl C X.env) fp) ifs tt)
    (he : ∀ (s : Shared) (H : Hp) (C : Addr) (cl : List (Str × Addr)) (fp : List Addr), DE (X.blk s H scope (compEnvC scope cl C X.env) fp) elt te)
    (hs : ∀ (x : Value), foldedSetIterable iter X.env x = pure x := by intro _; rfl) : DE X (.ListComp elt [⟨tg, iter, ifs, 0⟩] scope pos) (dLcC wi gd tt te (own.map (·.2))) :=
  pe_imp (pe_lc hc hN hi ok hg ht he hs) fun σ H Q ⟨δ, μ, Qd, rs, rm, q, w⟩ => ⟨δ, μ, _, rs, rm, q, fun ds μ1 H1 J e1 m1 wk q1 D hD => by
    refine lc_up (fin := fun acc μ' => Qd (.cell D) μ') G (rs.mono e1) m1 wk hD (q1 D (m1.free hD)) fun acc μ' H' e2 m2 hd qq => ?_
    exact w (.cell D) μ' _ H' (e1.trans e2) m2 rfl qq⟩
/-- y = [..] -/
theorem s_setLc {bb : Bool} {i : Nat} {y : Str} {py spos : Pos} (hc : X.calm = true) (hN : X.N.Nodup) (hy : X.N[i]? = some y) (hyl : X.env.scope.names.lookup y = some .local) (hsw : swapsWith (.ListComp elt [⟨tg, iter, ifs, 0⟩] scope pos) (some (.Name y py)) spos.line X.env = pure true)
    (hi : DI bb X tg iter wi) (ok : BlkOk X.N X.env.scope scope own) (G : CompG bb X.K (own.map (·.2)) g gd)
    (hg : ∀ (s : Shared) (H : Hp) (C : Addr) (cl : List (Str × Addr)) (fp : List Addr), PG (X.blk s H scope (compEnvC scope cl C X.env) fp) tg g)
    (ht : ∀ (s : Shared) (H : Hp) (C : Addr) (cl : List (Str × Addr)) (fp : List Addr), DTs (X.blk s H scope (compEnvC scope cl C X.env) fp) ifs tt)
    (he : ∀ (s : Shared) (H : Hp) (C : Addr) (cl : List (Str × Addr)) (fp : List Addr), DE (X.blk s H scope (compEnvC scope cl C X.env) fp) elt te)
    (hs : ∀ (x : Value), foldedSetIterable iter X.env x = pure x := by intro _; rfl) : DS X (.Assign [.Name y py] (.ListComp elt [⟨tg, iter, ifs, 0⟩] scope pos) spos) (sAsg (dLc wi gd tt te (own.map (·.2))) (gdName i)) :=
  ps_imp (ps_setLc hc hN hy hyl hsw hi ok hg ht he hs) fun D' σ H ⟨δ, μ, Dd, rs, rm, q, w⟩ => ⟨δ, μ, _, rs, rm, q, fun ds μ1 H1 J e1 m1 wk q1 D hD => by
    refine lc_up (fin := fun acc μ' => Dd.nx (δ.set i (some (.d (.list acc)))) (del μ' D)) (Q := fun v H' => D'.nx (σ.set i (some v)) H') G (rs.mono e1) m1 wk hD (q1 D (m1.free hD)) fun acc μ' H' e2 m2 hd qq => ?_
    have e3 := e1.trans (e2.trans (ext_freeze (p := D)))
    exact w.nx _ (del μ' D) _ H' e3 m2.freeze ((rs.mono e3).set (d := .d (.list acc)) (freeze_lst m2 hd) i) qq⟩

def forGo (gd : DTG) (tb : DTS) (D : DEnds) : List PyData → DSt → Mu → Prop
  | [], δ, μ => D.nx δ μ
  | d :: ds, δ, μ => gd (.d d) δ μ fun δ2 μ2 => tb { D with nx := forGo gd tb D ds, ct := forGo gd tb D ds, bk := D.nx } δ2 μ2
def sFor (wi : DTI) (gd : DTG) (tb : DTS) : DTS := fun D δ μ => wi δ μ fun ds μ1 => forGo gd tb D ds δ μ1
variable {body : List Stmt} {tb : DTS}
theorem s_for {bb : Bool} (hp : PassesOwn (model X.prog X.w) X.A X.env X.xe) (hc : X.calm = true) (hi : DI bb X tg iter wi) (hg : DG bb X tg gd) (hb : DSs X body tb) (hs : ∀ (x : Value), foldedSetIterable iter X.env x = pure x := by intro _; rfl) : DS X (.For tg iter body [] pos) (sFor wi gd tb) :=
  ps_imp (ps_for hp hc hi hg hb hs) fun D σ H ⟨δ, μ, Dd, rs, rm, q, w⟩ => ⟨δ, μ, _, rs, rm, q, fun ds μ1 H1 J e1 m1 wk q1 => by
    refine ⟨fun i m σ' H' => ∃ δ' μ', i ≤ ds.length ∧ m = ds.length - i ∧ Ext μ1 H1 μ' H' ∧ RM X.K μ' H' ∧ RS X.K μ' H' σ' δ' ∧ forGo gd tb Dd (ds.drop i) δ' μ', ⟨ds.length, δ, μ1, Nat.zero_le _, by omega, .refl _ _, m1, rs.mono e1, by simpa using q1⟩, ?_⟩
    rintro i m σ' H' ⟨δ', μ', hi', rfl, e2, m2, rs2, h1⟩
    have wk1 := wk i μ' H' e2 m2
    cases hd : ds[i]? with
    | none =>
      have hle : ds.length ≤ i := List.getElem?_eq_none_iff.mp hd
      rw [List.drop_eq_nil_of_le hle] at h1
      exact .inl ⟨wk1.2 hd, w.nx δ' μ' σ' H' (e1.trans e2) m2 rs2 h1⟩
    | some d =>
      have hlt : i < ds.length := (List.getElem?_eq_some_iff.mp hd).1
      have hdr : ds.drop i = d :: ds.drop (i + 1) := by
        rw [List.drop_eq_getElem_cons hlt]
        congr 1
        exact (List.getElem?_eq_some_iff.mp hd).2
      rw [hdr] at h1
      obtain ⟨go, yl⟩ := wk1.1 d hd
      refine .inr ⟨go, fun σ2 H2 => ∃ δ2 μ2, Ext μ1 H1 μ2 H2 ∧ RM X.K μ2 H2 ∧ RS X.K μ2 H2 σ2 δ2 ∧ forGo gd tb Dd (ds.drop (i + 1)) δ2 μ2, fun σ2 H2 ⟨δ2, μ2, x1, x2, x3, x4⟩ => ⟨ds.length - (i + 1), by omega, δ2, μ2, by omega, rfl, x1, x2, x3, x4⟩, fun x H2 hy => ?_⟩
      obtain ⟨e3, m3, r3⟩ := yl x H2 hy
      refine ⟨δ', μ', .d d, _, rs2.mono e3, m3, r3, h1, fun δ4 μ4 σ4 H4 e4 m4 rs4 h4 => ⟨δ4, μ4, _, rs4, m4, h4, ?_⟩⟩
      have e24 := e2.trans (e3.trans e4)
      exact ⟨fun δ5 μ5 σ5 H5 e5 m5 rs5 h5 => ⟨δ5, μ5, e24.trans e5, m5, rs5, h5⟩, w.rt.step (e1.trans e24), fun δ5 μ5 σ5 H5 e5 m5 rs5 h5 => w.nx δ5 μ5 σ5 H5 (e1.trans (e24.trans e5)) m5 rs5 h5, fun δ5 μ5 σ5 H5 e5 m5 rs5 h5 => ⟨δ5, μ5, e24.trans e5, m5, rs5, h5⟩⟩⟩
end
end DL

namespace DL
open PySem PySem.Spec PyProof.Rows L2

structure RoomG (k : Nat) (A : Around) : Prop where
  r : Room k A
  g : A.guards = some []
theorem RoomG.mono {j k : Nat} {A : Around} (r : RoomG k A) (h : j ≤ k) : RoomG j A := ⟨r.r.mono h, r.g⟩
theorem RoomG.deeper {k : Nat} {A : Around} (r : RoomG (k + 1) A) (env : Env) : RoomG k (A.deeper env) := ⟨r.r.deeper env, r.g⟩
/-- a def's promise over data: the arguments, the cells, the wish -/
abbrev DSp := List DV → Mu → DK → Prop
structure FnD (P : Program) (w : World) (K : PySem.W.Frag) (mg : Str → Option Value) (base : Heap) (k : Nat) (f : Addr) (fd : FuncData) (ps : List Str) (sp : DSp) : Prop where
  len : ∀ ds μ Q, sp ds μ Q → ds.length = ps.length
  run : ∀ (A : Around) (outer : List Env) (s : Shared) (H : Hp) (args : Args) (us : List Value) (vs : List V) (ds : List DV) (μ : Mu) (Qd : DK) (Q : VK), RoomG k A → Env0 P w K mg base A outer s H → BindsTo s fd args (ps.zip us) → Vals vs us →
    RVs K μ H vs ds → RM K μ H → sp ds μ Qd → Wk K μ H Qd Q → codeAny (model P w) A (.call (.ref f) args) (CR CX0 outer P w H s Q E0) s
theorem FnD.mono {P : Program} {w : World} {K : PySem.W.Frag} {mg : Str → Option Value} {base : Heap} {j k : Nat} {f : Addr} {fd : FuncData} {ps : List Str} {sp : DSp} (F : FnD P w K mg base j f fd ps sp) (h : j ≤ k) : FnD P w K mg base k f fd ps sp :=
  ⟨F.len, fun A outer s H args us vs ds μ Qd Q hr => F.run A outer s H args us vs ds μ Qd Q (hr.mono h)⟩
section
variable {P : Program} {w : World} {K : PySem.W.Frag} {mg : Str → Option Value} {base : Heap}
/-- the data at the entry of a def's body -/
def dstart (n : Nat) (ds : List DV) : DSt := ds.map some ++ List.replicate (n - ds.length) none
/-- the context in which a body is read -/
abbrev cxD (P : Program) (w : World) (K : PySem.W.Frag) (mg : Str → Option Value) (base : Heap) (N : List Str) (qual : Str) (scope : Scope) (f : Addr) (cd : Value) (A : Around) (outer : List Env) (s : Shared) (H : Hp) : Cx :=
  (cxOf CX0 P w K mg base N qual scope f cd A outer s H E0).nox
theorem Fun.okD {x qual : Str} {st : Stmt} {f : Addr} {fd : FuncData} {N ps : List Str} {k : Nat} {sp : DSp} (F : Fun K x qual st f fd) (S : FnScope N ps (defScope st)) (len : ∀ ds μ Q, sp ds μ Q → ds.length = ps.length)
    (hbody : ∀ (cdv : Value) (A : Around) (outer : List Env) (s : Shared) (H : Hp), RoomG k (A.deeper (envOfC qual (defScope st) s.heap.objs.size f cdv)) →
      ∃ t, DSs (cxD P w K mg base N qual (defScope st) f cdv A outer s H) (defBody st) t ∧ ∀ ds μ Q, sp ds μ Q → t { nx := fun _ μ' => Q (.d .none) μ', rt := Q } (dstart N.length ds) μ) : FnD P w K mg base (k + 1) f fd ps sp := by
  obtain ⟨oc, od, kV, doc, pm, an, cdv, ct, osl, rfl, lk, hcd⟩ := F.ex
  refine ⟨len, fun A outer s H args us vs ds μ Qd Q hr e0 hb r rd rm hsp hw => ?_⟩
  have hld := len _ _ _ hsp
  have hl : vs.length = ps.length := (Paired.length rd).trans hld
  have KX : K.In s.heap := e0.mod.kin.keeps fun b o e => (e0.bs b o e).1
  have lim : s.heap.NoLimit := e0.mod.nolimit.keeps fun b o e => (e0.bs b o e).1
  obtain ⟨t, ht, hq⟩ := hbody cdv A outer s H (hr.deeper _)
  have hpar : ((ps.zip us).all fun y => (defScope st).names.lookup y.1 == some .local || (defScope st).names.lookup y.1 == some .cell) = true := by
    rw [List.all_eq_true]
    rintro ⟨n, v⟩ hy
    rcases S.par n (List.of_mem_zip hy).1 with q | q
    · simp [q]
    · simp [q]
  refine Att.call_fn KX lim lk hcd hr.r.depth hb hpar (fun s1 x => ?_) S.co S.gen S.kind
  have I : Inv (cxOf CX0 P w K mg base N qual (defScope st) f cdv A outer s H E0) [] (L2.start N vs) H s1 := inv_start S hr.r.hd e0 hl r x
  have h2 := ht.run [] s1 (L2.start N vs) H { nx := fun _ H' => Q .non H', rt := Q } (I.wish _) ⟨dstart N.length ds, μ, _, RS.start rd, rm, hq ds μ Qd hsp,
    ⟨fun δ' μ' σ' H' e m _ q => hw (.d .none) μ' .non H' e m Da.non q, hw, fun _ _ _ _ _ _ _ q => q, fun _ _ _ _ _ _ _ q => q⟩⟩
  refine wpAny_mono h2 (fun fl s' hs => ?_) fun _ _ z => z.elim
  have hs := hs.unwish
  cases fl with
  | ret u =>
    obtain ⟨v, σ', H', J, rv, q⟩ := hs
    exact ⟨v, H', J.os, J.bare, J.base, J.hok, rv, q⟩
  | next =>
    obtain ⟨σ', H', J, q⟩ := hs
    exact ⟨.non, H', J.os, J.bare, J.base, J.hok, rfl, q⟩
  | brk =>
    obtain ⟨_, _, _, q⟩ := hs
    exact q.elim
  | cont =>
    obtain ⟨_, _, _, q⟩ := hs
    exact q.elim
end

section
variable {X : Cx} {k : Nat} {f : Addr} {fd : FuncData} {ps : List Str} {sp : DSp} {x : Str} {p pos : Pos} {e : Expr} {es : List Expr} {tr : DTA}
theorem run_D {pins : List (Addr × Obj)} {σ : L2.St} {H : Hp} {s : Shared} {Q : VK} {args : Args} {us : List Value} {vs : List V} {ds : List DV} {μ : Mu} {Qd : DK} (F : FnD X.prog X.w X.K X.mg X.base k f fd ps sp) (hr : RoomG k X.A) (hb : BindsTo s fd args (ps.zip us))
    (I : Inv X pins σ H s) (r : Vals vs us) (rd : RVs X.K μ H vs ds) (rm : RM X.K μ H) (h : sp ds μ Qd) (w : Wk X.K μ H Qd Q) : codeAny (model X.prog X.w) X.A (.call (.ref f) args) (fun r s' => match r with
      | .ok (.ret u) => EP X pins σ Q u s'
      | .ok _ => False
      | .error e => X.xe e s') s :=
  codeAny_mono (F.run X.A X.stack s H args us vs ds μ Qd Q hr I.env0 hb r rd rm h w) fun r s' hq => by
    cases r with
    | error e => exact hq.elim
    | ok fl =>
      cases fl with
      | ret u => exact I.after hq
      | next => exact hq.elim
      | brk => exact hq.elim
      | cont => exact hq.elim
def dCallF (sp : DSp) (t : DTA) : DT := fun δ μ Q => t δ μ fun ds μ1 => sp ds μ1 Q
theorem d_call (F : FnD X.prog X.w X.K X.mg X.base k f fd ps sp) (hr : RoomG k X.A) (hg : Gl X x) (hm : X.mg x = some (.ref f)) (hk : PySem.W.keepIn X.K (.ref f) = true) (hb : Binds X.K fd ps []) (ha : DA X (e :: es) tr)
    (hdb : (x == ("__debug__" : Str)) = false := by decide) (he : starEach (e :: es) X.env = (false, eval e X.env) :: starEach es X.env := by rfl) (hpl : (backTo pos (starEach es X.env)).any (·.1) = false := by rfl) :
    DE X (.Call (.Name x p) (e :: es) [] pos) (dCallF sp tr) := by
  refine ⟨fun pins s σ H Q I ⟨δ, μ, Qd, rs, rm, q, w⟩ => ?_⟩
  refine wpAny_Call_Name_kw (ld_glob I hg hm ?_ hdb)
  refine PySem.W.callWith_K (h₀ := X.base) I.ok.mod.kin hk ?_ he hpl
  refine thn (ha.run pos pins s σ H (fun vs H' => ∃ ds μ', Ext μ H μ' H' ∧ RM X.K μ' H' ∧ RVs X.K μ' H' vs ds ∧ sp ds μ' Qd) I (upA_use rs rm q fun ds μ' vs H' e1 m1 r1 q1 => ⟨ds, μ', e1, m1, r1, q1⟩)) ?_
  rintro us s1 ⟨vs, H1, I1, r, ds, μ1, e1, m1, r1, q1⟩
  refine ⟨I1.kIn, wpAny_call (codeAny_mono (run_D F hr (us := us) ?_ I1 r r1 m1 q1 (w.step e1)) fun r s' hq => ?_)⟩
  · have hl : us.length = ps.length := by rw [← r.length, Paired.length r1]; exact F.len _ _ _ q1
    have z := hb s1 us I1.kIn (by simpa using hl)
    simpa using z
  · exact hq
/-- how keywords alone bind: g puts the values in the parameters' order -/
structure KB (K : PySem.W.Frag) (fd : FuncData) (ps ks : List Str) (g : {α : Type} → List α → List α) : Prop where
  to : ∀ (s : Shared) (ws : List Value), ws.length = ks.length → BindsTo s fd ⟨[], ks.zip ws⟩ (ps.zip (g ws))
  rel : ∀ {R : V → Value → Prop} {vs : List V} {us : List Value}, vs.length = ks.length → Paired R vs us → Paired R (g vs) (g us)
  relD : ∀ {R : V → DV → Prop} {vs : List V} {us : List DV}, vs.length = ks.length → Paired R vs us → Paired R (g vs) (g us)
abbrev DKw (X : Cx) (kws : List Keyword) (t : DTA) : Prop := PK X kws (upA X.K t)
theorem pk_imp {kws : List Keyword} {t t' : TA} (h : PK X kws t) (w : ∀ σ H Q, t' σ H Q → t σ H Q) : PK X kws t' := ⟨fun pos pins s σ H Q I q => h.run pos pins s σ H Q I (w _ _ _ q)⟩
variable {kws : List Keyword} {nm : Option Str} {kpos : Pos} {te : DT}
theorem k_nil : DKw X [] aNil := pk_imp pk_nil fun σ H Q ⟨δ, μ, Qd, rs, rm, q, w⟩ => w [] μ [] H (.refl _ _) rm .nil q
theorem k_cons (ha : DE X e te) (hr : DKw X kws tr) : DKw X (⟨nm, e, kpos⟩ :: kws) (aCons te tr) :=
  pk_imp (pk_cons ha hr) fun σ H Q ⟨δ, μ, Qd, rs, rm, q, w⟩ => up_use rs rm q fun x μ1 v H1 e1 m1 r1 q1 => upA_use (rs.mono e1) m1 q1 fun xs μ2 vs H2 e2 m2 r2 q2 =>
    w (x :: xs) μ2 (v :: vs) H2 (e1.trans e2) m2 (.cons (r1.mono e2) r2) q2
def dCallK (sp : DSp) (n : Nat) (g : {α : Type} → List α → List α) (t : DTA) : DT := fun δ μ Q => t δ μ fun ds μ1 => ds.length = n ∧ sp (g ds) μ1 Q
theorem d_callK {ks : List Str} {g : {α : Type} → List α → List α} (F : FnD X.prog X.w X.K X.mg X.base k f fd ps sp) (hr : RoomG k X.A) (hg : Gl X x) (hm : X.mg x = some (.ref f)) (hk : PySem.W.keepIn X.K (.ref f) = true) (hb : KB X.K fd ps ks g) (ha : DKw X kws tr)
    (hall : (backToKw pos (keywordEach kws X.env)).all (·.1.isSome) = true := by rfl) (hks : (backToKw pos (keywordEach kws X.env)).filterMap (·.1) = ks := by rfl) (hdb : (x == ("__debug__" : Str)) = false := by decide)
    (hpl : ((backTo pos (starEach [] X.env)).any (·.1) || (backToKw pos (keywordEach kws X.env)).any (·.1.isNone)) = false := by rfl) :
    DE X (.Call (.Name x p) [] kws pos) (dCallK sp ks.length g tr) := by
  refine ⟨fun pins s σ H Q I ⟨δ, μ, Qd, rs, rm, q, w⟩ => ?_⟩
  refine wpAny_Call_Name_kw (ld_glob I hg hm ?_ hdb)
  refine PySem.W.callWith_KW0 (h₀ := X.base) I.ok.mod.kin hk hall ?_ hpl
  refine thn (ha.run pos pins s σ H (fun vs H' => ∃ ds μ', Ext μ H μ' H' ∧ RM X.K μ' H' ∧ RVs X.K μ' H' vs ds ∧ ds.length = ks.length ∧ sp (g ds) μ' Qd) I (upA_use rs rm q fun ds μ' vs H' e1 m1 r1 q1 => ⟨ds, μ', e1, m1, r1, q1⟩)) ?_
  rintro us s1 ⟨vs, H1, I1, r, ds, μ1, e1, m1, r1, hlen, q1⟩
  have hlv : vs.length = ks.length := (Paired.length r1).trans hlen
  refine ⟨I1.kIn, wpAny_call (codeAny_mono (run_D F hr (us := g us) ?_ I1 (hb.rel hlv r) (hb.relD hlv r1) m1 q1 (w.step e1)) fun r s' hq => hq)⟩
  rw [hks]
  exact hb.to s1 us (by rw [← r.length]; exact hlv)
end

theorem dtop_call {P : Program} {w : World} {K : PySem.W.Frag} {mg mb : Str → Option Value} {k : Nat} {fa a : Addr} {fd : FuncData} {x : Str} {s₁ : Shared} {vs : List Value} {ns : List Int} {sp : DSp}
    (KX : K.In s₁.heap) (hns : s₁.heap.Ns mainGlobals mg) (hb : s₁.heap.Ns builtinsNs mb) (hbb : ∀ x : Str, x ≠ "__name__" → mb x = bootBuiltins x) (hlim : s₁.heap.NoLimit) (hg : s₁.gens = #[])
    (ha : s₁.heap.get? a = some { cls := .type "list", data := .seq vs.toArray }) (hi : IntsAre vs ns) (hl : ns.length ≤ sizeLine) (hr : Room k callerA)
    (F : ∀ base : Heap, K.In base → base.Ns mainGlobals mg → FnD P w K mg base k fa fd [x] sp) (hbind : ∀ (s : Shared) (u : Value), BindsTo s fd ⟨[u], []⟩ [(x, u)])
    (hsp : sp [.d (.list (ns.map .int))] (fun _ => none) (fun d _ => d = .d (.bool true))) :
    codeAny (model P w) callerA (.call (.ref fa) ⟨[.ref a], []⟩) (fun r s' => r = .ok (.ret (.bool true)) ∧ OldK s₁.heap s'.heap ∧ s'.os = s₁.os ∧ AllBare s'.gens) s₁ := by
  have rv := vals_ints hi
  -- the heap that tracks the script alone, or nothing
  have main : ∀ H : Hp, (∀ b u, H b = some u → b = a ∧ K.lookup a = none ∧ u = .frz { cls := .type "list", data := .seq vs.toArray } (.lst (ns.map V.int))) → SqL K H a (ns.map V.int) → HOk P w H s₁.heap →
      codeAny (model P w) callerA (.call (.ref fa) ⟨[.ref a], []⟩) (fun r s' => r = .ok (.ret (.bool true)) ∧ OldK s₁.heap s'.heap ∧ s'.os = s₁.os ∧ AllBare s'.gens) s₁ := by
    intro H hA hS hok
    have keep : ∀ {b : Addr} {o : Obj}, s₁.heap.get? b = some o → (b = a → K.lookup a ≠ none ∨ ∃ es ep, o.data = .dict es ep) → H b = none := by
      intro b o e hno
      cases q : H b with
      | none => rfl
      | some u =>
        obtain ⟨e1, e2, _⟩ := hA b u q
        rcases hno e1 with z | ⟨es, ep, z⟩
        · exact absurd e2 z
        · rw [e1, ha] at e
          cases e
          cases (show Data.seq vs.toArray _ = Data.dict es ep from z)
    have bIn : K.In (hidT s₁.heap H) := fun b o e => hidT_get (KX b o e) (keep (KX b o e) fun z => .inl (by rw [← z, e]; simp))
    have bNs : ∀ {b : Addr} {m : Str → Option Value}, s₁.heap.Ns b m → (hidT s₁.heap H).Ns b m := fun ⟨o, es, ep, e, d, r⟩ => ⟨o, es, ep, hidT_get e (keep e fun _ => .inr ⟨es, ep, d⟩), d, r⟩
    have hM : Mod K mg (hidT s₁.heap H) := ⟨bIn, bNs hns, ⟨mb, bNs hb, hbb⟩, let ⟨mc, h1, h2⟩ := hlim; ⟨mc, bNs h1, h2⟩⟩
    have e0 : Env0 P w K mg (hidT s₁.heap H) callerA [] s₁ H := ⟨rfl, hM, fun b o e => of_hidT e, Nat.le_of_eq (hidT_size _ _), trivial, fun b hb => (nomatch hb), hok, .of_eq hg⟩
    have h0 : hid (fun _ => none) H = H := by funext b; rfl
    have hda : DaAll K (hid (fun _ => none) H) (ns.map V.int) (ns.map PyData.int) := DaAll.ints ns
    refine codeAny_mono ((F _ bIn (bNs hns)).run callerA [] s₁ H ⟨[.ref a], []⟩ [.ref a] [.ref a] [.d (.list (ns.map .int))] (fun _ => none) _ (fun v _ => v = .bl true) ⟨hr, rfl⟩ e0 (hbind s₁ (.ref a)) (.cons rfl .nil)
      (.cons (show Da K (hid (fun _ => none) H) (.ref a) (.list (ns.map .int)) from .lst (by rw [h0]; exact hS) hda) .nil) (fun b c e => by cases e) hsp fun d μ' v H' _ _ r q => ?_) fun r s' h => ?_
    · subst q
      cases (show Da K (hid μ' H') v (.bool true) from r)
      rfl
    · cases r with
      | error e => exact h.elim
      | ok fl =>
        cases fl with
        | next => exact h.elim
        | brk => exact h.elim
        | cont => exact h.elim
        | ret u =>
          obtain ⟨v, H', os, bare, un, hok', r', q⟩ := h
          have q' : v = .bl true := q
          subst q'
          cases (show u = Value.bool true from r')
          refine ⟨rfl, OldK.of_keep fun b o e => ?_, os, bare⟩
          cases q : H b with
          | none => exact un.keep b o e q (fun z => nomatch z) (fun z => nomatch z)
          | some u =>
            obtain ⟨_, _, e1⟩ := hA b u q
            subst e1
            obtain ⟨e2, _⟩ := hok b _ q
            obtain ⟨e3, _⟩ := hok' b _ (un.frzs b _ _ q)
            rw [e] at e2
            rw [e3, ← e2]
  cases hk : K.lookup a with
  | some o =>
    have e := KX a o hk
    rw [ha] at e
    cases e
    exact main (fun _ => none) (fun b u z => by cases z) (.inr ⟨_, vs.toArray, _, hk, rfl, rfl, rfl, by rw [List.size_toArray, hi.length]; exact hl, by simpa using rv⟩) fun b u z => by cases z
  | none =>
    refine main (fun b => if b = a then some (.frz { cls := .type "list", data := .seq vs.toArray } (.lst (ns.map V.int))) else none) (fun b u z => ?_) (.inl (.inr ⟨_, if_pos rfl⟩)) fun b u z => ?_
    · by_cases hb : b = a
      · rw [if_pos hb] at z; cases z; exact ⟨hb, hk, rfl⟩
      · rw [if_neg hb] at z; cases z
    · dsimp only at z
      by_cases hb : b = a
      · rw [if_pos hb] at z; cases z
        subst hb
        exact ⟨ha, by rw [List.length_map]; exact hl, vs, _, rv, ha⟩
      · rw [if_neg hb] at z; cases z
theorem dwalk {l : PySem.W.OpenLaw} {n k : Nat} {q : Program} {loose : List Str} {XP : (Str → Option Value) → Heap → Prop} {YP : World → Heap → Prop} {d : DefRec} {K : Params → PySem.W.Frag} {x : Str} {sp : DSp}
    (hn : l.most = some n) (hn2 : n ≤ sizeLine) (hdf : d.params.defaults = []) (hr : Room k callerA) (hY : ∀ (w : World) (h : Heap), YP w h → (K w.params).In h)
    (F : ∀ (w : World) (mg : Str → Option Value) (fa : Addr) (h : Heap), (K w.params).In h → h.Ns mainGlobals mg → mg d.name = some (.ref fa) →
      ∃ fd : FuncData, (∀ (s : Shared) (u : Value), BindsTo s fd ⟨[u], []⟩ [(x, u)]) ∧ ∀ base : Heap, (K w.params).In base → base.Ns mainGlobals mg → FnD l.prog w (K w.params) mg base k fa fd [x] sp)
    (hsp : ∀ ns : List Int, ns.length ≤ n → (∀ z ∈ ns, Builtin.Int.intBits z ≤ 1048576) → sp [.d (.list (ns.map .int))] (fun _ => none) (fun d _ => d = .d (.bool true))) :
    PySem.W.WalkO q loose XP YP l.row.toRowW d [] (fun f vs => PySem.call f vs) := by
  refine Att.attach_callB hn hdf fun w s₀ s₁ mg mb fa o pm cd doc a vs ns G Y ho hd hcd hmg hobj hints hlen hbits hg => ?_
  have KX := hY w _ Y
  obtain ⟨fd, hb, hF⟩ := F w mg fa _ KX G.T.g hmg
  exact dtop_call KX G.T.g G.T.b G.T.builtins G.T.nolimit hg hobj hints (Nat.le_trans hlen hn2) hr hF hb (hsp ns hlen hbits)
end DL

namespace DL
open PySem PySem.Spec PyProof.Rows L2
section
variable {X : Cx} {pos : Pos} {a b c e o : Expr} {ta tb tc te to ti : DT} {K : PySem.W.Frag}

def rdPlus : DR2 := fun x y μ Q => match x, y with
  | .d (.int i), .d (.int j) => Q (.d (.int (i + j))) μ
  | .d (.tuple xs), .d (.tuple ys) => xs.length + ys.length ≤ 100000 ∧ Q (.d (.tuple (xs ++ ys))) μ
  | .d (.str i), .d (.str j) => i.length + j.length ≤ sizeLine ∧ Q (.d (.str (i ++ j))) μ
  | _, _ => False
def rdEqX : DR2 := fun x y μ Q => match x, y with
  | .d (.int i), .d (.int j) => Q (.d (.bool (decide (i = j)))) μ
  | .d (.str i), .d (.str j) => Q (.d (.bool (decide (i = j)))) μ
  | .d (.bool i), .d (.bool j) => Q (.d (.bool (decide (i = j)))) μ
  | .d i, .d j => SeqAt.shaped i = true ∧ SeqAt.shaped j = true ∧ Q (.d (.bool (PyData.eqv i j))) μ
  | _, _ => False
def rdNeX : DR2 := fun x y μ Q => match x, y with
  | .d (.int i), .d (.int j) => Q (.d (.bool (!decide (i = j)))) μ
  | .d (.str i), .d (.str j) => Q (.d (.bool (!decide (i = j)))) μ
  | .d (.bool i), .d (.bool j) => Q (.d (.bool (!decide (i = j)))) μ
  | .d i, .d j => SeqAt.shaped i = true ∧ SeqAt.shaped j = true ∧ Q (.d (.bool (!PyData.eqv i j))) μ
  | _, _ => False
def dTr (te : DT) : DTT := fun δ μ Q => te δ μ fun x μ1 => match x with
  | .d (.bool b) => Q b μ1
  | .d (.int i) => Q (i != 0) μ1
  | .d .none => Q false μ1
  | .d (.list xs) => Q (!xs.isEmpty) μ1
  | .d (.tuple xs) => Q (!xs.isEmpty) μ1
  | _ => False
theorem emp_da {H : Hp} {vs : List V} {ds : List PyData} (r : DaAll K H vs ds) : (!ds.isEmpty) = !vs.isEmpty := by cases r <;> rfl
theorem DaAll.set {H : Hp} : ∀ {vs : List V} {ds : List PyData} (i : Nat) {v : V} {d : PyData}, DaAll K H vs ds → Da K H v d → DaAll K H (vs.set i v) (ds.set i d)
  | _, _, _, _, _, .nil, _ => .nil
  | _, _, 0, _, _, .cons _ t, h => .cons h t
  | _, _, i + 1, _, _, .cons a t, h => .cons a (DaAll.set i t h)
theorem g_subL (ho : DE X o to) (hi : DE X b ti)
    (ha : ∀ v, assign (.Subscript o b pos) X.env v = (do
      let ov ← holding [v] (eval o X.env)
      let iv ← holding [v, ov] (eval b X.env)
      standAt pos
      holding [v, ov, iv] (setItem ov iv v)
      release [v, ov, iv] []) := by intro _; rfl) : DG true X (.Subscript o b pos) (gdSub to ti rdSetL) :=
  pg_imp (pg_sub ho hi set_list ha) fun v σ H Q ⟨δ, μ, d, Qd, rs, rm, r, q, w⟩ =>
    up_use rs rm q fun x μ1 ov H1 e1 m1 r1 q1 => up_use (rs.mono e1) m1 q1 fun y μ2 iv H2 e2 m2 r2 q2 => by
      unfold rdSetL at q2
      split at q2
      · next p k z =>
        split at q2
        · next xs ex =>
          split at q2
          · next j ej =>
            cases (show ov = .ref p from r1)
            cases r2
            obtain ⟨vs, h1, h2⟩ := m2 p _ ex
            refine ⟨p, vs, k, j, rfl, rfl, h1, by rw [h2.length]; exact ej, ?_⟩
            have e12 := e1.trans (e2.trans (ext_write (p := p) (o := .lst (vs.set j v)) (c := .lst (xs.set j z)) ex))
            refine w δ _ σ _ e12 (m2.write ex ⟨_, upd_same, ?_⟩) (rs.mono e12) q2
            exact (h2.set j ((show Da X.K (hid μ H) v z from r).mono (e1.trans e2))).mono (ext_write ex)
          · exact q2.elim
        · exact q2.elim
      · exact q2.elim
/-- xs.append(e) -/
def dAppend (to te : DT) : DT := fun δ μ Q => to δ μ fun x μ1 => match x with
  | .cell p => (∃ ys, μ1 p = some (.lst ys)) ∧ te δ μ1 fun y μ2 => match y, μ2 p with
    | .d d, some (.lst xs) => xs.length < 1000000 ∧ Q (.d .none) (put μ2 p (.lst (xs ++ [d])))
    | _, _ => False
  | _ => False
structure Cal (P : Program) (w : World) (K : PySem.W.Frag) (mg : Str → Option Value) (base : Heap) (k : Nat) (x : Str) (st : Stmt) (ps : List Str) (sp : DSp) : Prop where
  ex : ∃ f fd, FnD P w K mg base k f fd ps sp ∧ mg x = some (.ref f) ∧ Fun K x x st f fd
structure DefM (K : PySem.W.Frag) (mg : Str → Option Value) (x : Str) (st : Stmt) : Prop where
  ex : ∃ f fd, mg x = some (.ref f) ∧ Fun K x x st f fd
theorem Cal.mono {P : Program} {w : World} {mg : Str → Option Value} {base : Heap} {j k : Nat} {x : Str} {st : Stmt} {ps : List Str} {sp : DSp} (C : Cal P w K mg base j x st ps sp) (h : j ≤ k) : Cal P w K mg base k x st ps sp :=
  let ⟨f, fd, F, m, D⟩ := C.ex
  ⟨f, fd, F.mono h, m, D⟩
variable {k : Nat} {ps : List Str} {sp : DSp} {x : Str} {p : Pos} {es : List Expr} {tr : DTA} {st : Stmt}
theorem d_callC (C : Cal X.prog X.w X.K X.mg X.base k x st ps sp) (hr : RoomG k X.A) (hg : Gl X x) (hb : ∀ f fd, Fun X.K x x st f fd → Binds X.K fd ps []) (ha : DA X (e :: es) tr)
    (hdb : (x == ("__debug__" : Str)) = false := by decide) (he : starEach (e :: es) X.env = (false, eval e X.env) :: starEach es X.env := by rfl) (hpl : (backTo pos (starEach es X.env)).any (·.1) = false := by rfl) :
    DE X (.Call (.Name x p) (e :: es) [] pos) (dCallF sp tr) := by
  obtain ⟨f, fd, F, m, D⟩ := C.ex
  exact d_call F hr hg m D.kp (hb f fd D) ha hdb he hpl
theorem d_callCK {ks : List Str} {g : {α : Type} → List α → List α} {kws : List Keyword} (C : Cal X.prog X.w X.K X.mg X.base k x st ps sp) (hr : RoomG k X.A) (hg : Gl X x) (hb : ∀ f fd, Fun X.K x x st f fd → KB X.K fd ps ks g) (ha : DKw X kws tr)
    (hall : (backToKw pos (keywordEach kws X.env)).all (·.1.isSome) = true := by rfl) (hks : (backToKw pos (keywordEach kws X.env)).filterMap (·.1) = ks := by rfl) (hdb : (x == ("__debug__" : Str)) = false := by decide)
    (hpl : ((backTo pos (starEach [] X.env)).any (·.1) || (backToKw pos (keywordEach kws X.env)).any (·.1.isNone)) = false := by rfl) :
    DE X (.Call (.Name x p) [] kws pos) (dCallK sp ks.length g tr) := by
  obtain ⟨f, fd, F, m, D⟩ := C.ex
  exact d_callK F hr hg m D.kp (hb f fd D) ha hall hks hdb hpl
theorem Cal.of {P : Program} {w : World} {mg : Str → Option Value} {base : Heap} {N : List Str} {rd : DTS} (D : DefM K mg x st) (S : FnScope N ps (defScope st)) (len : ∀ ds μ Q, sp ds μ Q → ds.length = ps.length)
    (der : ∀ (f : Addr) (cdv : Value) (A : Around) (outer : List Env) (s : Shared) (H : Hp), RoomG k (A.deeper (envOfC x (defScope st) s.heap.objs.size f cdv)) → DSs (cxD P w K mg base N x (defScope st) f cdv A outer s H) (defBody st) rd)
    (R : ∀ ds μ Q, sp ds μ Q → rd { nx := fun _ μ' => Q (.d .none) μ', rt := Q } (dstart N.length ds) μ) : Cal P w K mg base (k + 1) x st ps sp := by
  obtain ⟨f, fd, m, F⟩ := D.ex
  exact ⟨f, fd, Fun.okD F S len fun cdv A outer s H hr => ⟨rd, der f cdv A outer s H hr, R⟩, m, F⟩
end
/-- what the built-in names stand for: none is a module's name -/
structure Bl (mg : Str → Option Value) : Prop where
  isinstance : mg "isinstance" = none
  int : mg "int" = none
  bool : mg "bool" = none
  str : mg "str" = none
  tuple : mg "tuple" = none
  list : mg "list" = none
  dict : mg "dict" = none
  len : mg "len" = none
  all : mg "all" = none
  any : mg "any" = none
  sum : mg "sum" = none
  abs : mg "abs" = none
  max : mg "max" = none
  min : mg "min" = none
  repr : mg "repr" = none
  range : mg "range" = none
  enumerate : mg "enumerate" = none
  zip : mg "zip" = none
  reversed : mg "reversed" = none
  sorted : mg "sorted" = none
  set : mg "set" = none
end DL

namespace DL
open PySem PySem.Spec PyProof.Rows L2

def keysI : List DictEntry → List Int → Bool
  | [], [] => true
  | e :: es, k :: ks => (match e.key with
    | .int i _ => i == k && e.hash == hashInt k
    | _ => false) && keysI es ks
  | _, _ => false
structure KInt (K : PySem.W.Frag) (a : Addr) (ks : List Int) : Prop where
  ex : ∃ (es : Array DictEntry) (n : Nat), K.lookup a = some ⟨.type "dict", none, .dict es n, #[]⟩ ∧ keysI es.toList ks = true
  nd : ks.Nodup
  low : (a == sysModules) = false
theorem keysI_pairs {P : Program} {w : World} : ∀ {es : List DictEntry} {ks : List Int}, keysI es ks = true → ∃ kvs : List (Key × Value), Pairs (mixKind P w) es kvs ∧ kvs.map (·.1) = ks.map Sum.inl ∧ ∀ e ∈ es, ∃ k, (mixKind P w).is k e.key = true ∧ e.hash = (mixKind P w).hash k
  | [], [], _ => ⟨[], .nil, rfl, fun e h => by cases h⟩
  | e :: es, k :: ks, h => by
    simp only [keysI, Bool.and_eq_true] at h
    obtain ⟨h1, h2⟩ := h
    obtain ⟨kvs, p, q, r⟩ := keysI_pairs (P := P) (w := w) h2
    obtain ⟨hh, kk, vv⟩ := e
    cases kk <;> simp at h1
    next i t =>
      obtain ⟨rfl, rfl⟩ := h1
      refine ⟨(Sum.inl i, vv) :: kvs, .cons (keyIs_int i t) rfl p, by rw [List.map_cons, List.map_cons, q], fun e he => ?_⟩
      rcases List.mem_cons.mp he with z | z
      · subst z; exact ⟨Sum.inl i, keyIs_int i t, rfl⟩
      · exact r e z
  | [], _ :: _, h => by simp [keysI] at h
  | _ :: _, [], h => by simp [keysI] at h
section
variable {X : Cx} {pos : Pos} {a b c e o : Expr} {ta tb tc te to ti : DT} {K : PySem.W.Frag}
theorem KInt.dict {P : Program} {w : World} {ad : Addr} {ks : List Int} (D : KInt K ad ks) {h : Heap} (I : K.In h) : ∃ kvs : List (Key × Value), h.DictOf (mixKind P w) ad kvs ∧ kvs.map (·.1) = ks.map Sum.inl := by
  obtain ⟨es, n, hl, hk⟩ := D.ex
  obtain ⟨kvs, p, q, r⟩ := keysI_pairs (P := P) (w := w) hk
  refine ⟨kvs, ⟨_, es, n, I _ _ hl, ⟨rfl, rfl, rfl⟩, rfl, fun e he => r e (by simpa using he), p, ?_⟩, q⟩
  rw [q]
  exact List.Pairwise.map _ (fun x y hxy z => hxy (Sum.inl.inj z)) D.nd
theorem valueAt_some {kvs : List (Key × Value)} {ks : List Int} (h : kvs.map (·.1) = ks.map Sum.inl) (i : Int) : (valueAt kvs (Sum.inl i : Key)).isSome = decide (i ∈ ks) := by
  unfold valueAt
  rw [Option.isSome_map, Bool.eq_iff_iff, List.find?_isSome, decide_eq_true_eq]
  constructor
  · rintro ⟨p, hp, e⟩
    have e' : p.1 = Sum.inl i := by simpa using e
    have : (Sum.inl i : Key) ∈ ks.map Sum.inl := by rw [← h, ← e']; exact List.mem_map_of_mem hp
    simpa using this
  · intro hi
    have : (Sum.inl i : Key) ∈ kvs.map (·.1) := by rw [h]; exact List.mem_map_of_mem hi
    obtain ⟨p, hp, e⟩ := List.mem_map.mp this
    exact ⟨p, hp, by simpa using e⟩
theorem op_inK {ad : Addr} {ks : List Int} (D : KInt X.K ad ks) : OpR X (compareOp .In) (fun x y H Q => ∃ i, x = .int i ∧ y = .ref ad ∧ Q (.bl (decide (i ∈ ks))) H) := by
  intro pins s σ H x y v u Q I rx ry h
  obtain ⟨i, rfl, rfl, q⟩ := h
  obtain ⟨t, rfl⟩ := rx
  cases ry
  obtain ⟨kvs, dd, e⟩ := D.dict (P := X.prog) (w := X.w) I.kIn
  refine wpAny_in_of (mixKind_int X.prog X.w i t) D.low dd.mapOf ?_
  rw [valueAt_some e]
  exact ⟨.bl _, H, I.tok _, rfl, q⟩
/-- x in D, D such a dict of the module -/
def dInK (ks : List Int) (ta : DT) : DT := fun δ μ Q => ta δ μ fun x μ1 => match x with
  | .d (.int i) => Q (.d (.bool (decide (i ∈ ks)))) μ1
  | _ => False
structure KName (K : PySem.W.Frag) (mg : Str → Option Value) (x : Str) (ks : List Int) : Prop where
  ex : ∃ ad, mg x = some (.ref ad) ∧ KInt K ad ks
theorem d_inK {x : Str} {p : Pos} {ks : List Int} (D : KName X.K X.mg x ks) (hg : Gl X x) (ha : DE X a ta) (hm : behindInMarks .In (.Name x p) = false := by rfl) (hdb : (x == ("__debug__" : Str)) = false := by decide) : DE X (.Compare a [.In] [.Name x p] pos) (dInK ks ta) := by
  obtain ⟨ad, m, D⟩ := D.ex
  exact pe_imp (pe_cmpR (op_inK D) ha (pe_glob (v := .ref ad) hg m rfl hdb) hm) fun σ H Q ⟨δ, μ, Qd, rs, rm, q, w⟩ => up_use rs rm q fun x μ1 v H1 e1 m1 r1 q1 => by
    split at q1
    · cases r1
      exact ⟨_, rfl, rfl, w (.d (.bool _)) μ1 _ H1 e1 m1 (Da.bl _) q1⟩
    · exact q1.elim
/-- a whole number of the module -/
structure KNum (mg : Str → Option Value) (x : Str) (n : Int) : Prop where
  ex : ∃ t, mg x = some (.int n t)
theorem d_num {x : Str} {p : Pos} {n : Int} (D : KNum X.mg x n) (hg : Gl X x) (hdb : (x == ("__debug__" : Str)) = false := by decide) : DE X (.Name x p) (dC (.int n)) := by
  obtain ⟨t, m⟩ := D.ex
  exact d_glob (v := .int n) hg m ⟨t, rfl⟩ (fun _ => .int n) hdb
end
end DL

namespace DL
open PySem PySem.Spec PyProof.Rows L2
local macro_rules | `(tactic| walk_at "dl") => `(tactic| simp only [dVar, dC, dOp, dUn, rdI, rdI0, rdU, dChain, dB, dAnd, dOr, dNot, dAndV, dOrV, dNotV, dIf, rdIsN, rdNotN, isNone, aNil, aCons, allD, dTup, dLst, dLstC, dCall, rdEq, rdNe, rdIn, seqOf, rdIx, dNo, dPart, dSl, rdLen, rdTuple, rdList, rdSum, rdAll, rdAny, rdAbs, rdMax2, rdMin2, rdInt, rdStr, dIsi, rdRepr, sNext, sSeq, sBreak, sCont, sRet, sDrop, sIf, sNever, gdName, setAll, gdTup, sAsg, sPar, rdSetL, gdSub, dwList, dwTup, dwRange1, dwRange2, dwEnum, dwZip, wipeD, dLc, dLcC, dYes, sFor, dCallF, dCallK, rdPlus, rdEqX, rdNeX, dTr, dAppend, dInK, dstart, List.map_cons, List.map_nil, List.length_cons, List.length_nil, List.replicate_succ, List.replicate_zero, List.cons_append, List.nil_append, List.getElem?_cons_zero, List.getElem?_cons_succ, List.getElem?_nil, List.set_cons_zero, List.set_cons_succ, Option.map_some, Option.map_none, Option.bind_some, Option.bind_none, Nat.reduceSub, Nat.reduceAdd, if_true, if_false, Bool.false_eq_true, reduceIte, Nat.sub_zero, Nat.zero_add, reduceCtorEq])
theorem atI0 {α : Type} {x : α} {xs : List α} : atI (x :: xs) 0 = some x := by
  simp [atI, ixN]
theorem atI1 {α : Type} {x y : α} {xs : List α} : atI (x :: y :: xs) 1 = some y :=
  (show atI (x :: y :: xs) ((1 : Nat) : Int) = some y from atI_nat rfl)
/-- a comprehension whose element is a function of the item -/
theorem lcGo_pure {gd : DTG} {tt : DTT} {te : DT} {δw : DSt} {D : Addr} {fin : List PyData → Mu → Prop} {f : PyData → PyData} {p : PyData → Bool} : ∀ (ds acc : List PyData) (μ : Mu), μ D = some (.lst acc) → acc.length + ds.length ≤ 900000 →
    (∀ d ∈ ds, ∀ (μ : Mu) (K1 : DK) (K0 : Mu → Prop), (p d = true → K1 (.d (f d)) μ) → (p d = false → K0 μ) → gd (.d d) δw μ fun δ2 μ2 => tt δ2 μ2 fun b μ3 => if b = true then te δ2 μ3 K1 else K0 μ3) →
    (∀ μ', (∀ b, b ≠ D → μ' b = μ b) → μ' D = some (.lst (acc ++ (ds.filter p).map f)) → fin (acc ++ (ds.filter p).map f) μ') → lcGo gd tt te δw D fin ds acc μ
  | [], acc, μ, hD, hl, H, q => by
    unfold lcGo
    simpa using q μ (fun _ _ => rfl) (by simpa using hD)
  | d :: ds, acc, μ, hD, hl, H, q => by
    unfold lcGo
    refine H d List.mem_cons_self μ _ _ (fun hp => ?_) (fun hp => ?_)
    · refine ⟨hD, by simp at hl; omega, lcGo_pure ds (acc ++ [f d]) _ put_same (by simp at hl ⊢; omega) (fun e he => H e (List.mem_cons_of_mem _ he)) fun μ' h1 h2 => ?_⟩
      have e : acc ++ [f d] ++ (ds.filter p).map f = acc ++ ((d :: ds).filter p).map f := by simp [List.filter_cons, hp]
      rw [e] at h2 ⊢
      exact q μ' (fun b hb => (h1 b hb).trans (put_ne hb)) h2
    · refine ⟨hD, lcGo_pure ds acc μ hD (by simp at hl; omega) (fun e he => H e (List.mem_cons_of_mem _ he)) fun μ' h1 h2 => ?_⟩
      have e : (ds.filter p).map f = ((d :: ds).filter p).map f := by simp [List.filter_cons, hp]
      rw [e] at h2 ⊢
      exact q μ' h1 h2
theorem lc_pure {gd : DTG} {tt : DTT} {te : DT} {δw : DSt} {f : PyData → PyData} {p : PyData → Bool} {ds : List PyData} {μ : Mu} {fin : Addr → List PyData → Mu → Prop} (hl : ds.length ≤ 900000)
    (H : ∀ d ∈ ds, ∀ (μ : Mu) (K1 : DK) (K0 : Mu → Prop), (p d = true → K1 (.d (f d)) μ) → (p d = false → K0 μ) → gd (.d d) δw μ fun δ2 μ2 => tt δ2 μ2 fun b μ3 => if b = true then te δ2 μ3 K1 else K0 μ3)
    (q : ∀ D μ', del μ' D = μ → fin D ((ds.filter p).map f) μ') : ∀ D, μ D = none → lcGo gd tt te δw D (fin D) ds [] (put μ D (.lst [])) := fun D hD =>
  lcGo_pure ds [] _ put_same (by simpa using hl) H fun μ' h1 h2 => by
    have e : del μ' D = μ := by
      funext b
      by_cases hb : b = D
      · subst hb; rw [del_same, hD]
      · rw [del_ne hb, h1 b hb, put_ne hb]
    simpa using q D μ' e
end DL

namespace DL
open PySem PySem.Spec PyProof.Rows L2
section
variable {prog : Program} {w : World} {A : Around} {E : Value → Shared → Prop} {s : Shared}
end
section
variable {X : Cx} {pos : Pos} {a b c e o : Expr} {ta tb tc te to ti : DT} {K : PySem.W.Frag}
def dDict0 : DT := fun _ μ Q => Q (.d (.dict [])) μ
theorem d_dict0 : DE X (.Dict [] [] pos) dDict0 := pe_imp pe_dnewK fun σ H Q ⟨δ, μ, Qd, rs, rm, q, w⟩ p hp =>
  w (.d (.dict [])) μ _ _ (ext_new hp) (rm.new hp) (Da.dct (kvs := []) (ds := []) (.inl (hid_new rm hp)) .nil) q
end
end DL

namespace DL
open PySem PySem.Spec PyProof.Rows L2

def Src (n : Nat) (μ : Mu) (p : Addr) : Prop := ∃ a b c : Int, μ p = some (.lst [.int a, .int b, .int c]) ∧ 0 ≤ b ∧ b < 10 ^ 30 ∧ 0 ≤ c ∧ c ≤ n
def Oth (p : Addr) (μ μ' : Mu) : Prop := ∀ b, b ≠ p → μ' b = μ b
theorem Src.mono {n m : Nat} {μ : Mu} {p : Addr} (s : Src n μ p) (h : n ≤ m) : Src m μ p := by
  obtain ⟨a, b, c, h1, h2, h3, h4, h5⟩ := s
  exact ⟨a, b, c, h1, h2, h3, h4, by omega⟩
theorem Src.ne {n : Nat} {μ : Mu} {p D : Addr} (s : Src n μ p) (h : μ D = none) : D ≠ p := by
  obtain ⟨a, b, c, h1, _⟩ := s
  rintro rfl
  rw [h] at h1; cases h1
theorem Src.at {n : Nat} {μ μ' : Mu} {p : Addr} (s : Src n μ p) (h : μ' p = μ p) : Src n μ' p := by
  obtain ⟨a, b, c, h1, h2⟩ := s
  exact ⟨a, b, c, h.trans h1, h2⟩
theorem Oth.refl (p : Addr) (μ : Mu) : Oth p μ μ := fun _ _ => rfl
theorem Oth.trans {p : Addr} {μ μ1 μ2 : Mu} (a : Oth p μ μ1) (b : Oth p μ1 μ2) : Oth p μ μ2 := fun c h => (b c h).trans (a c h)
theorem Oth.put {p : Addr} {μ : Mu} {c : Cell} : Oth p μ (put μ p c) := fun _ h => put_ne h
theorem bits_le {i : Int} {k : Nat} (h : i.natAbs < 2 ^ k) : Builtin.Int.intBits i ≤ k := by
  unfold Builtin.Int.intBits
  split
  · exact Nat.zero_le _
  · next h0 =>
    have h1 : i.natAbs ≠ 0 := by
      intro z
      apply h0
      have : i = 0 := Int.natAbs_eq_zero.mp z
      simp [this]
    have := (Nat.log2_lt h1).mpr h
    omega
theorem Bits.of {i j : Int} {a b : Nat} (h1 : Builtin.Int.intBits i ≤ a) (h2 : Builtin.Int.intBits j ≤ b) (h : a + b < 100000000) : Bits i j := by unfold Bits; omega
theorem divW {j : Int} (h : 0 < j) (h2 : j < 2 ^ 1000) : ∀ i, CDivW i j := fun _ => by
  refine ⟨h, ?_⟩
  have : j.natAbs < 2 ^ 1000 := by omega
  exact Nat.lt_of_lt_of_le ((Nat.log2_lt (by omega)).mpr this) (by decide)
theorem powB {i j : Int} {k : Nat} (h0 : 0 ≤ j) (h : Builtin.Int.intBits i ≤ k) (h2 : (k : Int) * j ≤ 2 ^ 27) : CPowB i j := ⟨h0, Int.le_trans (Int.mul_le_mul_of_nonneg_right (by omega) h0) h2⟩

mutual
/-- ints and tuples of such -/
def tupInt : PyData → Bool
  | .int i => decide (i.natAbs < 10 ^ 62)
  | .tuple xs => tupIntAll xs
  | _ => false
def tupIntAll : List PyData → Bool
  | [] => true
  | x :: xs => tupInt x && tupIntAll xs
end
theorem tupIntAll_iff : ∀ xs : List PyData, tupIntAll xs = true ↔ ∀ x ∈ xs, tupInt x = true
  | [] => by simp [tupIntAll]
  | x :: xs => by simp [tupIntAll, tupIntAll_iff xs]
/-- what may be shown -/
structure Sz (k n : Nat) (d : PyData) : Prop where
  lv : d.leavesShort 70 = true
  sh : d.showable = true
  dp : d.depth ≤ k
  bk : d.bulk ≤ n
  mx : d.hasDict = true → noList d = true
theorem Sz.show {k n : Nat} {d : PyData} (s : Sz k n d) (hk : k ≤ 60) (hn : n ≤ 100000) : Show d := by
  refine ⟨s.sh, ?_, Nat.le_trans s.dp hk, fun z => .inl (s.mx z)⟩
  have h := PyData.shown_le_bulk 70 (by decide) d s.lv
  have h2 := s.bk
  rw [sizeLine_eq]
  have h3 : (70 + 2) * d.bulk ≤ 72 * 100000 := Nat.mul_le_mul (by decide) (by omega)
  omega
structure Pl (k n : Nat) (d : PyData) : Prop where
  ti : tupInt d = true
  dp : d.depth ≤ k
  bk : d.bulk ≤ n
theorem Pl.mono {k n k' n' : Nat} {d : PyData} (h : Pl k n d) (hk : k ≤ k') (hn : n ≤ n') : Pl k' n' d := ⟨h.ti, Nat.le_trans h.dp hk, Nat.le_trans h.bk hn⟩
theorem Sz.mono {k n k' n' : Nat} {d : PyData} (h : Sz k n d) (hk : k ≤ k') (hn : n ≤ n') : Sz k' n' d := ⟨h.lv, h.sh, Nat.le_trans h.dp hk, Nat.le_trans h.bk hn, h.mx⟩
theorem Pl.int {i : Int} (h : i.natAbs < 10 ^ 62) : Pl 0 0 (.int i) := ⟨by simp [tupInt, h], by simp [PyData.depth], by simp [PyData.bulk]⟩
theorem depthAll_le {k : Nat} : ∀ {xs : List PyData}, (∀ x ∈ xs, x.depth ≤ k) → PyData.depthAll xs ≤ k
  | [], _ => by simp [PyData.depthAll]
  | x :: xs, h => by
    simp only [PyData.depthAll]
    have h1 := h x List.mem_cons_self
    have h2 := depthAll_le (xs := xs) fun y hy => h y (List.mem_cons_of_mem _ hy)
    omega
theorem depthAll_mem {x : PyData} : ∀ {xs : List PyData}, x ∈ xs → x.depth ≤ PyData.depthAll xs
  | y :: xs, h => by
    simp only [PyData.depthAll]
    rcases List.mem_cons.mp h with e | h
    · subst e; omega
    · have := depthAll_mem h; omega
theorem bulkAll_le {n : Nat} : ∀ {xs : List PyData}, (∀ x ∈ xs, x.bulk ≤ n) → PyData.bulkAll xs ≤ xs.length * (n + 1)
  | [], _ => by simp [PyData.bulkAll]
  | x :: xs, h => by
    simp only [PyData.bulkAll, List.length_cons, Nat.succ_mul]
    have h1 := h x List.mem_cons_self
    have h2 := bulkAll_le (xs := xs) fun y hy => h y (List.mem_cons_of_mem _ hy)
    omega
theorem bulkAll_mem {x : PyData} : ∀ {xs : List PyData}, x ∈ xs → x.bulk + 1 ≤ PyData.bulkAll xs
  | y :: xs, h => by
    simp only [PyData.bulkAll]
    rcases List.mem_cons.mp h with e | h
    · subst e; omega
    · have := bulkAll_mem h; omega
theorem Pl.tup {k n m : Nat} {xs : List PyData} (h : ∀ x ∈ xs, Pl k n x) (hl : xs.length ≤ m) : Pl (k + 1) (m * (n + 1)) (.tuple xs) := by
  refine ⟨?_, ?_, ?_⟩
  · simp only [tupInt]; exact (tupIntAll_iff xs).mpr fun x hx => (h x hx).ti
  · simp only [PyData.depth]; have := depthAll_le fun x hx => (h x hx).dp; omega
  · simp only [PyData.bulk]
    exact Nat.le_trans (bulkAll_le fun x hx => (h x hx).bk) (Nat.mul_le_mul_right _ hl)
theorem Pl.pair {k n m : Nat} {a b : PyData} (h1 : Pl k n a) (h2 : Pl k m b) : Pl (k + 1) (n + m + 2) (.tuple [a, b]) := by
  refine ⟨?_, ?_, ?_⟩
  · simp only [tupInt, tupIntAll, h1.ti, h2.ti, Bool.and_true]
  · simp only [PyData.depth, PyData.depthAll]; have := h1.dp; have := h2.dp; omega
  · simp only [PyData.bulk, PyData.bulkAll]; have := h1.bk; have := h2.bk; omega
theorem Pl.mem {k n : Nat} {xs : List PyData} (h : Pl (k + 1) n (.tuple xs)) {x : PyData} (hx : x ∈ xs) : Pl k n x := by
  refine ⟨?_, ?_, ?_⟩
  · have := h.ti; simp only [tupInt] at this; exact (tupIntAll_iff xs).mp this x hx
  · have := h.dp; simp only [PyData.depth] at this; have := depthAll_mem hx; omega
  · have := h.bk; simp only [PyData.bulk] at this; have := bulkAll_mem hx; omega
mutual
theorem tupInt_leaves : ∀ d : PyData, tupInt d = true → d.leavesShort 70 = true ∧ d.showable = true ∧ d.hasDict = false ∧ noList d = true
  | .int i, h => by
    have h' : i.natAbs < 10 ^ 62 := by simpa [tupInt] using h
    refine ⟨?_, ?_, by simp [PyData.hasDict], by simp [noList]⟩
    · have e : (PyData.shown (.int i)).length ≤ 70 := by
        show (Str.ofString (toString i)).length ≤ 70
        rw [PySem.ofString_length]
        exact Nat.le_trans (int_text_length_le10 (k := 62) (by decide) h') (by decide)
      simp only [PyData.leavesShort, decide_eq_true_eq]
      exact e
    · simp only [PyData.showable, decide_eq_true_eq]
      by_cases h0 : i.natAbs = 0
      · rw [h0]; decide
      · exact Nat.lt_of_lt_of_le ((Nat.log2_lt h0).mpr (Nat.lt_of_lt_of_le h' (by decide : 10 ^ 62 ≤ 2 ^ 207))) (by decide)
  | .tuple xs, h => by
    have := tupIntAll_leaves xs (by simpa only [tupInt] using h)
    simpa only [PyData.leavesShort, PyData.showable, PyData.hasDict, noList] using this
  | .none, h => by simp [tupInt] at h
  | .bool _, h => by simp [tupInt] at h
  | .str _, h => by simp [tupInt] at h
  | .list _, h => by simp [tupInt] at h
  | .dict _, h => by simp [tupInt] at h
theorem tupIntAll_leaves : ∀ xs : List PyData, tupIntAll xs = true → PyData.leavesShortAll 70 xs = true ∧ PyData.showableAll xs = true ∧ PyData.hasDictAll xs = false ∧ noListAll xs = true
  | [], _ => ⟨by simp [PyData.leavesShortAll], by simp [PyData.showableAll], by simp [PyData.hasDictAll], by simp [noListAll]⟩
  | x :: xs, h => by
    simp only [tupIntAll, Bool.and_eq_true] at h
    obtain ⟨a1, a2, a3, a4⟩ := tupInt_leaves x h.1
    obtain ⟨b1, b2, b3, b4⟩ := tupIntAll_leaves xs h.2
    simp [PyData.leavesShortAll, PyData.showableAll, PyData.hasDictAll, noListAll, a1, a2, a3, a4, b1, b2, b3, b4]
end
theorem Pl.sz {k n : Nat} {d : PyData} (h : Pl k n d) : Sz k n d := by
  obtain ⟨a, b, c, e⟩ := tupInt_leaves d h.ti
  exact ⟨a, b, h.dp, h.bk, fun z => by rw [c] at z; cases z⟩
end DL

namespace DL
open PySem PySem.Spec PyProof.Rows L2
section
variable {X : Cx} {pos : Pos} {tg iter elt : Expr} {ifs : List Expr} {te : DT} {tt : DTT} {wi : DTI} {g : TG} {gd : DTG} {scope : Scope} {own : List (Str × Nat)} {vs : List Nat}
/-- the same, the names' places told apart -/
theorem d_lcV {bb : Bool} (hc : X.calm = true) (hN : X.N.Nodup) (hi : DI bb X tg iter wi) (ok : BlkOk X.N X.env.scope scope own) (G : CompG bb X.K vs g gd)
    (hg : ∀ (s : Shared) (H : Hp) (C : Addr) (cl : List (Str × Addr)) (fp : List Addr), PG (X.blk s H scope (compEnvC scope cl C X.env) fp) tg g)
    (ht : ∀ (s : Shared) (H : Hp) (C : Addr) (cl : List (Str × Addr)) (fp : List Addr), DTs (X.blk s H scope (compEnvC scope cl C X.env) fp) ifs tt)
    (he : ∀ (s : Shared) (H : Hp) (C : Addr) (cl : List (Str × Addr)) (fp : List Addr), DE (X.blk s H scope (compEnvC scope cl C X.env) fp) elt te)
    (hv : own.map (·.2) = vs := by rfl) (hs : ∀ (x : Value), foldedSetIterable iter X.env x = pure x := by intro _; rfl) : DE X (.ListComp elt [⟨tg, iter, ifs, 0⟩] scope pos) (dLc wi gd tt te vs) := by
  subst hv
  exact d_lc hc hN hi ok G hg ht he hs
theorem d_lcCV {bb : Bool} (hc : X.calm = true) (hN : X.N.Nodup) (hi : DI bb X tg iter wi) (ok : BlkOk X.N X.env.scope scope own) (G : CompG bb X.K vs g gd)
    (hg : ∀ (s : Shared) (H : Hp) (C : Addr) (cl : List (Str × Addr)) (fp : List Addr), PG (X.blk s H scope (compEnvC scope cl C X.env) fp) tg g)
    (ht : ∀ (s : Shared) (H : Hp) (C : Addr) (cl : List (Str × Addr)) (fp : List Addr), DTs (X.blk s H scope (compEnvC scope cl C X.env) fp) ifs tt)
    (he : ∀ (s : Shared) (H : Hp) (C : Addr) (cl : List (Str × Addr)) (fp : List Addr), DE (X.blk s H scope (compEnvC scope cl C X.env) fp) elt te)
    (hv : own.map (·.2) = vs := by rfl) (hs : ∀ (x : Value), foldedSetIterable iter X.env x = pure x := by intro _; rfl) : DE X (.ListComp elt [⟨tg, iter, ifs, 0⟩] scope pos) (dLcC wi gd tt te vs) := by
  subst hv
  exact d_lcC hc hN hi ok G hg ht he hs
theorem s_setLcV {bb : Bool} {i : Nat} {y : Str} {py spos : Pos} (hc : X.calm = true) (hN : X.N.Nodup) (hy : X.N[i]? = some y) (hyl : X.env.scope.names.lookup y = some .local) (hsw : swapsWith (.ListComp elt [⟨tg, iter, ifs, 0⟩] scope pos) (some (.Name y py)) spos.line X.env = pure true)
    (hi : DI bb X tg iter wi) (ok : BlkOk X.N X.env.scope scope own) (G : CompG bb X.K vs g gd)
    (hg : ∀ (s : Shared) (H : Hp) (C : Addr) (cl : List (Str × Addr)) (fp : List Addr), PG (X.blk s H scope (compEnvC scope cl C X.env) fp) tg g)
    (ht : ∀ (s : Shared) (H : Hp) (C : Addr) (cl : List (Str × Addr)) (fp : List Addr), DTs (X.blk s H scope (compEnvC scope cl C X.env) fp) ifs tt)
    (he : ∀ (s : Shared) (H : Hp) (C : Addr) (cl : List (Str × Addr)) (fp : List Addr), DE (X.blk s H scope (compEnvC scope cl C X.env) fp) elt te)
    (hv : own.map (·.2) = vs := by rfl) (hs : ∀ (x : Value), foldedSetIterable iter X.env x = pure x := by intro _; rfl) : DS X (.Assign [.Name y py] (.ListComp elt [⟨tg, iter, ifs, 0⟩] scope pos) spos) (sAsg (dLc wi gd tt te vs) (gdName i)) := by
  subst hv
  exact s_setLc hc hN hy hyl hsw hi ok G hg ht he hs
end
section
variable {X : Cx} {pos : Pos} {x : Str} {p : Pos} {k : Nat} {ps : List Str} {sp : DSp} {st : Stmt} {tr : DTA}
end
end DL

namespace DL
open PySem PySem.Spec PyProof.Rows L2
section
variable {K : PySem.W.Frag} {h : Heap} {mg : Str → Option Value}
theorem def_mk {x : Str} {st : Stmt} {f : Addr} {oc : Value} {od an : Option Addr} {osl : Array (Option Value)} {kV doc pm cdv ct : Value} (X : K.In h) (G : h.Ns mainGlobals mg) (a : PySem.W.nsIn K mainGlobals x = some (some (.ref f)))
    (l : K.lookup f = some ⟨oc, od, .func (PySem.W.fnOf x x (defArgs st) (defBody st) (defScope st) .none kV doc pm an cdv ct), osl⟩) (c : PySem.W.codeIn K cdv x = true) (k : PySem.W.keepIn K (.ref f) = true) : DefM K mg x st :=
  ⟨⟨f, _, PySem.W.mg_of X G a, fun_mk (st := st) l c k⟩⟩
theorem kname_mk {x : Str} {ks : List Int} {ad : Addr} {es : Array DictEntry} {n : Nat} (X : K.In h) (G : h.Ns mainGlobals mg) (a : PySem.W.nsIn K mainGlobals x = some (some (.ref ad))) (l : K.lookup ad = some ⟨.type "dict", none, .dict es n, #[]⟩)
    (e : keysI es.toList ks = true) (nd : ks.Nodup) (o : (ad == sysModules) = false) : KName K mg x ks := ⟨⟨ad, PySem.W.mg_of X G a, ⟨⟨es, n, l, e⟩, nd, o⟩⟩⟩
theorem knum_mk {x : Str} {n : Int} {t : Nat} (X : K.In h) (G : h.Ns mainGlobals mg) (a : PySem.W.nsIn K mainGlobals x = some (some (.int n t))) : KNum mg x n := ⟨⟨t, PySem.W.mg_of X G a⟩⟩
end
theorem Cal.never {P : Program} {w : World} {K : PySem.W.Frag} {mg : Str → Option Value} {base : Heap} {k : Nat} {x : Str} {st : Stmt} {ps : List Str} (D : DefM K mg x st) : Cal P w K mg base k x st ps (fun _ _ _ => False) := by
  obtain ⟨f, fd, m, F⟩ := D.ex
  exact ⟨f, fd, ⟨fun _ _ _ h => h.elim, fun _ _ _ _ _ _ _ _ _ _ _ _ _ _ _ _ _ h _ => h.elim⟩, m, F⟩
theorem bl_mk {K : PySem.W.Frag} {h : Heap} {mg : Str → Option Value} (X : K.In h) (G : h.Ns mainGlobals mg)
    (b_isinstance : PySem.W.nsIn K mainGlobals "isinstance" = some none) (b_int : PySem.W.nsIn K mainGlobals "int" = some none) (b_bool : PySem.W.nsIn K mainGlobals "bool" = some none) (b_str : PySem.W.nsIn K mainGlobals "str" = some none) (b_tuple : PySem.W.nsIn K mainGlobals "tuple" = some none) (b_list : PySem.W.nsIn K mainGlobals "list" = some none) (b_dict : PySem.W.nsIn K mainGlobals "dict" = some none) (b_len : PySem.W.nsIn K mainGlobals "len" = some none) (b_all : PySem.W.nsIn K mainGlobals "all" = some none) (b_any : PySem.W.nsIn K mainGlobals "any" = some none) (b_sum : PySem.W.nsIn K mainGlobals "sum" = some none) (b_abs : PySem.W.nsIn K mainGlobals "abs" = some none) (b_max : PySem.W.nsIn K mainGlobals "max" = some none) (b_min : PySem.W.nsIn K mainGlobals "min" = some none) (b_repr : PySem.W.nsIn K mainGlobals "repr" = some none) (b_range : PySem.W.nsIn K mainGlobals "range" = some none) (b_enumerate : PySem.W.nsIn K mainGlobals "enumerate" = some none) (b_zip : PySem.W.nsIn K mainGlobals "zip" = some none) (b_reversed : PySem.W.nsIn K mainGlobals "reversed" = some none) (b_sorted : PySem.W.nsIn K mainGlobals "sorted" = some none) (b_set : PySem.W.nsIn K mainGlobals "set" = some none) : Bl mg := ⟨PySem.W.mg_none_of X G b_isinstance, PySem.W.mg_none_of X G b_int, PySem.W.mg_none_of X G b_bool, PySem.W.mg_none_of X G b_str, PySem.W.mg_none_of X G b_tuple, PySem.W.mg_none_of X G b_list, PySem.W.mg_none_of X G b_dict, PySem.W.mg_none_of X G b_len, PySem.W.mg_none_of X G b_all, PySem.W.mg_none_of X G b_any, PySem.W.mg_none_of X G b_sum, PySem.W.mg_none_of X G b_abs, PySem.W.mg_none_of X G b_max, PySem.W.mg_none_of X G b_min, PySem.W.mg_none_of X G b_repr, PySem.W.mg_none_of X G b_range, PySem.W.mg_none_of X G b_enumerate, PySem.W.mg_none_of X G b_zip, PySem.W.mg_none_of X G b_reversed, PySem.W.mg_none_of X G b_sorted, PySem.W.mg_none_of X G b_set⟩
end DL

namespace DL
open PySem PySem.Spec PyProof.Rows L2

def tget (t : List (Int × Int)) (k : Int) : Option Int := (t.find? fun p => decide (p.1 = k)).map (·.2)
def tput (t : List (Int × Int)) (k v : Int) : List (Int × Int) := if (t.any fun p => decide (p.1 = k)) = true then t.map (fun p => if p.1 = k then (p.1, v) else p) else t ++ [(k, v)]
theorem inl_eq {a b : Int} : ((Sum.inl a : Key) = Sum.inl b) ↔ a = b := ⟨fun h => Sum.inl.inj h, fun h => by rw [h]⟩
section
variable {X : Cx} {pos : Pos} {a b c e f o i : Expr} {ta tb tc te tf to ti : DT} {K : PySem.W.Frag}
end

end DL

namespace DL
open PySem PySem.Spec PyProof.Rows L2
section
variable {X : Cx} {pos : Pos} {a b c e f o i tg : Expr} {ta tb tc te tf to ti : DT} {K : PySem.W.Frag}
def rdListC : DRA := fun ds μ Q => match ds with
  | [.d (.list xs)] => ∀ p, μ p = none → Q (.cell p) (put μ p (.lst xs))
  | [.d (.tuple xs)] => ∀ p, μ p = none → Q (.cell p) (put μ p (.lst xs))
  | _ => False
theorem u_listC : UpA K rdListC (fun xs H Q => ∃ p ys, xs = [.ref p] ∧ (SqL K H p ys ∨ SqT K H p ys) ∧ ∀ l, H l = none → Q (.ref l) (upd H l (.lst ys))) := fun ds μ Qd vs H Q m r q w => by
  unfold rdListC at q
  split at q
  · next xs =>
    cases r with
    | cons r t0 =>
      cases t0
      cases (show Da K (hid μ H) _ (.list xs) from r) with
      | @lst p ys _ s t =>
        refine ⟨p, ys, rfl, .inl (unhid.seq s), fun l hl => w (.cell l) (put μ l (.lst xs)) _ _ (ext_cell hl) (m.cell (c := .lst xs) hl ⟨ys, upd_same, t.mono (ext_cell hl)⟩) rfl (q l (m.free hl))⟩
  · next xs =>
    cases r with
    | cons r t0 =>
      cases t0
      cases (show Da K (hid μ H) _ (.tuple xs) from r) with
      | @tup p ys _ s t =>
        refine ⟨p, ys, rfl, .inr (same_seqT unhid s), fun l hl => w (.cell l) (put μ l (.lst xs)) _ _ (ext_cell hl) (m.cell (c := .lst xs) hl ⟨ys, upd_same, t.mono (ext_cell hl)⟩) rfl (q l (m.free hl))⟩
  · exact q.elim
end
/-- the tuples that stand at the entries -/
inductive KVals (K : PySem.W.Frag) : List DictEntry → List (Int × List Int) → Prop
  | nil : KVals K [] []
  | cons {h k : Int} {tk : Tok} {es : List DictEntry} {ns : List Int} {t : List (Int × List Int)} {b : Addr} {o : Obj} {its : Array Value} {n : Nat} : h = hashInt k → K.lookup b = some o → TupO o → o.data = .seq its n → its.size ≤ 1000 → IntsAre its.toList ns → KVals K es t → KVals K (⟨h, .int k tk, .ref b⟩ :: es) ((k, ns) :: t)
structure KTup (K : PySem.W.Frag) (mg : Str → Option Value) (x : Str) (t : List (Int × List Int)) : Prop where
  ex : ∃ (ad : Addr) (es : Array DictEntry) (n : Nat), mg x = some (.ref ad) ∧ K.lookup ad = some ⟨.type "dict", none, .dict es n, #[]⟩ ∧ KVals K es.toList t ∧ (t.map (·.1)).Nodup ∧ (ad == sysModules) = false
def lkp (t : List (Int × List Int)) (k : Int) : Option (List Int) := (t.find? fun p => decide (p.1 = k)).map (·.2)
theorem KVals.use {K : PySem.W.Frag} {P : Program} {w : World} {es : List DictEntry} {t : List (Int × List Int)} (h : KVals K es t) : ∃ kvs : List (Key × Value), Pairs (mixKind P w) es kvs ∧ kvs.map (·.1) = (t.map (·.1)).map Sum.inl ∧ (∀ e ∈ es, ∃ k, (mixKind P w).is k e.key = true ∧ e.hash = (mixKind P w).hash k) ∧
    ∀ k ns, lkp t k = some ns → ∃ (b : Addr), valueAt kvs (Sum.inl k : Key) = some (.ref b) ∧ ∀ H : Hp, SqP K H b (ns.map V.int) := by
  induction h with
  | nil => exact ⟨[], .nil, rfl, fun e h => (by cases h), fun k ns e => (by simp [lkp] at e)⟩
  | @cons hh k tk es ns t b o its n h0 h1 h2 h3 h4 h5 _ ih =>
    obtain ⟨kvs, a1, a2, a3, a4⟩ := ih
    subst h0
    refine ⟨(Sum.inl k, .ref b) :: kvs, .cons (keyIs_int k tk) rfl a1, by rw [List.map_cons, List.map_cons, List.map_cons, a2], fun e he => ?_, fun k2 ns2 e => ?_⟩
    · rcases List.mem_cons.mp he with z | z
      · subst z; exact ⟨Sum.inl k, keyIs_int k tk, rfl⟩
      · exact a3 e z
    · unfold lkp at e
      rw [List.find?_cons] at e
      by_cases hk : k = k2
      · subst hk
        simp only [decide_true, Option.map_some, Option.some.injEq] at e
        subst e
        refine ⟨b, by simp [valueAt], fun H => .inr ⟨o, its, n, h1, h2, h3, Nat.le_trans h4 (by decide), vals_of_ints h5⟩⟩
      · simp only [hk, decide_false] at e
        obtain ⟨b2, c1, c2⟩ := a4 k2 ns2 e
        refine ⟨b2, ?_, c2⟩
        rw [← c1]
        unfold valueAt
        rw [List.find?_cons, decide_eq_false (show ¬ (Sum.inl k : Key) = Sum.inl k2 from fun z => hk (Sum.inl.inj z))]
/-- D[k], D such a dict -/
def dIxK (t : List (Int × List Int)) (ti : DT) : DT := fun δ μ Q => ti δ μ fun y μ1 => match y with
  | .d (.int k) => match lkp t k with
    | some ns => Q (.d (.tuple (ns.map .int))) μ1
    | none => False
  | _ => False
theorem d_ixK {X : Cx} {i : Expr} {ti : DT} {x : Str} {p pos : Pos} {t : List (Int × List Int)} (D : KTup X.K X.mg x t) (hg : Gl X x) (hi : DE X i ti) (hs : NoSl i := by exact fun _ _ => rfl) (hdb : (x == ("__debug__" : Str)) = false := by decide) :
    DE X (.Subscript (.Name x p) i pos) (dIxK t ti) := by
  obtain ⟨ad, es, n, m, l, kv, nd, low⟩ := D.ex
  obtain ⟨kvs, a1, a2, a3, a4⟩ := KVals.use (P := X.prog) (w := X.w) kv
  refine ⟨fun pins s σ H Q I ⟨δ, μ, Qd, rs, rm, q, w⟩ => ?_⟩
  refine subD_of PySem.F.slot_dict_getitem.lookup hs (thn ((pe_glob (v := .ref ad) hg m rfl hdb).run pins s σ H (fun v H1 => v = .ref ad ∧ H1 = H) I ⟨rfl, rfl⟩) fun u s1 ⟨x1, H1, I1, rx, q1⟩ => ?_)
  obtain ⟨rfl, rfl⟩ := q1
  obtain rfl : u = Value.ref ad := rx
  refine thn (hi.run pins s1 σ _ (fun y H2 => ∃ k ns μ2, y = .int k ∧ lkp t k = some ns ∧ Ext μ H1 μ2 H2 ∧ RM X.K μ2 H2 ∧ Qd (.d (.tuple (ns.map .int))) μ2) I1 (up_use rs rm q fun y μ1 v H2 e1 m1 r1 q1 => ?_)) fun iv s2 ⟨y, H2, I2, ry, k, ns, μ2, ey, el, e2, m2, q2⟩ => ?_
  · split at q1
    · next k =>
      split at q1
      · next ns e =>
        cases (show Da X.K (hid μ1 H2) v (.int k) from r1)
        exact ⟨k, ns, μ1, rfl, e, e1, m1, q1⟩
      · exact q1.elim
    · exact q1.elim
  · subst ey
    obtain ⟨tk, rfl⟩ := ry
    have dd : s2.heap.DictOf (mixKind X.prog X.w) ad kvs := ⟨_, es, n, I2.kIn _ _ l, ⟨rfl, rfl, rfl⟩, rfl, fun e he => a3 e (by simpa using he), a1, by rw [a2]; exact List.Pairwise.map _ (fun x y hxy z => hxy (Sum.inl.inj z)) nd⟩
    obtain ⟨b, c1, c2⟩ := a4 k ns el
    refine ⟨dd.typeIs, wpAny_getItem_of (mixKind_int X.prog X.w k tk) dd.mapOf c1 ?_⟩
    exact ⟨.ref b, H2, I2.tok _, rfl, w (.d (.tuple (ns.map .int))) μ2 _ H2 e2 m2 (.tup (c2 _) (DaAll.ints ns)) q2⟩
end DL

namespace DL
open PySem PySem.Spec PyProof.Rows L2
section
variable {X : Cx} {pos : Pos} {a b c : Expr} {ta tb tc : DT}
theorem up_chain {rd rd' : DR2} {rv rv' : R2} (h : Up2 X.K rd rv) (h' : Up2 X.K rd' rv') : ∀ σ H Q, up X.K (dChain rd rd' ta tb tc) σ H Q → tChain rv rv' (up X.K ta) (up X.K tb) (up X.K tc) σ H Q := fun σ H Q ⟨δ, μ, Qd, rs, rm, q, w⟩ =>
  up_use rs rm q fun x μ1 v H1 e1 m1 r1 q1 => up_use (rs.mono e1) m1 q1 fun y μ2 u H2 e2 m2 r2 q2 => h x y μ2 _ v u H2 _ m2 (r1.mono e2) r2 q2 fun z μ3 p H3 e3 m3 r3 q3 => by
    split at q3
    · cases r3
      exact ⟨true, rfl, by
        rw [if_pos rfl]
        exact up_use (rs.mono (e1.trans (e2.trans e3))) m3 q3 fun k μ4 w' H4 e4 m4 r4 q4 => h' y k μ4 Qd u w' H4 Q m4 (r2.mono (e3.trans e4)) r4 q4 (w.step (e1.trans (e2.trans (e3.trans e4))))⟩
    · cases r3
      refine ⟨false, rfl, ?_⟩
      rw [if_neg Bool.false_ne_true]
      exact w (.d (.bool false)) μ3 _ H3 (e1.trans (e2.trans e3)) m3 (Da.bl false) q3
    · exact q3.elim
theorem c_chain {op op' : CmpOp} {rd rd' : DR2} {rv rv' : R2} (ho : OpR X (compareOp op) rv) (h : Up2 X.K rd rv) (ho' : OpR X (compareOp op') rv') (h' : Up2 X.K rd' rv') (ha : DE X a ta) (hb : DE X b tb) (hc : DE X c tc) (hm : lastMarks [op, op'] [b, c] = false := by with_unfolding_all rfl) :
    DC X (.Compare a [op, op'] [b, c] pos) (dB (dChain rd rd' ta tb tc)) := pt_imp (pt_chain ho ho' ha hb hc hm) fun σ H Q ⟨δ, μ, Qd, rs, rm, q, w⟩ => up_chain h h' σ H _ ⟨δ, μ, _, rs, rm, q, fun x μ1 v H1 e1 m1 r1 q1 => by
    split at q1
    · cases r1
      exact ⟨_, rfl, w _ μ1 H1 e1 m1 q1⟩
    · exact q1.elim⟩
end
end DL

namespace DL
open PySem PySem.Spec PyProof.Rows L2
section
variable {P : Program} {w : World} {A : Around} {E : Value → Shared → Prop} {s : Shared}
end
end DL

namespace DL
open PySem PySem.Spec PyProof.Rows L2
section
variable {P : Program} {w : World} {A : Around} {E : Value → Shared → Prop} {s : Shared}
end
end DL

namespace DL
open PySem PySem.Spec PyProof.Rows L2
section
variable {X : Cx}
variable {pos p p2 pos2 : Pos} {e : Expr} {te : DT}
end
end DL

namespace DL
open PySem PySem.Spec PyProof.Rows L2
section
variable {X : Cx} {pos : Pos} {a b c e tg : Expr} {ta tb tc te : DT} {K : PySem.W.Frag}
end
end DL

namespace DL
open PySem PySem.Spec PyProof.Rows L2
section
variable {X : Cx} {pos p p2 pos2 : Pos} {a b e : Expr} {ta tb te : DT} {K : PySem.W.Frag}
def rdRepC : DR2 := fun x y μ Q => match x, y with
  | .cell l, .d (.int k) => ∃ xs, μ l = some (.lst xs) ∧ -(2 ^ 63) ≤ k ∧ k < 2 ^ 63 ∧ xs.length * k.toNat ≤ 900000 ∧ ∀ r, μ r = none → Q (.cell r) (put μ r (.lst (List.replicate k.toNat xs).flatten))
  | _, _ => False
theorem da_rep {H : Hp} {vs : List V} {xs : List PyData} (h : DaAll K H vs xs) : ∀ n : Nat, DaAll K H (List.replicate n vs).flatten (List.replicate n xs).flatten
  | 0 => .nil
  | n + 1 => by rw [List.replicate_succ, List.replicate_succ, List.flatten_cons, List.flatten_cons]; exact h.append (da_rep h n)
theorem u_repC : Up2 K rdRepC rRep := fun x y μ Qd v u H Q m rx ry q w => by
  unfold rdRepC at q
  split at q
  · next l k =>
    obtain ⟨xs, hx, h1, h2, hl, q⟩ := q
    cases (show v = .ref l from rx)
    cases (show Da K (hid μ H) u (.int k) from ry)
    obtain ⟨vs, g1, g2⟩ := m l _ hx
    refine ⟨l, k, vs, rfl, rfl, g1, h1, h2, by rw [g2.length]; exact Nat.le_trans hl (by decide), fun r hr => ?_⟩
    exact w (.cell r) (put μ r (.lst (List.replicate k.toNat xs).flatten)) _ _ (ext_cell hr) (m.cell (c := .lst (List.replicate k.toNat xs).flatten) hr ⟨_, upd_same, (da_rep g2 _).mono (ext_cell hr)⟩) rfl (q r (m.free hr))
  · exact q.elim
theorem d_repC (ha : DE X a ta) (hb : DE X b tb) : DE X (.BinOp a .Mult b pos) (dOp rdRepC ta tb) := d_op op_rep u_repC ha hb
end
end DL

namespace RF
open DL
abbrev Tm := List (Int × Int)
def ev (l : Tm) (f : Int → Int) : Int := (l.map fun p => p.2 * f p.1).sum
theorem ev_nil {f : Int → Int} : ev [] f = 0 := rfl
theorem ev_cons {p : Int × Int} {l : Tm} {f : Int → Int} : ev (p :: l) f = p.2 * f p.1 + ev l f := by simp [ev]
theorem ev_congr : ∀ {l : Tm} {f g : Int → Int}, (∀ p ∈ l, f p.1 = g p.1) → ev l f = ev l g
  | [], f, g, _ => rfl
  | p :: l, f, g, h => by rw [ev_cons, ev_cons, h p List.mem_cons_self, ev_congr fun q hq => h q (List.mem_cons_of_mem _ hq)]
def Md (m a b : Int) : Prop := m ∣ a - b
theorem Md.refl {m a : Int} : Md m a a := ⟨0, by simp⟩
theorem Md.of {m a b : Int} (h : a = b) : Md m a b := h ▸ Md.refl
theorem Md.symm {m a b : Int} : Md m a b → Md m b a := fun ⟨k, h⟩ => ⟨-k, by rw [Int.mul_neg]; omega⟩
theorem Md.trans {m a b c : Int} : Md m a b → Md m b c → Md m a c := fun ⟨k, h⟩ ⟨l, g⟩ => ⟨k + l, by rw [Int.mul_add]; omega⟩
theorem Md.add {m a b c d : Int} : Md m a b → Md m c d → Md m (a + c) (b + d) := fun ⟨k, h⟩ ⟨l, g⟩ => ⟨k + l, by rw [Int.mul_add]; omega⟩
theorem Md.mul {m a b c : Int} : Md m a b → Md m (c * a) (c * b) := fun ⟨k, h⟩ => ⟨c * k, by rw [← Int.mul_sub, h, Int.mul_left_comm]⟩
theorem Md.mulr {m a b c : Int} : Md m a b → Md m (a * c) (b * c) := fun h => by rw [Int.mul_comm a, Int.mul_comm b]; exact h.mul
theorem Md.rest {m a : Int} : Md m (a % m) a := ⟨-(a / m), by have := Int.mul_ediv_add_emod a m; rw [Int.mul_neg]; omega⟩
theorem Md.eq {m a b : Int} (h : Md m a b) (ha : 0 ≤ a) (ha2 : a < m) (hb : 0 ≤ b) (hb2 : b < m) : a = b := by
  have e := Int.emod_emod_of_dvd a (Int.dvd_refl m)
  have h2 := Int.emod_eq_emod_iff_emod_sub_eq_zero.mpr (Int.emod_eq_zero_of_dvd h)
  rw [Int.emod_eq_of_lt ha ha2, Int.emod_eq_of_lt hb hb2] at h2
  exact h2
theorem ev_md {m : Int} : ∀ {l : Tm} {f g : Int → Int}, (∀ x, Md m (f x) (g x)) → Md m (ev l f) (ev l g)
  | [], f, g, _ => .refl
  | p :: l, f, g, h => by rw [ev_cons, ev_cons]; exact (h _).mul.add (ev_md h)
structure Cn (m : Int) (r : Tm) : Prop where
  so : r.Pairwise fun a b => a.1 < b.1
  vl : ∀ p ∈ r, 0 < p.2 ∧ p.2 < m
def ind (x : Int) : Int → Int := fun y => if y = x then 1 else 0
theorem co_not : ∀ {r : Tm} {x : Int}, (∀ p ∈ r, p.1 ≠ x) → ev r (ind x) = 0
  | [], x, _ => rfl
  | p :: r, x, h => by
    rw [ev_cons, co_not fun q hq => h q (List.mem_cons_of_mem _ hq)]
    simp [ind, h p List.mem_cons_self]
theorem co_mem : ∀ {r : Tm} {x v : Int}, r.Pairwise (fun a b => a.1 < b.1) → (x, v) ∈ r → ev r (ind x) = v
  | p :: r, x, v, h, hm => by
    rw [List.pairwise_cons] at h
    rw [ev_cons]
    rcases List.mem_cons.mp hm with e | hm
    · subst e
      rw [co_not fun q hq => by have := h.1 q hq; dsimp only at this; omega]
      simp [ind]
    · have := h.1 _ hm
      rw [co_mem h.2 hm]
      have : p.1 ≠ x := by dsimp only at this; omega
      simp [ind, this]
theorem co_cases {m : Int} {r : Tm} (c : Cn m r) (hm : 0 < m) (x : Int) : 0 ≤ ev r (ind x) ∧ ev r (ind x) < m ∧ (ev r (ind x) ≠ 0 → (x, ev r (ind x)) ∈ r) := by
  by_cases h : ∃ p ∈ r, p.1 = x
  · obtain ⟨p, hp, rfl⟩ := h
    have e := co_mem c.so (x := p.1) (v := p.2) hp
    have v := c.vl p hp
    rw [e]
    exact ⟨by omega, v.2, fun _ => hp⟩
  · have e := co_not (r := r) (x := x) fun p hp z => h ⟨p, hp, z⟩
    rw [e]
    exact ⟨by omega, hm, fun z => absurd rfl z⟩
theorem Cn.sub {m : Int} {r s : Tm} (c : Cn m r) (d : Cn m s) (hm : 0 < m) (h : ∀ f, Md m (ev r f) (ev s f)) : ∀ p, p ∈ r → p ∈ s := fun ⟨x, v⟩ hp => by
  have e := co_mem c.so hp
  have v1 := c.vl _ hp
  dsimp only at v1
  obtain ⟨s1, s2, s3⟩ := co_cases d hm x
  have e2 := (h (ind x)).eq (by omega) (by omega) s1 s2
  have := s3 (by omega)
  rw [← e2, e] at this
  exact this
def IsP (m : Int) (a b r : Tm) : Prop := Cn m r ∧ ∀ f, Md m (ev r f) (ev a fun p => ev b fun q => f (p + q))
def pev (a : Tm) : Nat → (Int → Int) → Int
  | 0, f => f 0
  | n + 1, f => pev a n fun p => ev a fun q => f (p + q)
def IsW (m : Int) (a : Tm) (n : Nat) (r : Tm) : Prop := Cn m r ∧ ∀ f, Md m (ev r f) (pev a n f)
theorem pev_congr {a : Tm} : ∀ {n : Nat} {f g : Int → Int}, (∀ x, f x = g x) → pev a n f = pev a n g := fun {n f g} h => by rw [show f = g from funext h]
theorem pev_add {a : Tm} {i : Nat} : ∀ {j : Nat} {f : Int → Int}, pev a (i + j) f = pev a i fun p => pev a j fun q => f (p + q)
  | 0, f => pev_congr fun x => by simp [pev]
  | j + 1, f => by
    show pev a (i + j) (fun p => ev a fun q => f (p + q)) = _
    rw [pev_add]
    refine pev_congr fun p => ?_
    show _ = pev a j fun s => ev a fun q => f (p + (s + q))
    exact pev_congr fun s => ev_congr fun q _ => by rw [Int.add_assoc]
theorem IsW.zero {m : Int} {a : Tm} (hm : 1 < m) : IsW m a 0 [(0, 1)] := ⟨⟨by simp, by simpa using hm⟩, fun f => .of (by simp [ev_cons, ev_nil, pev])⟩
theorem IsW.one {m : Int} {a : Tm} (c : Cn m a) : IsW m a 1 a := ⟨c, fun f => .of (by
  show _ = ev a fun q => f (0 + q)
  exact ev_congr fun q _ => by rw [Int.zero_add])⟩
theorem IsW.mul {m : Int} {a r s u : Tm} {i j : Nat} (h : IsW m a i r) (g : IsW m a j s) (k : IsP m r s u) : IsW m a (i + j) u := ⟨k.1, fun f => by
  refine (k.2 f).trans ?_
  rw [pev_add]
  exact (ev_md fun p => g.2 _).trans (h.2 _)⟩
def Wd (A : Nat) (r : Tm) : Prop := ∀ p ∈ r, p.1.natAbs ≤ A
theorem Wd.mono {A B : Nat} {r : Tm} (h : Wd A r) (hl : A ≤ B) : Wd B r := fun p hp => Nat.le_trans (h p hp) hl
theorem len_of : ∀ {r : Tm} {lo hi : Int}, r.Pairwise (fun a b => a.1 < b.1) → (∀ p ∈ r, lo ≤ p.1 ∧ p.1 ≤ hi) → (r.length : Int) ≤ max 0 (hi - lo + 1)
  | [], lo, hi, _, _ => by simp only [List.length_nil]; omega
  | p :: r, lo, hi, h, w => by
    rw [List.pairwise_cons] at h
    have hp := w p List.mem_cons_self
    have := len_of (lo := p.1 + 1) (hi := hi) h.2 fun q hq => ⟨by have := h.1 q hq; omega, (w q (List.mem_cons_of_mem _ hq)).2⟩
    simp only [List.length_cons]
    omega
theorem Cn.len {m : Int} {r : Tm} {A : Nat} (c : Cn m r) (w : Wd A r) : r.length ≤ 2 * A + 1 := by
  have := len_of (lo := -(A : Int)) (hi := A) c.so fun p hp => by have := w p hp; omega
  omega
def ins : Tm → Int → Int → Tm
  | [], k, v => [(k, v)]
  | p :: t, k, v => if p.1 = k then (p.1, p.2 + v) :: t else p :: ins t k v
theorem tput_no {t : Tm} {k v : Int} (h : ∀ p ∈ t, p.1 ≠ k) : t.map (fun p => if p.1 = k then (p.1, v) else p) = t := by
  induction t with
  | nil => rfl
  | cons p t ih =>
    rw [List.map_cons, ih fun q hq => h q (List.mem_cons_of_mem _ hq), if_neg (h p List.mem_cons_self)]
theorem put_ins : ∀ {t : Tm} {k v : Int}, (t.map (·.1)).Nodup → tput t k ((tget t k).getD 0 + v) = ins t k v
  | [], k, v, _ => by simp [tput, tget, ins]
  | p :: t, k, v, h => by
    rw [List.map_cons, List.nodup_cons] at h
    by_cases hk : p.1 = k
    · have e1 : tget (p :: t) k = some p.2 := by simp [tget, hk]
      have e2 : ((p :: t).any fun p => decide (p.1 = k)) = true := by simp [hk]
      rw [e1]
      unfold tput ins
      rw [if_pos e2, if_pos hk, List.map_cons, if_pos hk, tput_no fun q hq z => h.1 (by rw [hk, ← z]; exact List.mem_map_of_mem hq)]
      rfl
    · have e1 : tget (p :: t) k = tget t k := by simp [tget, hk]
      have e2 : ((p :: t).any fun p => decide (p.1 = k)) = (t.any fun p => decide (p.1 = k)) := by simp [hk]
      have ih := put_ins (k := k) (v := v) h.2
      rw [e1]
      unfold ins
      rw [if_neg hk, ← ih]
      unfold tput
      rw [e2]
      split
      · rw [List.map_cons, if_neg hk]
      · rfl
theorem ins_ev : ∀ {t : Tm} {k v : Int} {f : Int → Int}, ev (ins t k v) f = ev t f + v * f k
  | [], k, v, f => by simp [ins, ev_cons, ev_nil]
  | p :: t, k, v, f => by
    unfold ins
    split
    · next h => subst h; simp only [ev_cons, Int.add_mul]; omega
    · simp only [ev_cons, ins_ev]; omega
theorem ins_len : ∀ {t : Tm} {k v : Int}, (ins t k v).length ≤ t.length + 1
  | [], k, v => by simp [ins]
  | p :: t, k, v => by
    unfold ins
    split
    · simp
    · have := ins_len (t := t) (k := k) (v := v); simp only [List.length_cons]; omega
theorem ins_key : ∀ {t : Tm} {k v x : Int}, x ∈ (ins t k v).map (·.1) → x = k ∨ x ∈ t.map (·.1)
  | [], k, v, x, h => by simpa [ins] using h
  | p :: t, k, v, x, h => by
    unfold ins at h
    split at h
    · exact .inr (by simpa using h)
    · rw [List.map_cons] at h ⊢
      rcases List.mem_cons.mp h with e | h
      · exact .inr (by rw [e]; exact List.mem_cons_self)
      · exact (ins_key h).imp id fun z => List.mem_cons_of_mem _ z
theorem ins_nd : ∀ {t : Tm} {k v : Int}, (t.map (·.1)).Nodup → ((ins t k v).map (·.1)).Nodup
  | [], k, v, _ => by simp [ins]
  | p :: t, k, v, h => by
    unfold ins
    split
    · simpa using h
    · next hk =>
      rw [List.map_cons, List.nodup_cons] at h ⊢
      exact ⟨fun z => (ins_key z).elim hk h.1, ins_nd h.2⟩
structure Tb (t : Tm) (n : Nat) (F : (Int → Int) → Int) : Prop where
  nd : (t.map (·.1)).Nodup
  ln : t.length ≤ n
  ev : ∀ f, ev t f = F f
theorem Tb.nil : Tb [] 0 (fun _ => 0) := ⟨by simp, by simp, fun f => rfl⟩
theorem Tb.ins {t : Tm} {n : Nat} {F : (Int → Int) → Int} (h : Tb t n F) {k v : Int} : Tb (ins t k v) (n + 1) (fun f => F f + v * f k) := ⟨ins_nd h.nd, Nat.le_trans ins_len (by have := h.ln; omega), fun f => by rw [ins_ev, h.ev]⟩
end RF

namespace FL
open PySem PySem.Spec PyProof.Rows L2 DL

inductive FV where
  | d (x : PyData)
  | c (x : Cell)
  | b (x : Cell)
abbrev FSt := List (Option FV)
/-- what an expression tells: data, the container in a slot, a new container -/
inductive FR where
  | val (x : PyData)
  | ref (i : Nat)
  | own (c : Cell)
structure Exc where
  cls : Str
  val : PyData
inductive R (α : Type) where
  | no
  | ok (a : α) (ε : FSt)
  | ex (e : Exc) (ε : FSt)
def R.bind {α β : Type} (r : R α) (f : α → FSt → R β) : R β := match r with
  | .no => .no
  | .ok a ε => f a ε
  | .ex e ε => .ex e ε
theorem R.bind_ok {α β : Type} {a : α} {ε : FSt} {f : α → FSt → R β} : (R.ok a ε).bind f = f a ε := rfl
def getC (ε : FSt) (i : Nat) : Option Cell := match ε[i]? with
  | some (some (.c c)) => some c
  | some (some (.b c)) => some c
  | _ => none
def setC (ε : FSt) (i : Nat) (c : Cell) : FSt := match ε[i]? with
  | some (some (.c _)) => ε.set i (some (.c c))
  | some (some (.b _)) => ε.set i (some (.b c))
  | _ => ε
def isC (ε : FSt) (i : Nat) : Prop := (getC ε i).isSome = true
def isB (ε : FSt) (i : Nat) : Prop := ∃ c, ε[i]? = some (some (.b c))

structure Mt (δ : DSt) (μ : Mu) (ε : FSt) : Prop where
  len : δ.length = ε.length
  dat : ∀ (i : Nat) (x : PyData), ε[i]? = some (some (.d x)) → δ[i]? = some (some (.d x))
  cel : ∀ (i : Nat) (c : Cell), getC ε i = some c → ∃ p, δ[i]? = some (some (.cell p)) ∧ μ p = some c
  apart : ∀ (i j : Nat) (p : Addr), isC ε i → isC ε j → δ[i]? = some (some (.cell p)) → δ[j]? = some (some (.cell p)) → i = j
def Adr (δ : DSt) (ε : FSt) (p : Addr) : Prop := ∃ i, isC ε i ∧ δ[i]? = some (some (.cell p))
/-- the same kinds of slots -/
def same1 : Option FV → Option FV → Prop
  | some (.d x), v => v = some (.d x)
  | some (.c _), v => ∃ y, v = some (.c y)
  | some (.b _), v => ∃ y, v = some (.b y)
  | none, v => v = none
structure Kd (ε ε' : FSt) : Prop where
  len : ε'.length = ε.length
  at' : ∀ (i : Nat) (v : Option FV), ε[i]? = some v → ∃ v', ε'[i]? = some v' ∧ same1 v v'
theorem same1_refl : ∀ v, same1 v v
  | some (.d _) => rfl
  | some (.c x) => ⟨x, rfl⟩
  | some (.b x) => ⟨x, rfl⟩
  | none => rfl
theorem same1_trans : ∀ {u v w}, same1 u v → same1 v w → same1 u w
  | some (.d _), _, _, h, g => by cases (show _ = _ from h); exact g
  | some (.c _), _, _, ⟨y, h⟩, g => by subst h; exact g
  | some (.b _), _, _, ⟨y, h⟩, g => by subst h; exact g
  | none, _, _, h, g => by cases (show _ = _ from h); exact g
theorem Kd.refl (ε : FSt) : Kd ε ε := ⟨rfl, fun i v h => ⟨v, h, same1_refl v⟩⟩
theorem Kd.trans {a b c : FSt} (h : Kd a b) (g : Kd b c) : Kd a c := ⟨g.len.trans h.len, fun i v e => by
  obtain ⟨v1, e1, s1⟩ := h.at' i v e
  obtain ⟨v2, e2, s2⟩ := g.at' i v1 e1
  exact ⟨v2, e2, same1_trans s1 s2⟩⟩
theorem getC_some {ε : FSt} {i : Nat} {c : Cell} (h : getC ε i = some c) : ε[i]? = some (some (.c c)) ∨ ε[i]? = some (some (.b c)) := by
  unfold getC at h
  split at h
  · next x e => cases h; exact .inl e
  · next x e => cases h; exact .inr e
  · cases h
theorem getC_c {ε : FSt} {i : Nat} {c : Cell} (h : ε[i]? = some (some (.c c))) : getC ε i = some c := by unfold getC; rw [h]
theorem getC_b {ε : FSt} {i : Nat} {c : Cell} (h : ε[i]? = some (some (.b c))) : getC ε i = some c := by unfold getC; rw [h]
theorem Kd.isC {ε ε' : FSt} (k : Kd ε ε') {i : Nat} : FL.isC ε i ↔ FL.isC ε' i := by
  have hl : ε.length = ε'.length := k.len.symm
  unfold FL.isC
  cases e : ε[i]? with
  | none =>
    have e' : ε'[i]? = none := List.getElem?_eq_none (by rw [← hl]; exact List.getElem?_eq_none_iff.mp e)
    simp [getC, e, e']
  | some v =>
    obtain ⟨v', e', s⟩ := k.at' i v e
    cases v with
    | none => cases (show _ = _ from s); simp [getC, e, e']
    | some f => cases f with
      | d x => cases (show _ = _ from s); simp [getC, e, e']
      | c x => obtain ⟨y, s⟩ := s; subst s; simp [getC, e, e']
      | b x => obtain ⟨y, s⟩ := s; subst s; simp [getC, e, e']
theorem Kd.adr {ε ε' : FSt} (k : Kd ε ε') {δ : DSt} {p : Addr} : Adr δ ε p ↔ Adr δ ε' p := by
  unfold Adr
  exact ⟨fun ⟨i, a, b⟩ => ⟨i, k.isC.mp a, b⟩, fun ⟨i, a, b⟩ => ⟨i, k.isC.mpr a, b⟩⟩
theorem isC_some {ε : FSt} {i : Nat} (h : isC ε i) : ∃ c, getC ε i = some c := Option.isSome_iff_exists.mp h
theorem isC_of {ε : FSt} {i : Nat} {c : Cell} (h : getC ε i = some c) : isC ε i := by unfold isC; rw [h]; rfl
theorem Mt.adr {δ : DSt} {μ : Mu} {ε : FSt} (m : Mt δ μ ε) {p : Addr} (h : Adr δ ε p) : ∃ c, μ p = some c := by
  obtain ⟨i, hi, hp⟩ := h
  obtain ⟨c, hc⟩ := isC_some hi
  obtain ⟨q, h1, h2⟩ := m.cel i c hc
  rw [hp] at h1
  cases h1
  exact ⟨c, h2⟩
/-- what an expression may do -/
structure TrE (δ : DSt) (μ : Mu) (ε : FSt) (μ' : Mu) (ε' : FSt) : Prop where
  mt : Mt δ μ' ε'
  fr : ∀ b c, μ b = some c → ¬ Adr δ ε b → μ' b = some c
  kd : Kd ε ε'
theorem TrE.refl {δ : DSt} {μ : Mu} {ε : FSt} (m : Mt δ μ ε) : TrE δ μ ε μ ε := ⟨m, fun _ _ h _ => h, .refl _⟩
theorem TrE.trans {δ : DSt} {μ μ1 μ2 : Mu} {ε ε1 ε2 : FSt} (a : TrE δ μ ε μ1 ε1) (b : TrE δ μ1 ε1 μ2 ε2) : TrE δ μ ε μ2 ε2 :=
  ⟨b.mt, fun p c h n => b.fr p c (a.fr p c h n) (fun z => n (a.kd.adr.mpr z)), a.kd.trans b.kd⟩
/-- a result -/
def RF (δ : DSt) (μ : Mu) (ε' : FSt) (μ' : Mu) : FR → DV → Prop
  | .val x, v => v = .d x
  | .ref i, v => isC ε' i ∧ ∃ p, v = .cell p ∧ δ[i]? = some (some (.cell p))
  | .own c, v => ∃ p, v = .cell p ∧ μ' p = some c ∧ μ p = none
theorem RF.keep {δ : DSt} {μ μ1 μ2 : Mu} {ε ε1 ε2 : FSt} (t0 : TrE δ μ ε μ1 ε1) (m : Mt δ μ ε) (t : TrE δ μ1 ε1 μ2 ε2) : ∀ {r : FR} {v : DV}, RF δ μ ε1 μ1 r v → RF δ μ ε2 μ2 r v
  | .val _, _, h => h
  | .ref i, _, ⟨a, p, b, c⟩ => ⟨t.kd.isC.mp a, p, b, c⟩
  | .own c, _, ⟨p, a, b, e⟩ => ⟨p, a, t.fr p c b (fun z => by
      obtain ⟨d, hd⟩ := m.adr (t0.kd.adr.mpr z)
      rw [e] at hd; cases hd), e⟩
/-- what is seen of a result: containers as data -/
def cellD : Cell → PyData
  | .lst xs => .list xs
  | .dct kvs => .dict (kvs.map fun p => (kD p.1, p.2))
def see (ε : FSt) : FR → Option PyData
  | .val x => some x
  | .ref i => (getC ε i).map cellD
  | .own c => some (cellD c)
abbrev FT := FSt → R FR
abbrev FTT := FSt → R Bool
abbrev FTA := FSt → R (List FR)
def fit {α β : Type} (P : α → β → Mu → FSt → Prop) (δ : DSt) (μ : Mu) (ε : FSt) (Q : β → Mu → Prop) : R α → Prop
  | .ok a ε' => ∀ v μ', TrE δ μ ε μ' ε' → P a v μ' ε' → Q v μ'
  | _ => False
def upF (f : FT) : DT := fun δ μ Q => ∃ ε, Mt δ μ ε ∧ fit (fun r v μ' ε' => RF δ μ ε' μ' r v) δ μ ε Q (f ε)
def upFT (f : FTT) : DTT := fun δ μ Q => ∃ ε, Mt δ μ ε ∧ fit (fun r v _ _ => v = r) δ μ ε Q (f ε)
def upFA (f : FTA) : DTA := fun δ μ Q => ∃ ε, Mt δ μ ε ∧ fit (fun rs vs μ' ε' => PySem.Paired (fun r v => RF δ μ ε' μ' r v) rs vs) δ μ ε Q (f ε)
abbrev FE (X : Cx) (e : Expr) (f : FT) : Prop := DE X e (upF f)
abbrev FC (X : Cx) (e : Expr) (f : FTT) : Prop := DC X e (upFT f)
abbrev FCW (X : Cx) (e : Expr) (f : FTT) : Prop := DCW X e (upFT f)
abbrev FA (X : Cx) (es : List Expr) (f : FTA) : Prop := DA X es (upFA f)
theorem d_imp {X : Cx} {e : Expr} {t t' : DT} (h : DE X e t) (w : ∀ δ μ Q, t' δ μ Q → t δ μ Q) : DE X e t' := pe_imp h fun σ H Q ⟨δ, μ, Qd, rs, rm, q, z⟩ => ⟨δ, μ, Qd, rs, rm, w _ _ _ q, z⟩
theorem c_imp {X : Cx} {e : Expr} {t t' : DTT} (h : DC X e t) (w : ∀ δ μ Q, t' δ μ Q → t δ μ Q) : DC X e t' := pt_imp h fun σ H Q ⟨δ, μ, Qd, rs, rm, q, z⟩ => ⟨δ, μ, Qd, rs, rm, w _ _ _ q, z⟩
theorem cw_imp {X : Cx} {e : Expr} {t t' : DTT} (h : DCW X e t) (w : ∀ δ μ Q, t' δ μ Q → t δ μ Q) : DCW X e t' := pw_imp h fun σ H Q ⟨δ, μ, Qd, rs, rm, q, z⟩ => ⟨δ, μ, Qd, rs, rm, w _ _ _ q, z⟩
theorem a_imp {X : Cx} {e : List Expr} {t t' : DTA} (h : DA X e t) (w : ∀ δ μ Q, t' δ μ Q → t δ μ Q) : DA X e t' := pa_imp h fun σ H Q ⟨δ, μ, Qd, rs, rm, q, z⟩ => ⟨δ, μ, Qd, rs, rm, w _ _ _ q, z⟩
theorem s_imp {X : Cx} {e : Stmt} {t t' : DTS} (h : DS X e t) (w : ∀ D δ μ, t' D δ μ → t D δ μ) : DS X e t' := ps_imp h fun D σ H ⟨δ, μ, Dd, rs, rm, q, z⟩ => ⟨δ, μ, Dd, rs, rm, w _ _ _ q, z⟩
theorem ss_imp {X : Cx} {e : List Stmt} {t t' : DTS} (h : DSs X e t) (w : ∀ D δ μ, t' D δ μ → t D δ μ) : DSs X e t' := pss_imp h fun D σ H ⟨δ, μ, Dd, rs, rm, q, z⟩ => ⟨δ, μ, Dd, rs, rm, w _ _ _ q, z⟩

section
variable {δ : DSt} {μ : Mu} {ε : FSt}
theorem fit_ok {α β : Type} {P : α → β → Mu → FSt → Prop} {Q : β → Mu → Prop} {r : R α} (h : fit P δ μ ε Q r) : ∃ a ε', r = .ok a ε' ∧ ∀ v μ', TrE δ μ ε μ' ε' → P a v μ' ε' → Q v μ' := by
  cases r with
  | no => exact h.elim
  | ex _ _ => exact h.elim
  | ok a ε' => exact ⟨a, ε', rfl, h⟩
/-- part f, then what g makes of it -/
theorem use1 {f : FT} {α β : Type} {g : FR → FSt → R α} {P : α → β → Mu → FSt → Prop} {Q : β → Mu → Prop} {Q' : DV → Mu → Prop} (m : Mt δ μ ε) (h : fit P δ μ ε Q ((f ε).bind g))
    (k : ∀ r ε1 v μ1, f ε = .ok r ε1 → TrE δ μ ε μ1 ε1 → RF δ μ ε1 μ1 r v → fit P δ μ ε Q (g r ε1) → Q' v μ1) : upF f δ μ Q' := by
  refine ⟨ε, m, ?_⟩
  cases e : f ε with
  | no => rw [e] at h; exact h.elim
  | ex _ _ => rw [e] at h; exact h.elim
  | ok r ε1 =>
    rw [e] at h
    exact fun v μ1 t p => k r ε1 v μ1 e t p h
theorem useT {f : FTT} {α β : Type} {g : Bool → FSt → R α} {P : α → β → Mu → FSt → Prop} {Q : β → Mu → Prop} {Q' : Bool → Mu → Prop} (m : Mt δ μ ε) (h : fit P δ μ ε Q ((f ε).bind g))
    (k : ∀ r ε1 μ1, f ε = .ok r ε1 → TrE δ μ ε μ1 ε1 → fit P δ μ ε Q (g r ε1) → Q' r μ1) : upFT f δ μ Q' := by
  refine ⟨ε, m, ?_⟩
  cases e : f ε with
  | no => rw [e] at h; exact h.elim
  | ex _ _ => rw [e] at h; exact h.elim
  | ok r ε1 =>
    rw [e] at h
    exact fun v μ1 t p => by subst p; exact k v ε1 μ1 e t h
theorem useA {f : FTA} {α β : Type} {g : List FR → FSt → R α} {P : α → β → Mu → FSt → Prop} {Q : β → Mu → Prop} {Q' : List DV → Mu → Prop} (m : Mt δ μ ε) (h : fit P δ μ ε Q ((f ε).bind g))
    (k : ∀ rs ε1 vs μ1, f ε = .ok rs ε1 → TrE δ μ ε μ1 ε1 → PySem.Paired (fun r v => RF δ μ ε1 μ1 r v) rs vs → fit P δ μ ε Q (g rs ε1) → Q' vs μ1) : upFA f δ μ Q' := by
  refine ⟨ε, m, ?_⟩
  cases e : f ε with
  | no => rw [e] at h; exact h.elim
  | ex _ _ => rw [e] at h; exact h.elim
  | ok r ε1 =>
    rw [e] at h
    exact fun v μ1 t p => k r ε1 v μ1 e t p h
/-- behind a first part: the wish seen from there -/
theorem fit_step {α β : Type} {P : α → β → Mu → FSt → Prop} {Q : β → Mu → Prop} {μ1 : Mu} {ε1 : FSt} (t : TrE δ μ ε μ1 ε1) {r : R α} {P' : α → β → Mu → FSt → Prop} (h : fit P δ μ ε Q r) (w : ∀ a v μ' ε', TrE δ μ1 ε1 μ' ε' → P' a v μ' ε' → P a v μ' ε') : fit P' δ μ1 ε1 Q r := by
  cases r with
  | no => exact h
  | ex _ _ => exact h
  | ok a ε' => exact fun v μ' t' p => h v μ' (t.trans t') (w _ _ _ _ t' p)
theorem RF.back {μ μ1 μ' : Mu} {ε ε1 ε' : FSt} (m : Mt δ μ ε) (t : TrE δ μ ε μ1 ε1) (t' : TrE δ μ1 ε1 μ' ε') : ∀ {r : FR} {v : DV}, RF δ μ1 ε' μ' r v → RF δ μ ε' μ' r v
  | .val _, _, h => h
  | .ref _, _, h => h
  | .own c, _, ⟨p, a, b, e⟩ => ⟨p, a, b, by
      cases h : μ p with
      | none => rfl
      | some c0 =>
        by_cases z : Adr δ ε p
        · obtain ⟨c2, h2⟩ := t.mt.adr (t.kd.adr.mp z)
          rw [e] at h2; cases h2
        · have := t.fr p c0 h z
          rw [e] at this; cases this⟩
end
end FL

namespace FL
open PySem PySem.Spec PyProof.Rows L2 DL
open Classical in
noncomputable def req {α : Type} (p : Prop) (x : Option α) : Option α := if p then x else none
theorem req_pos {α : Type} {p : Prop} {x : Option α} (h : p) : req p x = x := if_pos h
theorem req_true {α : Type} {x : Option α} : req True x = x := if_pos trivial
theorem req_some {α : Type} {p : Prop} {x : Option α} {a : α} (h : req p x = some a) : p ∧ x = some a := by
  unfold req at h
  split at h
  · next hp => exact ⟨hp, h⟩
  · cases h
/-- what a value over data is seen as -/
def look (μ : Mu) : DV → Option PyData
  | .d x => some x
  | .cell p => (μ p).map cellD
/-- read-only operations -/
def rdP1 (g : PyData → Option PyData) : DR1 := fun x μ Q => ∃ a z, look μ x = some a ∧ g a = some z ∧ Q (.d z) μ
def rdP2 (g : PyData → PyData → Option PyData) : DR2 := fun x y μ Q => ∃ a b z, look μ x = some a ∧ look μ y = some b ∧ g a b = some z ∧ Q (.d z) μ
def looks (μ : Mu) : List DV → Option (List PyData)
  | [] => some []
  | x :: r => (look μ x).bind fun a => (looks μ r).map (a :: ·)
def rdPA (g : List PyData → Option PyData) : DRA := fun ds μ Q => ∃ as z, looks μ ds = some as ∧ g as = some z ∧ Q (.d z) μ

def ofO (ε : FSt) : Option PyData → R FR
  | some z => .ok (.val z) ε
  | none => .no
theorem ofO_some {ε : FSt} {z : PyData} : ofO ε (some z) = .ok (.val z) ε := rfl
def sees (ε : FSt) : List FR → Option (List PyData)
  | [] => some []
  | x :: r => (see ε x).bind fun a => (sees ε r).map (a :: ·)
def fVar (i : Nat) : FT := fun ε => match ε[i]? with
  | some (some (.d x)) => .ok (.val x) ε
  | some (some (.c _)) => .ok (.ref i) ε
  | some (some (.b _)) => .ok (.ref i) ε
  | _ => .no
def fC (x : PyData) : FT := fun ε => .ok (.val x) ε
def fUn (g : PyData → Option PyData) (fa : FT) : FT := fun ε => (fa ε).bind fun x ε1 => ofO ε1 ((see ε1 x).bind g)
def fOp (g : PyData → PyData → Option PyData) (fa fb : FT) : FT := fun ε => (fa ε).bind fun x ε1 => (fb ε1).bind fun y ε2 => ofO ε2 ((see ε2 x).bind fun a => (see ε2 y).bind fun b => g a b)
def faNil : FTA := fun ε => .ok [] ε
def faCons (fa : FT) (fr : FTA) : FTA := fun ε => (fa ε).bind fun x ε1 => (fr ε1).bind fun xs ε2 => .ok (x :: xs) ε2
def fFn (g : List PyData → Option PyData) (fa : FTA) : FT := fun ε => (fa ε).bind fun xs ε1 => ofO ε1 ((sees ε1 xs).bind g)

section
variable {δ : DSt} {μ : Mu} {ε : FSt}
theorem see_look {μ0 : Mu} {r : FR} {v : DV} {a : PyData} (m : Mt δ μ ε) (h : RF δ μ0 ε μ r v) (e : see ε r = some a) : look μ v = some a := by
  cases r with
  | val x => cases (show v = .d x from h); exact e
  | ref i =>
    obtain ⟨hc, p, rfl, hp⟩ := h
    obtain ⟨c, hg⟩ := isC_some hc
    obtain ⟨q, h1, h2⟩ := m.cel i c hg
    rw [hp] at h1
    cases h1
    simp only [see, hg] at e
    simpa [look, h2] using e
  | own c =>
    obtain ⟨p, rfl, h2, _⟩ := h
    simpa [look, h2, see] using e
theorem sees_looks {μ0 : Mu} : ∀ {rs : List FR} {vs : List DV} {as : List PyData}, Mt δ μ ε → PySem.Paired (fun r v => RF δ μ0 ε μ r v) rs vs → sees ε rs = some as → looks μ vs = some as
  | _, _, _, m, .nil, e => e
  | _, _, _, m, .cons h t, e => by
    simp only [sees, Option.bind_eq_some_iff, Option.map_eq_some_iff] at e
    obtain ⟨a, e1, xs, e2, rfl⟩ := e
    simp [looks, see_look m h e1, sees_looks m t e2]
/-- the end of a part: its result is data -/
theorem fit_val {Q : DV → Mu → Prop} {μ1 : Mu} {ε1 : FSt} {z : PyData} (t : TrE δ μ ε μ1 ε1) (h : fit (fun r v μ' ε' => RF δ μ ε' μ' r v) δ μ ε Q (.ok (.val z) ε1)) : Q (.d z) μ1 := h _ _ t rfl
theorem fit_ofO {Q : DV → Mu → Prop} {μ1 : Mu} {ε1 : FSt} {o : Option PyData} (t : TrE δ μ ε μ1 ε1) (h : fit (fun r v μ' ε' => RF δ μ ε' μ' r v) δ μ ε Q (ofO ε1 o)) : ∃ z, o = some z ∧ Q (.d z) μ1 := by
  cases o with
  | none => exact h.elim
  | some z => exact ⟨z, rfl, fit_val t h⟩
end
section
variable {X : Cx} {pos : Pos} {a b c e : Expr} {fa fb fc fe : FT} {es : List Expr} {fr : FTA}
theorem f_var (i : Nat) {x : Str} (hN : X.N[i]? = some x := by rfl) (hv : Vis X.env.scope x := by first | exact Or.inl rfl | exact Or.inr (Or.inl rfl) | exact Or.inr (Or.inr rfl)) (hd : (x == ("__debug__" : Str)) = false := by decide)
    (hcd : (x == ("__classdict__" : Str)) = false := by decide) : FE X (.Name x pos) (fVar i) := d_imp (d_var i hN hv hd hcd) fun δ μ Q ⟨ε, m, h⟩ => by
  unfold fVar at h
  unfold dVar
  split at h
  · next x e => rw [m.dat i x e]; exact h _ _ (.refl m) rfl
  · next x e =>
    obtain ⟨p, h1, h2⟩ := m.cel i _ (getC_c e)
    rw [h1]; exact h _ _ (.refl m) ⟨isC_of (getC_c e), p, rfl, h1⟩
  · next x e =>
    obtain ⟨p, h1, h2⟩ := m.cel i _ (getC_b e)
    rw [h1]; exact h _ _ (.refl m) ⟨isC_of (getC_b e), p, rfl, h1⟩
  · exact h.elim
theorem f_const {x : PyData} (h : DE X e (dC x)) : FE X e (fC x) := d_imp h fun δ μ Q ⟨ε, m, h⟩ => h _ _ (.refl m) rfl
theorem up_fUn {g : PyData → Option PyData} : ∀ δ μ Q, upF (fUn g fa) δ μ Q → dUn (rdP1 g) (upF fa) δ μ Q := fun δ μ Q ⟨ε, m, h⟩ =>
  use1 m h fun r ε1 v μ1 e t rf h1 => by
    obtain ⟨z, ez, q⟩ := fit_ofO t h1
    simp only [Option.bind_eq_some_iff] at ez
    obtain ⟨a, e1, e2⟩ := ez
    exact ⟨a, z, see_look t.mt rf e1, e2, q⟩
theorem up_fOp {g : PyData → PyData → Option PyData} : ∀ δ μ Q, upF (fOp g fa fb) δ μ Q → dOp (rdP2 g) (upF fa) (upF fb) δ μ Q := fun δ μ Q ⟨ε, m, h⟩ =>
  use1 m h fun r ε1 v μ1 e t rf h1 => use1 (P := fun r v μ' ε' => RF δ μ ε' μ' r v) t.mt (fit_step t h1 fun _ _ _ _ _ p => p) fun r2 ε2 v2 μ2 e2 t2 rf2 h2 => by
    have rfk := RF.keep t m t2 rf
    have rf2' := RF.back m t t2 rf2
    have h3 : fit (fun r v μ' ε' => RF δ μ ε' μ' r v) δ μ1 ε1 Q (ofO ε2 ((see ε2 r).bind fun a => (see ε2 r2).bind fun b => g a b)) := h2
    cases ho : ((see ε2 r).bind fun a => (see ε2 r2).bind fun b => g a b) with
    | none => rw [ho] at h3; exact h3.elim
    | some z =>
      rw [ho] at h3
      simp only [Option.bind_eq_some_iff] at ho
      obtain ⟨a, e3, b, e4, e5⟩ := ho
      exact ⟨a, b, z, see_look t2.mt rfk e3, see_look t2.mt rf2' e4, e5, h3 _ _ t2 rfl⟩
theorem fa_nil : FA X [] faNil := a_imp a_nil fun δ μ Q ⟨ε, m, h⟩ => h _ _ (.refl m) .nil
theorem up_faCons : ∀ δ μ Q, upFA (faCons fa fr) δ μ Q → aCons (upF fa) (upFA fr) δ μ Q := fun δ μ Q ⟨ε, m, h⟩ =>
  use1 m h fun r ε1 v μ1 e t rf h1 => useA (P := fun rs vs μ' ε' => PySem.Paired (fun r v => RF δ μ ε' μ' r v) rs vs) t.mt (fit_step t h1 fun _ _ _ _ _ p => p) fun rs ε2 vs μ2 e2 t2 rf2 h2 => by
    exact h2 _ _ t2 (.cons (RF.keep t m t2 rf) (L2.Paired.mapP rf2 fun _ _ p => RF.back m t t2 p))
theorem fa_cons (ha : FE X e fe) (hr : FA X es fr) (hs : starEach (e :: es) X.env = (false, eval e X.env) :: starEach es X.env := by rfl) : FA X (e :: es) (faCons fe fr) := a_imp (a_cons ha hr hs) up_faCons
theorem up_fFn {g : List PyData → Option PyData} : ∀ δ μ Q, upF (fFn g fr) δ μ Q → dCall (rdPA g) (upFA fr) δ μ Q := fun δ μ Q ⟨ε, m, h⟩ =>
  useA m h fun rs ε1 vs μ1 e t rf h1 => by
    obtain ⟨z, ez, q⟩ := fit_ofO t h1
    simp only [Option.bind_eq_some_iff] at ez
    obtain ⟨as, e1, e2⟩ := ez
    exact ⟨as, z, sees_looks t.mt rf e1, e2, q⟩
end
end FL

namespace FL
open PySem PySem.Spec PyProof.Rows L2 DL
section
variable {K : PySem.W.Frag} {μ : Mu} {H : Hp} {x : DV} {v : V} {a : PyData}
theorem look_da (m : RM K μ H) (r : RV K μ H v x) (h : look μ x = some a) : Da K H v a := by
  cases x with
  | d y => cases (show y = a from Option.some.inj h); exact Da.mono unhid r
  | cell p =>
    cases (show v = .ref p from r)
    have h : (μ p).map cellD = some _ := h
    cases e : μ p with
    | none => rw [e] at h; cases h
    | some c =>
      rw [e] at h
      cases (show cellD c = a from Option.some.inj h)
      cases c with
      | lst ds =>
        obtain ⟨vs, h1, h2⟩ := m p _ e
        exact .lst (.of h1) (h2.mono unhid)
      | dct kvs =>
        obtain ⟨ks, h1, h2, h3⟩ := m p _ e
        have := Da.dct (.inl h1) (h3.mono unhid)
        have e2 : ((ks.map fun p => kD p.1).zip (kvs.map (·.2))) = kvs.map fun p => (kD p.1, p.2) := by
          have : (ks.map fun p => kD p.1) = kvs.map fun p => kD p.1 := by
            have := congrArg (List.map kD) h2
            simpa [List.map_map, Function.comp_def] using this
          rw [this]
          rw [List.zip_map']
        rw [e2] at this
        exact this
theorem look_list {xs : List PyData} (m : RM K μ H) (r : RV K μ H v x) (h : look μ x = some (.list xs)) : ∃ p vs, v = .ref p ∧ SqL K H p vs ∧ DaAll K (hid μ H) vs xs := by
  cases x with
  | d y =>
    cases (show y = _ from Option.some.inj h)
    cases (show Da K (hid μ H) v (.list xs) from r) with
    | lst s t => exact ⟨_, _, rfl, unhid.seq s, t⟩
  | cell p =>
    have h : (μ p).map cellD = some _ := h
    cases e : μ p with
    | none => rw [e] at h; cases h
    | some c =>
      rw [e] at h
      cases c with
      | dct _ => cases h
      | lst ds =>
        cases h
        obtain ⟨vs, h1, h2⟩ := m p _ e
        exact ⟨p, vs, r, .of h1, h2⟩
theorem look_tup {xs : List PyData} (r : RV K μ H v x) (h : look μ x = some (.tuple xs)) : x = .d (.tuple xs) ∧ ∃ p vs, v = .ref p ∧ SqP K (hid μ H) p vs ∧ DaAll K (hid μ H) vs xs := by
  cases x with
  | d y =>
    cases (show y = _ from Option.some.inj h)
    cases (show Da K (hid μ H) v (.tuple xs) from r) with
    | tup s t => exact ⟨rfl, _, _, rfl, s, t⟩
  | cell p =>
    have h : (μ p).map cellD = some _ := h
    cases e : μ p with
    | none => rw [e] at h; cases h
    | some c => rw [e] at h; cases c <;> cases h
theorem look_flat (r : RV K μ H v x) (h : look μ x = some a) (hf : (match a with | .list _ => false | .dict _ => false | _ => true) = true) : x = .d a := by
  cases x with
  | d y => cases (show y = a from Option.some.inj h); rfl
  | cell p =>
    have h : (μ p).map cellD = some _ := h
    cases e : μ p with
    | none => rw [e] at h; cases h
    | some c =>
      rw [e] at h
      cases (show cellD c = a from Option.some.inj h)
      cases c <;> cases hf
theorem look_int {i : Int} (r : RV K μ H v x) (h : look μ x = some (.int i)) : v = .int i := by
  have := look_flat r h rfl
  subst this
  cases r; rfl
theorem look_bool {i : Bool} (r : RV K μ H v x) (h : look μ x = some (.bool i)) : v = .bl i := by
  have := look_flat r h rfl
  subst this
  cases r; rfl
theorem look_str {i : Str} (r : RV K μ H v x) (h : look μ x = some (.str i)) : v = .str i := by
  have := look_flat r h rfl
  subst this
  cases r; rfl
theorem Da.hidden {H' : Hp} {d : PyData} (h : Da K H' v d) (hf : (match d with | .none => true | .bool _ => true | .int _ => true | .str _ => true | _ => false) = true) (H'' : Hp) : Da K H'' v d := by
  cases h with
  | non => exact .non
  | bl b => exact .bl b
  | int i => exact .int i
  | str x => exact .str x
  | lst _ _ => cases hf
  | tup _ _ => cases hf
  | dct _ _ => cases hf
end
noncomputable def gI (C : Int → Int → Prop) (g : Int → Int → PyData) : PyData → PyData → Option PyData
  | .int i, .int j => req (C i j) (some (g i j))
  | _, _ => none
theorem upP_I {K : PySem.W.Frag} {C : Int → Int → Prop} {g : Int → Int → PyData} {gv : Int → Int → V} (r : ∀ H i j, Da K H (gv i j) (g i j)) : Up2 K (rdP2 (gI C g)) (rI C gv) := fun x y μ Qd v u H Q m rx ry ⟨a, b, z, ea, eb, ez, q⟩ w => by
  unfold gI at ez
  split at ez
  · next i j =>
    obtain ⟨hc, e⟩ := req_some ez
    cases e
    exact ⟨i, j, look_int rx ea, look_int ry eb, hc, w (.d _) μ _ H (.refl _ _) m (r _ _ _) q⟩
  · cases ez
def gI0 (g : Int → Int → PyData) : PyData → PyData → Option PyData
  | .int i, .int j => some (g i j)
  | _, _ => none
theorem upP_I0 {K : PySem.W.Frag} {g : Int → Int → PyData} {gv : Int → Int → V} (r : ∀ H i j, Da K H (gv i j) (g i j)) : Up2 K (rdP2 (gI0 g)) (rI0 gv) := fun x y μ Qd v u H Q m rx ry ⟨a, b, z, ea, eb, ez, q⟩ w => by
  unfold gI0 at ez
  split at ez
  · next i j =>
    cases ez
    exact ⟨i, j, look_int rx ea, look_int ry eb, w (.d _) μ _ H (.refl _ _) m (r _ _ _) q⟩
  · cases ez
def gU (g : Int → PyData) : PyData → Option PyData
  | .int i => some (g i)
  | _ => none
theorem upP_U {K : PySem.W.Frag} {g : Int → PyData} {gv : Int → V} (r : ∀ H i, Da K H (gv i) (g i)) : Up1 K (rdP1 (gU g)) (rU gv) := fun x μ Qd v H Q m rx ⟨a, z, ea, ez, q⟩ w => by
  unfold gU at ez
  split at ez
  · next i =>
    cases ez
    exact ⟨i, look_int rx ea, w (.d _) μ _ H (.refl _ _) m (r _ _) q⟩
  · cases ez
section
variable {X : Cx} {pos : Pos} {a b c e : Expr} {fa fb fc fe : FT} {es : List Expr} {fr : FTA}
noncomputable def gSub := gI0 fun i j => .int (i - j)
noncomputable def gMod := gI (fun _ j => 0 < j) fun i j => .int (i % j)
noncomputable def gFdiv := gI CDivW fun i j => .int (i / j)
noncomputable def gPow := gI CPowB fun i j => .int (i ^ j.toNat)
def gNeg := gU fun i => .int (-i)
def gLt := gI0 fun i j => .bool (decide (i < j))
def gLe := gI0 fun i j => .bool (decide (i ≤ j))
def gGt := gI0 fun i j => .bool (decide (j < i))
def gGe := gI0 fun i j => .bool (decide (j ≤ i))
theorem f_sub (ha : FE X a fa) (hb : FE X b fb) : FE X (.BinOp a .Sub b pos) (fOp gSub fa fb) := d_imp (d_op op_sub (upP_I0 fun _ _ _ => .int _) ha hb) up_fOp
theorem f_mod (ha : FE X a fa) (hb : FE X b fb) : FE X (.BinOp a .Mod b pos) (fOp gMod fa fb) := d_imp (d_op op_mod (upP_I fun _ _ _ => .int _) ha hb) up_fOp
theorem f_fdiv (ha : FE X a fa) (hb : FE X b fb) : FE X (.BinOp a .FloorDiv b pos) (fOp gFdiv fa fb) := d_imp (d_op op_fdivW (upP_I fun _ _ _ => .int _) ha hb) up_fOp
theorem f_pow (ha : FE X a fa) (hb : FE X b fb) : FE X (.BinOp a .Pow b pos) (fOp gPow fa fb) := d_imp (d_op op_powB (upP_I fun _ _ _ => .int _) ha hb) up_fOp
theorem f_neg (ha : FE X a fa) : FE X (.UnaryOp .USub a pos) (fUn gNeg fa) := d_imp (d_un un_neg (upP_U fun _ _ => .int _) ha) up_fUn
theorem p_lt : Up2 X.K (rdP2 gLt) (rI0 fun i j => .bl (decide (i < j))) := upP_I0 fun _ _ _ => .bl _
theorem p_le : Up2 X.K (rdP2 gLe) (rI0 fun i j => .bl (decide (i ≤ j))) := upP_I0 fun _ _ _ => .bl _
theorem p_gt : Up2 X.K (rdP2 gGt) (rI0 fun i j => .bl (decide (j < i))) := upP_I0 fun _ _ _ => .bl _
theorem p_ge : Up2 X.K (rdP2 gGe) (rI0 fun i j => .bl (decide (j ≤ i))) := upP_I0 fun _ _ _ => .bl _
theorem f_cmp {op : CmpOp} {g : PyData → PyData → Option PyData} {rv : R2} (ho : OpR X (compareOp op) rv) (h : Up2 X.K (rdP2 g) rv) (hm : behindInMarks op b = false) (ha : FE X a fa) (hb : FE X b fb) : FE X (.Compare a [op] [b] pos) (fOp g fa fb) := d_imp (d_cmp ho h ha hb hm) up_fOp
theorem f_gt (ha : FE X a fa) (hb : FE X b fb) : FE X (.Compare a [.Gt] [b] pos) (fOp gGt fa fb) := f_cmp op_gt p_gt (nomark _) ha hb
end
noncomputable def eqP : PyData → PyData → Option Bool
  | .int i, .int j => some (decide (i = j))
  | .str i, .str j => some (decide (i = j))
  | .bool i, .bool j => some (decide (i = j))
  | i, j => req (SeqAt.shaped i = true ∧ SeqAt.shaped j = true) (some (PyData.eqv i j))
noncomputable def gEq (a b : PyData) : Option PyData := (eqP a b).map .bool
noncomputable def gNe (a b : PyData) : Option PyData := (eqP a b).map fun z => .bool (!z)
theorem eq_cases {K : PySem.W.Frag} {μ : Mu} {H : Hp} {x y : DV} {v u : V} {a b : PyData} {z : Bool} (m : RM K μ H) (rx : RV K μ H v x) (ry : RV K μ H u y) (ea : look μ x = some a) (eb : look μ y = some b) (ez : eqP a b = some z) :
    (scal v u = true ∧ decide (v = u) = z) ∨ ∃ d e, Dp K H v d ∧ Dp K H u e ∧ SeqAt.shaped d = true ∧ SeqAt.shaped e = true ∧ PyData.eqv d e = z := by
  have d1 := look_da m rx ea
  have d2 := look_da m ry eb
  unfold eqP at ez
  split at ez
  · next i j => cases ez; rw [look_int rx ea, look_int ry eb]; exact .inl ⟨rfl, dec_int2⟩
  · next i j => cases ez; rw [look_str rx ea, look_str ry eb]; exact .inl ⟨rfl, DL.dec_str⟩
  · next i j => cases ez; rw [look_bool rx ea, look_bool ry eb]; exact .inl ⟨rfl, dec_bl2⟩
  · obtain ⟨⟨s1, s2⟩, e⟩ := req_some ez
    cases e
    exact .inr ⟨a, b, d1.dp (SeqAt.canLay_of_shaped s1), d2.dp (SeqAt.canLay_of_shaped s2), s1, s2, rfl⟩
theorem p_eq {K : PySem.W.Frag} : Up2 K (rdP2 gEq) (fun x y H Q => rEq x y H Q ∨ rEqD K x y H Q) := fun x y μ Qd v u H Q m rx ry ⟨a, b, z, ea, eb, ez, q⟩ w => by
  simp only [gEq, Option.map_eq_some_iff] at ez
  obtain ⟨t, et, rfl⟩ := ez
  rcases eq_cases m rx ry ea eb et with ⟨h1, h2⟩ | ⟨d, e, h1, h2, h3, h4, h5⟩
  · exact .inl ⟨h1, by rw [h2]; exact w (.d (.bool t)) μ _ H (.refl _ _) m (Da.bl _) q⟩
  · exact .inr ⟨d, e, h1, h2, h3, h4, by rw [h5]; exact w (.d (.bool t)) μ _ H (.refl _ _) m (Da.bl _) q⟩
theorem p_ne {K : PySem.W.Frag} : Up2 K (rdP2 gNe) (fun x y H Q => rNe x y H Q ∨ rNeD K x y H Q) := fun x y μ Qd v u H Q m rx ry ⟨a, b, z, ea, eb, ez, q⟩ w => by
  simp only [gNe, Option.map_eq_some_iff] at ez
  obtain ⟨t, et, rfl⟩ := ez
  rcases eq_cases m rx ry ea eb et with ⟨h1, h2⟩ | ⟨d, e, h1, h2, h3, h4, h5⟩
  · exact .inl ⟨h1, by rw [h2]; exact w (.d (.bool (!t))) μ _ H (.refl _ _) m (Da.bl _) q⟩
  · exact .inr ⟨d, e, h1, h2, h3, h4, by rw [h5]; exact w (.d (.bool (!t))) μ _ H (.refl _ _) m (Da.bl _) q⟩
section
variable {X : Cx} {pos : Pos} {a b c e : Expr} {fa fb fc fe : FT} {es : List Expr} {fr : FTA}
theorem f_eq (hu : X.A.units + 64 < cLine) (ha : FE X a fa) (hb : FE X b fb) : FE X (.Compare a [.Eq] [b] pos) (fOp gEq fa fb) := f_cmp (op_eq.or (op_eqD hu)) p_eq (nomark _) ha hb
theorem f_ne (hu : X.A.units + 64 < cLine) (ha : FE X a fa) (hb : FE X b fb) : FE X (.Compare a [.NotEq] [b] pos) (fOp gNe fa fb) := f_cmp (op_ne.or (op_neD hu)) p_ne (nomark _) ha hb
def gIsN : PyData → PyData → Option PyData
  | x, .none => some (.bool (isNone x))
  | _, _ => none
def gNotN : PyData → PyData → Option PyData
  | x, .none => some (.bool (!isNone x))
  | _, _ => none
theorem none_v {K : PySem.W.Frag} {H : Hp} {v : V} {a : PyData} (h : Da K H v a) : decide (v = .non) = isNone a := by
  cases h <;> rfl
theorem p_isN {K : PySem.W.Frag} : Up2 K (rdP2 gIsN) (fun x y H Q => y = .non ∧ Q (.bl (decide (x = .non))) H) := fun x y μ Qd v u H Q m rx ry ⟨a, b, z, ea, eb, ez, q⟩ w => by
  unfold gIsN at ez
  split at ez
  · cases ez
    have := look_flat ry eb rfl
    subst this
    cases ry
    exact ⟨rfl, by rw [none_v (look_da m rx ea)]; exact w (.d (.bool _)) μ _ H (.refl _ _) m (Da.bl _) q⟩
  · cases ez
theorem f_isN (ha : FE X a fa) (hb : FE X b fb) : FE X (.Compare a [.Is] [b] pos) (fOp gIsN fa fb) := f_cmp op_isN p_isN (nomark _) ha hb
end
end FL

namespace FL
open PySem PySem.Spec PyProof.Rows L2 DL
section
variable {X : Cx}
/-- list + list, of any lists -/
def rCatLL (K : PySem.W.Frag) : R2 := fun x y H Q => ∃ l b xs zs, x = .ref l ∧ y = .ref b ∧ SqL K H l xs ∧ SqL K H b zs ∧ xs.length + zs.length ≤ sizeLine ∧ ∀ p, H p = none → Q (.ref p) (upd H p (.lst (xs ++ zs)))
theorem op_catLL : OpR X (binaryOp .Add) (rCatLL X.K) := by
  rintro pins s σ H x y v u Q I rx ry ⟨l, b, xs, zs, rfl, rfl, h1, h2, z, q⟩
  cases rx; cases ry
  obtain ⟨i1, r1, ⟨⟨k1, e1, t1, f1⟩, n1, g1, c1, p1, d1⟩, _⟩ := I.list h1
  obtain ⟨i2, r2, ⟨⟨k2, e2, t2, f2⟩, n2, g2, c2, p2, d2⟩, _⟩ := I.list h2
  simp only at c1 p1 d1 c2 p2 d2
  subst c1 p1 d1 c2 p2 d2
  have hl := r1.length
  have hl2 := r2.length
  have ap : i1.toArray ++ i2.toArray = (i1 ++ i2).toArray := by simp
  refine concat_meets ⟨_, g1, rfl⟩ ⟨_, g2, rfl⟩ noFill_list_add seq_list_add PySem.F.slot_list_add PySem.F.entry_list_add (PySem.F.args_list_add_2 _ _)
    (list_addW l b _ _ n1 n2 none none f1 f2 (by rw [List.size_toArray, List.size_toArray]; omega)) ⟨g1, g2, ?_⟩
  rw [ap]
  exact ⟨.ref _, _, I.lnew (t' := s.toks) (r1.append r2) (by rw [List.length_append]; omega), rfl, q _ I.fresh⟩
end
noncomputable def gAdd : PyData → PyData → Option PyData
  | .int i, .int j => some (.int (i + j))
  | .tuple xs, .tuple ys => req (xs.length + ys.length ≤ 900000) (some (.tuple (xs ++ ys)))
  | .list xs, .list ys => req (xs.length + ys.length ≤ 900000) (some (.list (xs ++ ys)))
  | .str i, .str j => req (i.length + j.length ≤ sizeLine) (some (.str (i ++ j)))
  | _, _ => none
theorem le_line9 {n : Nat} (h : n ≤ 900000) : n ≤ sizeLine := Nat.le_trans h (by decide)
theorem p_add {K : PySem.W.Frag} : Up2 K (rdP2 gAdd) (fun x y H Q => rI0 (fun i j => .int (i + j)) x y H Q ∨ rCatP K x y H Q ∨ rCatLL K x y H Q ∨ (∃ i j, x = .str i ∧ y = .str j ∧ i.length + j.length ≤ sizeLine ∧ Q (.str (i ++ j)) H)) := fun x y μ Qd v u H Q m rx ry ⟨a, b, z, ea, eb, ez, q⟩ w => by
  unfold gAdd at ez
  split at ez
  · next i j =>
    cases ez
    exact .inl ⟨i, j, look_int rx ea, look_int ry eb, w (.d (.int (i + j))) μ _ H (.refl _ _) m (Da.int _) q⟩
  · next xs ys =>
    obtain ⟨hz, e⟩ := req_some ez
    cases e
    obtain ⟨rfl, p, vs, rfl, s, t⟩ := look_tup rx ea
    obtain ⟨rfl, p', vs', rfl, s', t'⟩ := look_tup ry eb
    have l1 := t.length
    have l2 := t'.length
    refine .inr (.inl ⟨p, p', vs, vs', rfl, rfl, same_seqT unhid s, same_seqT unhid s', le_line9 (by omega), fun h => ?_, fun _ h => ?_, fun _ _ => wk_tup w m (t.append t') q⟩)
    · subst h
      obtain rfl : xs = [] := by cases t; rfl
      exact w (.d (.tuple ([] ++ ys))) μ _ H (.refl _ _) m (.tup s' t') q
    · subst h
      obtain rfl : ys = [] := by cases t'; rfl
      rw [List.append_nil] at q
      exact w (.d (.tuple xs)) μ _ H (.refl _ _) m (.tup s t) q
  · next xs ys =>
    obtain ⟨hz, e⟩ := req_some ez
    cases e
    obtain ⟨p, vs, rfl, s, t⟩ := look_list m rx ea
    obtain ⟨p', vs', rfl, s', t'⟩ := look_list m ry eb
    have l1 := t.length
    have l2 := t'.length
    exact .inr (.inr (.inl ⟨p, p', vs, vs', rfl, rfl, s, s', le_line9 (by omega), fun r hr => wk_lst w m (t.append t') q hr⟩))
  · next i j =>
    obtain ⟨hz, e⟩ := req_some ez
    cases e
    exact .inr (.inr (.inr ⟨i, j, look_str rx ea, look_str ry eb, hz, w (.d (.str (i ++ j))) μ _ H (.refl _ _) m (Da.str _) q⟩))
  · cases ez
def ofOL (ε : FSt) : Option PyData → R FR
  | some (.list xs) => .ok (.own (.lst xs)) ε
  | _ => .no
def fOpO (g : PyData → PyData → Option PyData) (fa fb : FT) : FT := fun ε => (fa ε).bind fun x ε1 => (fb ε1).bind fun y ε2 => ofOL ε2 ((see ε2 x).bind fun a => (see ε2 y).bind fun b => g a b)
theorem ofOL_list {ε : FSt} {xs : List PyData} : ofOL ε (some (.list xs)) = .ok (.own (.lst xs)) ε := rfl
section
variable {δ : DSt} {μ : Mu} {ε : FSt}
/-- a new cell beside the tracked ones -/
theorem TrE.new {μ1 : Mu} {ε1 : FSt} (t : TrE δ μ ε μ1 ε1) {p : Addr} {c : Cell} (hp : μ1 p = none) : TrE δ μ ε (put μ1 p c) ε1 := by
  have ne : ∀ b d, μ1 b = some d → b ≠ p := fun b d h z => by subst z; rw [hp] at h; cases h
  refine ⟨⟨t.mt.len, t.mt.dat, fun i d h => ?_, t.mt.apart⟩, fun b d h n => ?_, t.kd⟩
  · obtain ⟨q, h1, h2⟩ := t.mt.cel i d h
    exact ⟨q, h1, by rw [put_ne (ne _ _ h2)]; exact h2⟩
  · have := t.fr b d h n
    rw [put_ne (ne _ _ this)]; exact this
theorem TrE.fresh {μ1 : Mu} {ε1 : FSt} (m : Mt δ μ ε) (t : TrE δ μ ε μ1 ε1) {p : Addr} (hp : μ1 p = none) : μ p = none := by
  cases h : μ p with
  | none => rfl
  | some c =>
    by_cases z : Adr δ ε p
    · obtain ⟨d, hd⟩ := t.mt.adr (t.kd.adr.mp z)
      rw [hp] at hd; cases hd
    · have := t.fr p c h z
      rw [hp] at this; cases this
theorem fit_ofOL {Q : DV → Mu → Prop} {μ1 : Mu} {ε1 : FSt} {o : Option PyData} (m : Mt δ μ ε) (t : TrE δ μ ε μ1 ε1) (h : fit (fun r v μ' ε' => RF δ μ ε' μ' r v) δ μ ε Q (ofOL ε1 o)) : ∃ xs, o = some (.list xs) ∧ ∀ p, μ1 p = none → Q (.cell p) (put μ1 p (.lst xs)) := by
  unfold ofOL at h
  split at h
  · next xs => exact ⟨xs, rfl, fun p hp => h _ _ (t.new hp) ⟨p, rfl, put_same, t.fresh m hp⟩⟩
  · exact h.elim
end
section
variable {X : Cx} {pos : Pos} {a b c e : Expr} {fa fb fc fe : FT} {es : List Expr} {fr : FTA}
theorem f_add (ha : FE X a fa) (hb : FE X b fb) : FE X (.BinOp a .Add b pos) (fOp gAdd fa fb) := d_imp (d_op (op_add.or (opP_cat.or (op_catLL.or op_add_str))) p_add ha hb) up_fOp
end
end FL

namespace FL
open PySem PySem.Spec PyProof.Rows L2 DL
def flatD : PyData → Bool
  | .none => true
  | .bool _ => true
  | .int _ => true
  | .str _ => true
  | _ => false
def eqFlat : PyData → PyData → Bool
  | .none, .none => true
  | .bool a, .bool b => a == b
  | .bool a, .int b => (if a then 1 else 0) == b
  | .int a, .bool b => a == (if b then 1 else 0)
  | .int a, .int b => a == b
  | .str a, .str b => a == b
  | _, _ => false
def inD (x : PyData) (xs : List PyData) : Bool := xs.any fun y => eqFlat y x
def itemsOf : PyData → Option (List PyData)
  | .list xs => some xs
  | .tuple xs => some xs
  | _ => none
noncomputable def inG (a b : PyData) : Option Bool := (itemsOf b).bind fun xs => req (flatD a = true ∧ xs.all flatD = true) (some (inD a xs))
noncomputable def gIn (a b : PyData) : Option PyData := (inG a b).map .bool
noncomputable def gNin (a b : PyData) : Option PyData := (inG a b).map fun z => .bool (!z)
section
variable {K : PySem.W.Frag} {μ : Mu} {H : Hp}
theorem flat_da {v : V} {a : PyData} (h : Da K H v a) (f : flatD a = true) : flatV v = true := by
  cases h with
  | lst _ _ => cases f
  | tup _ _ => cases f
  | dct _ _ => cases f
  | _ => rfl
theorem flat_das : ∀ {vs : List V} {xs : List PyData}, DaAll K H vs xs → xs.all flatD = true → vs.all flatV = true
  | _, _, .nil, _ => rfl
  | _, _, .cons h t, f => by
    rw [List.all_cons, Bool.and_eq_true] at f ⊢
    exact ⟨flat_da h f.1, flat_das t f.2⟩
theorem eq_da {v u : V} {a b : PyData} (h : Da K H v a) (g : Da K H u b) (f : flatD a = true) (f' : flatD b = true) : eqV v u = eqFlat a b := by
  cases h with
  | lst _ _ => cases f
  | tup _ _ => cases f
  | dct _ _ => cases f
  | _ =>
    cases g with
    | lst _ _ => cases f'
    | tup _ _ => cases f'
    | dct _ _ => cases f'
    | _ => rfl
theorem in_da {v : V} {a : PyData} (h : Da K H v a) (f : flatD a = true) : ∀ {vs : List V} {xs : List PyData}, DaAll K H vs xs → xs.all flatD = true → inV v vs = inD a xs
  | _, _, .nil, _ => rfl
  | _, _, .cons g t, f' => by
    rw [List.all_cons, Bool.and_eq_true] at f'
    have ih := in_da h f t f'.2
    unfold inV inD at ih ⊢
    rw [List.any_cons, List.any_cons, ih, eq_da g h f'.1 f]
theorem look_items {x : DV} {v : V} {a : PyData} {xs : List PyData} (m : RM K μ H) (r : RV K μ H v x) (h : look μ x = some a) (e : itemsOf a = some xs) : ∃ p vs, v = .ref p ∧ (SqL K H p vs ∨ SqT K H p vs) ∧ DaAll K (hid μ H) vs xs := by
  unfold itemsOf at e
  split at e
  · cases e
    obtain ⟨p, vs, e1, s, t⟩ := look_list m r h
    exact ⟨p, vs, e1, .inl s, t⟩
  · cases e
    obtain ⟨_, p, vs, e1, s, t⟩ := look_tup r h
    exact ⟨p, vs, e1, .inr (same_seqT unhid s), t⟩
  · cases e
theorem in_core {x y : DV} {v u : V} {a b : PyData} {z : Bool} (m : RM K μ H) (rx : RV K μ H v x) (ry : RV K μ H u y) (ea : look μ x = some a) (eb : look μ y = some b) (ez : inG a b = some z) :
    ∃ p xs, u = .ref p ∧ (SqL K H p xs ∨ SqT K H p xs) ∧ flatV v = true ∧ xs.all flatV = true ∧ inV v xs = z := by
  unfold inG at ez
  simp only [Option.bind_eq_some_iff] at ez
  obtain ⟨xs, e1, e2⟩ := ez
  obtain ⟨⟨f1, f2⟩, e3⟩ := req_some e2
  cases e3
  obtain ⟨p, vs, rfl, s, t⟩ := look_items m ry eb e1
  have d1 := look_da m rx ea
  have t2 := t.mono unhid
  exact ⟨p, vs, rfl, s, flat_da d1 f1, flat_das t2 f2, in_da d1 f1 t2 f2⟩
theorem p_in : Up2 K (rdP2 gIn) (rIn K false) := fun x y μ Qd v u H Q m rx ry ⟨a, b, z, ea, eb, ez, q⟩ w => by
  simp only [gIn, Option.map_eq_some_iff] at ez
  obtain ⟨t, et, rfl⟩ := ez
  obtain ⟨p, xs, rfl, s, f1, f2, e⟩ := in_core m rx ry ea eb et
  refine ⟨p, xs, rfl, s, f1, f2, ?_⟩
  rw [if_neg Bool.false_ne_true, e]
  exact w (.d (.bool t)) μ _ H (.refl _ _) m (Da.bl _) q
theorem p_nin : Up2 K (rdP2 gNin) (rIn K true) := fun x y μ Qd v u H Q m rx ry ⟨a, b, z, ea, eb, ez, q⟩ w => by
  simp only [gNin, Option.map_eq_some_iff] at ez
  obtain ⟨t, et, rfl⟩ := ez
  obtain ⟨p, xs, rfl, s, f1, f2, e⟩ := in_core m rx ry ea eb et
  refine ⟨p, xs, rfl, s, f1, f2, ?_⟩
  rw [if_pos rfl, e]
  exact w (.d (.bool (!t))) μ _ H (.refl _ _) m (Da.bl _) q
end
def gIx (a b : PyData) : Option PyData := match b with
  | .int i => (itemsOf a).bind fun xs => atI xs i
  | _ => none
theorem p_ix {K : PySem.W.Frag} : Up2 K (rdP2 gIx) (rIx K) := fun x y μ Qd v u H Q m rx ry ⟨a, b, z, ea, eb, ez, q⟩ w => by
  unfold gIx at ez
  split at ez
  · next i =>
    simp only [Option.bind_eq_some_iff] at ez
    obtain ⟨xs, e1, e2⟩ := ez
    obtain ⟨p, vs, rfl, s, t⟩ := look_items m rx ea e1
    obtain ⟨c, h1, h2⟩ := atI_da t e2
    have q2 := w (.d z) μ _ H (.refl _ _) m h2 q
    rcases s with s | s
    · exact .inl ⟨p, vs, i, c, rfl, look_int ry eb, s, h1, q2⟩
    · exact .inr (.inl ⟨p, vs, i, c, rfl, look_int ry eb, s, h1, q2⟩)
  · cases ez
section
variable {X : Cx} {pos : Pos} {a b c e : Expr} {fa fb fc fe : FT} {es : List Expr} {fr : FTA}
theorem f_in (ha : FE X a fa) (hb : FE X b fb) (hm : behindInMarks .In b = false := by rfl) : FE X (.Compare a [.In] [b] pos) (fOp gIn fa fb) := f_cmp op_in_seq p_in hm ha hb
theorem f_item (ha : FE X a fa) (hb : FE X b fb) (hs : PlainIx b := by exact fun _ _ => rfl) : FE X (.Subscript a b pos) (fOp gIx fa fb) := d_imp (d_ix ix_seq p_ix ha hb hs) up_fOp
abbrev FTP := FSt → R (Option Int)
def fNo : FTP := fun ε => .ok none ε
def fPart (f : FT) : FTP := fun ε => (f ε).bind fun x ε1 => match see ε1 x with
  | some (.int i) => .ok (some i) ε1
  | _ => .no
def upFP (f : FTP) : DTP := fun δ μ Q => ∃ ε, Mt δ μ ε ∧ fit (fun r v _ _ => v = r) δ μ ε Q (f ε)
abbrev FP (X : Cx) (o : Option Expr) (f : FTP) : Prop := DPO X o (upFP f)
theorem dpo_imp {o : Option Expr} {t t' : DTP} (h : DPO X o t) (w : ∀ δ μ Q, t' δ μ Q → t δ μ Q) : DPO X o t' := po_imp h fun σ H Q ⟨δ, μ, Qd, rs, rm, q, z⟩ => ⟨δ, μ, Qd, rs, rm, w _ _ _ q, z⟩
theorem fp_no : FP X none fNo := dpo_imp o_no fun δ μ Q ⟨ε, m, h⟩ => h _ _ (.refl m) rfl
theorem fp_some (h : FE X e fe) : FP X (some e) (fPart fe) := dpo_imp (o_some h) fun δ μ Q ⟨ε, m, h⟩ => use1 m h fun r ε1 v μ1 e t rf h1 => by
  split at h1
  · next i es =>
    have hl := see_look t.mt rf es
    have h2 := h1 _ _ t rfl
    cases v with
    | d y => cases (show y = _ from Option.some.inj hl); exact h2
    | cell p =>
      have hl : (μ1 p).map cellD = some _ := hl
      cases e2 : μ1 p with
      | none => rw [e2] at hl; cases hl
      | some c => rw [e2] at hl; cases c <;> cases hl
  · exact h1.elim
def gCut (l u : Option Int) : PyData → Option PyData
  | .list xs => some (.list (cutD xs l u))
  | .tuple xs => some (.tuple (cutD xs l u))
  | _ => none
def fSl (fe : FT) (fl fh : FTP) : FT := fun ε => (fe ε).bind fun x ε1 => (fl ε1).bind fun l ε2 => (fh ε2).bind fun u ε3 => ofO ε3 ((see ε3 x).bind (gCut l u))
theorem useP {δ : DSt} {μ : Mu} {ε : FSt} {f : FTP} {α β : Type} {g : Option Int → FSt → R α} {P : α → β → Mu → FSt → Prop} {Q : β → Mu → Prop} {Q' : Option Int → Mu → Prop} (m : Mt δ μ ε) (h : fit P δ μ ε Q ((f ε).bind g))
    (k : ∀ r ε1 μ1, f ε = .ok r ε1 → TrE δ μ ε μ1 ε1 → fit P δ μ ε Q (g r ε1) → Q' r μ1) : upFP f δ μ Q' := by
  refine ⟨ε, m, ?_⟩
  cases e : f ε with
  | no => rw [e] at h; exact h.elim
  | ex _ _ => rw [e] at h; exact h.elim
  | ok r ε1 =>
    rw [e] at h
    exact fun v μ1 t p => by subst p; exact k v ε1 μ1 e t h
theorem up_fSl {fl fh : FTP} : ∀ δ μ Q, upF (fSl fe fl fh) δ μ Q → dSl (upF fe) (upFP fl) (upFP fh) δ μ Q := fun δ μ Q ⟨ε, m, h⟩ =>
  use1 m h fun r ε1 v μ1 e t rf h1 => useP (P := fun r v μ' ε' => RF δ μ ε' μ' r v) t.mt (fit_step t h1 fun _ _ _ _ _ p => p) fun l ε2 μ2 e2 t2 h2 => useP (P := fun r v μ' ε' => RF δ μ ε' μ' r v) t2.mt (fit_step t2 h2 fun _ _ _ _ _ p => p) fun u ε3 μ3 e3 t3 h3 => by
    have rfk := RF.keep t m (t2.trans t3) rf
    have h4 : fit (fun r v μ' ε' => RF δ μ ε' μ' r v) δ μ2 ε2 Q (ofO ε3 ((see ε3 r).bind (gCut l u))) := h3
    cases ho : (see ε3 r).bind (gCut l u) with
    | none => rw [ho] at h4; exact h4.elim
    | some z =>
      rw [ho] at h4
      have q := h4 (.d z) μ3 t3 rfl
      simp only [Option.bind_eq_some_iff] at ho
      obtain ⟨a, e4, e5⟩ := ho
      have hl := see_look t3.mt rfk e4
      unfold gCut at e5
      split at e5
      · next xs =>
        cases e5
        cases v with
        | d y => cases (show y = _ from Option.some.inj hl); exact q
        | cell p =>
          have hl : (μ3 p).map cellD = some _ := hl
          cases e6 : μ3 p with
          | none => rw [e6] at hl; cases hl
          | some c =>
            rw [e6] at hl
            cases c with
            | dct _ => cases hl
            | lst ds => cases hl; simp only [e6]; exact q
      · next xs =>
        cases e5
        cases v with
        | d y => cases (show y = _ from Option.some.inj hl); exact q
        | cell p =>
          have hl : (μ3 p).map cellD = some _ := hl
          cases e6 : μ3 p with
          | none => rw [e6] at hl; cases hl
          | some c => rw [e6] at hl; cases c <;> cases hl
      · cases e5
theorem f_slice {lo hi : Option Expr} {fl fh : FTP} {p2 : Pos} (he : FE X e fe) (hl : FP X lo fl) (hu : FP X hi fh) : FE X (.Subscript e (.Slice lo hi none p2) pos) (fSl fe fl fh) := d_imp (d_slice he hl hu) up_fSl
def gRev : PyData → Option PyData
  | .list xs => some (.list xs.reverse)
  | .tuple xs => some (.tuple xs.reverse)
  | _ => none
def seeV : FR → Option PyData
  | .val x => some x
  | _ => none
/-- of data alone -/
def fUnV (g : PyData → Option PyData) (fa : FT) : FT := fun ε => (fa ε).bind fun x ε1 => ofO ε1 ((seeV x).bind g)
end
end FL

namespace FL
open PySem PySem.Spec PyProof.Rows L2 DL
noncomputable def gT : PyData → Option Bool
  | .none => some false
  | .bool b => some b
  | .int i => some (i != 0)
  | .str y => req (y.length ≤ sizeLine) (some ((y.length : Int) != 0))
  | .list xs => some (!xs.isEmpty)
  | .tuple xs => some (!xs.isEmpty)
  | .dict _ => none
theorem truth_da {K : PySem.W.Frag} {H : Hp} {v : V} {a : PyData} {k : Bool} (h : Da K H v a) (e : gT a = some k) : TruV K v H k := by
  cases h with
  | non => cases e; rfl
  | bl b => cases e; rfl
  | int i => cases e; rfl
  | str x => obtain ⟨h1, e⟩ := req_some e; cases e; exact ⟨h1, rfl⟩
  | lst s t => cases e; exact .inl ⟨_, s, emp_da t⟩
  | tup s t => cases e; exact .inr (.inl ⟨_, s.t, emp_da t⟩)
  | dct s t => cases e
section
variable {X : Cx} {pos : Pos} {a b c e : Expr} {fa fb fc fe : FT} {es rest : List Expr} {fr : FTA} {ta tb : DT} {tA tB : FTT}
def dTrP (te : DT) : DTT := fun δ μ Q => te δ μ fun x μ1 => ∃ a k, look μ1 x = some a ∧ gT a = some k ∧ Q k μ1
theorem c_trP (ha : DE X a ta) (he : ∀ whole, isTrue a X.env whole = (do let v ← whole; standAt a.pos; holding [v] (truthy v)) := by intro _; rfl) : DC X a (dTrP ta) := pt_imp (pt_truth ha he) fun σ H Q ⟨δ, μ, Qd, rs, rm, q, w⟩ => up_use rs rm q fun x μ1 v H1 e1 m1 r1 ⟨a, k, ea, ek, q1⟩ =>
  ⟨k, truth_da (look_da m1 r1 ea) ek, w _ μ1 H1 e1 m1 q1⟩
def dAndT (ta tb : DT) : DT := fun δ μ Q => ta δ μ fun x μ1 => ∃ a k, look μ1 x = some a ∧ gT a = some k ∧ if k = true then tb δ μ1 Q else Q x μ1
def dNotT (ta : DT) : DT := fun δ μ Q => ta δ μ fun x μ1 => ∃ a k, look μ1 x = some a ∧ gT a = some k ∧ Q (.d (.bool (!k))) μ1
theorem d_andT (ha : DE X a ta) (hb : DE X (.BoolOp .And (b :: rest) pos) tb) : DE X (.BoolOp .And (a :: b :: rest) pos) (dAndT ta tb) := pe_imp (pe_andT ha hb) fun σ H Q ⟨δ, μ, Qd, rs, rm, q, w⟩ => up_use rs rm q fun x μ1 v H1 e1 m1 r1 ⟨a, k, ea, ek, q1⟩ => by
  refine ⟨k, truth_da (look_da m1 r1 ea) ek, ?_⟩
  split
  · next hk => rw [if_pos hk] at q1; exact ⟨δ, μ1, Qd, rs.mono e1, m1, q1, w.step e1⟩
  · next hk => rw [if_neg hk] at q1; exact w x μ1 v H1 e1 m1 r1 q1
theorem d_notT (ha : DE X a ta) : DE X (.UnaryOp .Not a pos) (dNotT ta) := pe_imp (pe_notT ha) fun σ H Q ⟨δ, μ, Qd, rs, rm, q, w⟩ => up_use rs rm q fun x μ1 v H1 e1 m1 r1 ⟨a, k, ea, ek, q1⟩ =>
  ⟨k, truth_da (look_da m1 r1 ea) ek, w (.d (.bool (!k))) μ1 _ H1 e1 m1 (Da.bl _) q1⟩
def ofB (ε : FSt) : Option Bool → R Bool
  | some z => .ok z ε
  | none => .no
theorem ofB_some {ε : FSt} {z : Bool} : ofB ε (some z) = .ok z ε := rfl
noncomputable def fTr (fe : FT) : FTT := fun ε => (fe ε).bind fun x ε1 => ofB ε1 ((see ε1 x).bind gT)
theorem up_fTr : ∀ δ μ Q, upFT (fTr fe) δ μ Q → dTrP (upF fe) δ μ Q := fun δ μ Q ⟨ε, m, h⟩ => use1 m h fun r ε1 v μ1 e t rf h1 => by
  cases ho : (see ε1 r).bind gT with
  | none => rw [ho] at h1; exact h1.elim
  | some k =>
    rw [ho] at h1
    simp only [Option.bind_eq_some_iff] at ho
    obtain ⟨a, e1, e2⟩ := ho
    exact ⟨a, k, see_look t.mt rf e1, e2, h1 k μ1 t rfl⟩
theorem fc_tr (ha : FE X a fa) (he : ∀ whole, isTrue a X.env whole = (do let v ← whole; standAt a.pos; holding [v] (truthy v)) := by intro _; rfl) : FC X a (fTr fa) := c_imp (c_trP ha he) up_fTr
/-- a comparison as a test -/
def fB (fe : FT) : FTT := fun ε => (fe ε).bind fun x ε1 => match x with
  | .val (.bool b) => .ok b ε1
  | _ => .no
theorem fB_fit {δ : DSt} {μ : Mu} {ε : FSt} {Q : Bool → Mu → Prop} (h : fit (fun r v _ _ => v = r) δ μ ε Q (fB fe ε)) : fit (fun r v μ' ε' => RF δ μ ε' μ' r v) δ μ ε (fun v μ' => match v with | .d (.bool b) => Q b μ' | _ => False) (fe ε) := by
  unfold fB at h
  cases e : fe ε with
  | no => rw [e] at h; exact h
  | ex _ _ => rw [e] at h; exact h
  | ok r ε1 =>
    rw [e, R.bind_ok] at h
    split at h
    · next k => exact fun v μ' t p => by cases (show v = _ from p); exact h k μ' t rfl
    · exact h.elim
theorem fc_cmp {op : CmpOp} {g : PyData → PyData → Option PyData} {rv : R2} (ho : OpR X (compareOp op) rv) (h : Up2 X.K (rdP2 g) rv) (hm : behindInMarks op b = false) (ha : FE X a fa) (hb : FE X b fb) : FC X (.Compare a [op] [b] pos) (fB (fOp g fa fb)) :=
  c_imp (c_cmp ho h ha hb hm) fun δ μ Q h => by
    obtain ⟨ε, m, h⟩ := h
    exact up_fOp δ μ _ ⟨ε, m, fB_fit h⟩
theorem fc_lt (ha : FE X a fa) (hb : FE X b fb) : FC X (.Compare a [.Lt] [b] pos) (fB (fOp gLt fa fb)) := fc_cmp op_lt p_lt (nomark _) ha hb
theorem fc_gt (ha : FE X a fa) (hb : FE X b fb) : FC X (.Compare a [.Gt] [b] pos) (fB (fOp gGt fa fb)) := fc_cmp op_gt p_gt (nomark _) ha hb
theorem fc_ge (ha : FE X a fa) (hb : FE X b fb) : FC X (.Compare a [.GtE] [b] pos) (fB (fOp gGe fa fb)) := fc_cmp op_ge p_ge (nomark _) ha hb
theorem fc_eq (hu : X.A.units + 64 < cLine) (ha : FE X a fa) (hb : FE X b fb) : FC X (.Compare a [.Eq] [b] pos) (fB (fOp gEq fa fb)) := fc_cmp (op_eq.or (op_eqD hu)) p_eq (nomark _) ha hb
theorem fc_ne (hu : X.A.units + 64 < cLine) (ha : FE X a fa) (hb : FE X b fb) : FC X (.Compare a [.NotEq] [b] pos) (fB (fOp gNe fa fb)) := fc_cmp (op_ne.or (op_neD hu)) p_ne (nomark _) ha hb
theorem fc_isN (ha : FE X a fa) (hb : FE X b fb) : FC X (.Compare a [.Is] [b] pos) (fB (fOp gIsN fa fb)) := fc_cmp op_isN p_isN (nomark _) ha hb
theorem fc_nin (ha : FE X a fa) (hb : FE X b fb) (hm : behindInMarks .NotIn b = false := by rfl) : FC X (.Compare a [.NotIn] [b] pos) (fB (fOp gNin fa fb)) := fc_cmp op_notIn_seq p_nin hm ha hb
def ftAnd (f g : FTT) : FTT := fun ε => (f ε).bind fun b ε1 => if b = true then g ε1 else .ok false ε1
def ftOr (f g : FTT) : FTT := fun ε => (f ε).bind fun b ε1 => if b = true then .ok true ε1 else g ε1
def ftNot (f : FTT) : FTT := fun ε => (f ε).bind fun b ε1 => .ok (!b) ε1
theorem upFT_next {δ : DSt} {μ : Mu} {ε : FSt} {μ1 : Mu} {ε1 : FSt} {f : FTT} {Q : Bool → Mu → Prop} (t : TrE δ μ ε μ1 ε1) (h : fit (fun r v _ _ => v = r) δ μ ε Q (f ε1)) : upFT f δ μ1 Q := ⟨ε1, t.mt, fit_step t h fun _ _ _ _ _ p => p⟩
theorem upF_next {δ : DSt} {μ : Mu} {ε : FSt} {μ1 : Mu} {ε1 : FSt} {f : FT} {Q : DV → Mu → Prop} (m : Mt δ μ ε) (t : TrE δ μ ε μ1 ε1) (h : fit (fun r v μ' ε' => RF δ μ ε' μ' r v) δ μ ε Q (f ε1)) : upF f δ μ1 Q := ⟨ε1, t.mt, fit_step t h fun _ _ _ _ t' p => RF.back m t t' p⟩
theorem up_ftAnd : ∀ δ μ Q, upFT (ftAnd tA tB) δ μ Q → dAnd (upFT tA) (upFT tB) δ μ Q := fun δ μ Q ⟨ε, m, h⟩ => useT m h fun b ε1 μ1 e t h1 => by
  cases b with
  | true => exact upFT_next t h1
  | false => exact h1 false μ1 t rfl
theorem up_ftOr : ∀ δ μ Q, upFT (ftOr tA tB) δ μ Q → dOr (upFT tA) (upFT tB) δ μ Q := fun δ μ Q ⟨ε, m, h⟩ => useT m h fun b ε1 μ1 e t h1 => by
  cases b with
  | true => exact h1 true μ1 t rfl
  | false => exact upFT_next t h1
theorem fcw_and1 (ha : FC X a tA) : FCW X (.BoolOp .And [a] pos) tA := cw_and1 ha
theorem fcw_or1 (ha : FC X a tA) : FCW X (.BoolOp .Or [a] pos) tA := cw_or1 ha
theorem fcw_and (ha : FC X a tA) (hb : FCW X (.BoolOp .And (b :: rest) pos) tB) : FCW X (.BoolOp .And (a :: b :: rest) pos) (ftAnd tA tB) := cw_imp (cw_and ha hb) up_ftAnd
theorem fcw_or (ha : FC X a tA) (hb : FCW X (.BoolOp .Or (b :: rest) pos) tB) : FCW X (.BoolOp .Or (a :: b :: rest) pos) (ftOr tA tB) := cw_imp (cw_or ha hb) up_ftOr
theorem fc_w (h : FCW X e tA) : FC X e tA := c_w h
theorem fc_not (ha : FC X a tA) : FC X (.UnaryOp .Not a pos) (ftNot tA) := c_imp (c_not ha) fun δ μ Q ⟨ε, m, h⟩ => useT m h fun b ε1 μ1 e t h1 => h1 (!b) μ1 t rfl
noncomputable def fOrV (fa fb : FT) : FT := fun ε => (fa ε).bind fun x ε1 => match (see ε1 x).bind gT with
  | some true => .ok x ε1
  | some false => fb ε1
  | none => .no
noncomputable def fAndV (fa fb : FT) : FT := fun ε => (fa ε).bind fun x ε1 => match (see ε1 x).bind gT with
  | some true => fb ε1
  | some false => .ok x ε1
  | none => .no
noncomputable def fNotV (fa : FT) : FT := fun ε => (fa ε).bind fun x ε1 => match (see ε1 x).bind gT with
  | some k => .ok (.val (.bool (!k))) ε1
  | none => .no
theorem f_one {op} (h : FE X a fa) : FE X (.BoolOp op [a] pos) fa := d_one h
theorem f_and (ha : FE X a fa) (hb : FE X (.BoolOp .And (b :: rest) pos) fb) : FE X (.BoolOp .And (a :: b :: rest) pos) (fAndV fa fb) := d_imp (d_andT ha hb) fun δ μ Q ⟨ε, m, h⟩ => use1 m h fun r ε1 v μ1 e t rf h1 => by
  split at h1
  · next ho =>
    simp only [Option.bind_eq_some_iff] at ho
    obtain ⟨a, e1, e2⟩ := ho
    exact ⟨a, true, see_look t.mt rf e1, e2, by rw [if_pos rfl]; exact upF_next m t h1⟩
  · next ho =>
    simp only [Option.bind_eq_some_iff] at ho
    obtain ⟨a, e1, e2⟩ := ho
    exact ⟨a, false, see_look t.mt rf e1, e2, by rw [if_neg Bool.false_ne_true]; exact h1 v μ1 t rf⟩
  · exact h1.elim
theorem f_not (ha : FE X a fa) : FE X (.UnaryOp .Not a pos) (fNotV fa) := d_imp (d_notT ha) fun δ μ Q ⟨ε, m, h⟩ => use1 m h fun r ε1 v μ1 e t rf h1 => by
  split at h1
  · next k ho =>
    simp only [Option.bind_eq_some_iff] at ho
    obtain ⟨a, e1, e2⟩ := ho
    exact ⟨a, k, see_look t.mt rf e1, e2, h1 _ μ1 t rfl⟩
  · exact h1.elim
def fIf (tA : FTT) (fa fb : FT) : FT := fun ε => (tA ε).bind fun b ε1 => if b = true then fa ε1 else fb ε1
theorem f_if (hc : FC X c tA) (ha : FE X a fa) (hb : FE X b fb) : FE X (.IfExp c a b pos) (fIf tA fa fb) := d_imp (d_if hc ha hb) fun δ μ Q ⟨ε, m, h⟩ => useT m h fun b ε1 μ1 e t h1 => by
  cases b with
  | true => exact upF_next m t h1
  | false => exact upF_next m t h1
def fChain (g g' : PyData → PyData → Option PyData) (fa fb fc : FT) : FT := fun ε => (fa ε).bind fun x ε1 => (fb ε1).bind fun y ε2 => match (see ε2 x).bind fun a => (see ε2 y).bind fun b => g a b with
  | some (.bool true) => (fc ε2).bind fun w ε3 => ofO ε3 ((see ε3 y).bind fun a => (see ε3 w).bind fun b => g' a b)
  | some (.bool false) => .ok (.val (.bool false)) ε2
  | _ => .no
theorem up_fChain {g g' : PyData → PyData → Option PyData} : ∀ δ μ Q, upF (fChain g g' fa fb fc) δ μ Q → dChain (rdP2 g) (rdP2 g') (upF fa) (upF fb) (upF fc) δ μ Q := fun δ μ Q ⟨ε, m, h⟩ =>
  use1 m h fun r ε1 v μ1 e t rf h1 => use1 (P := fun r v μ' ε' => RF δ μ ε' μ' r v) t.mt (fit_step t h1 fun _ _ _ _ _ p => p) fun r2 ε2 v2 μ2 e2 t2 rf2 h2 => by
    have rfk := RF.keep t m t2 rf
    have rf2' := RF.back m t t2 rf2
    have h3 := h2
    split at h3
    · next ho =>
      simp only [Option.bind_eq_some_iff] at ho
      obtain ⟨a, e4, b, e5, e6⟩ := ho
      refine ⟨a, b, .bool true, see_look t2.mt rfk e4, see_look t2.mt rf2' e5, e6, ?_⟩
      refine use1 (P := fun r v μ' ε' => RF δ μ ε' μ' r v) t2.mt (fit_step t2 h3 fun _ _ _ _ _ p => p) fun r3 ε3 v3 μ3 e7 t3 rf3 h5 => ?_
      have rfy := RF.keep (t.trans t2) m t3 rf2'
      have h6 : fit (fun r v μ' ε' => RF δ μ ε' μ' r v) δ μ2 ε2 Q (ofO ε3 ((see ε3 r2).bind fun a => (see ε3 r3).bind fun b => g' a b)) := h5
      cases ho : ((see ε3 r2).bind fun a => (see ε3 r3).bind fun b => g' a b) with
      | none => rw [ho] at h6; exact h6.elim
      | some z =>
        rw [ho] at h6
        simp only [Option.bind_eq_some_iff] at ho
        obtain ⟨a', e8, b', e9, e10⟩ := ho
        exact ⟨a', b', z, see_look t3.mt rfy e8, see_look t3.mt (RF.back t2.mt (TrE.refl t2.mt) t3 rf3) e9, e10, h6 _ _ t3 rfl⟩
    · next ho =>
      simp only [Option.bind_eq_some_iff] at ho
      obtain ⟨a, e4, b, e5, e6⟩ := ho
      exact ⟨a, b, .bool false, see_look t2.mt rfk e4, see_look t2.mt rf2' e5, e6, h3 _ _ t2 rfl⟩
    · exact h3.elim
end
section
variable {X : Cx} {pos : Pos} {a b c e : Expr} {fa fb fc fe : FT}
theorem f_chain {op op' : CmpOp} {g g' : PyData → PyData → Option PyData} {rv rv' : R2} (ho : OpR X (compareOp op) rv) (h : Up2 X.K (rdP2 g) rv) (ho' : OpR X (compareOp op') rv') (h' : Up2 X.K (rdP2 g') rv') (ha : FE X a fa) (hb : FE X b fb) (hc : FE X c fc) (hm : lastMarks [op, op'] [b, c] = false := by with_unfolding_all rfl) :
    FE X (.Compare a [op, op'] [b, c] pos) (fChain g g' fa fb fc) := d_imp (d_chain ho h ho' h' ha hb hc hm) up_fChain
theorem fc_chain {op op' : CmpOp} {g g' : PyData → PyData → Option PyData} {rv rv' : R2} (ho : OpR X (compareOp op) rv) (h : Up2 X.K (rdP2 g) rv) (ho' : OpR X (compareOp op') rv') (h' : Up2 X.K (rdP2 g') rv') (ha : FE X a fa) (hb : FE X b fb) (hc : FE X c fc) (hm : lastMarks [op, op'] [b, c] = false := by with_unfolding_all rfl) :
    FC X (.Compare a [op, op'] [b, c] pos) (fB (fChain g g' fa fb fc)) := c_imp (c_chain ho h ho' h' ha hb hc hm) fun δ μ Q h => by
    obtain ⟨ε, m, h⟩ := h
    exact up_fChain δ μ _ ⟨ε, m, fB_fit h⟩
end
end FL

namespace FL
open PySem PySem.Spec PyProof.Rows L2 DL
def vals : List FR → Option (List PyData)
  | [] => some []
  | .val x :: r => (vals r).map (x :: ·)
  | _ :: _ => none
theorem vals_allD {δ : DSt} {μ0 μ : Mu} {ε : FSt} : ∀ {rs : List FR} {vs : List DV} {xs : List PyData}, PySem.Paired (fun r v => RF δ μ0 ε μ r v) rs vs → vals rs = some xs → allD vs = some xs
  | [], _, _, .nil, e => e
  | .val x :: rs, _, _, .cons h t, e => by
    simp only [vals, Option.map_eq_some_iff] at e
    obtain ⟨ys, e1, rfl⟩ := e
    cases (show _ = DV.d x from h)
    simp [allD, vals_allD t e1]
  | .ref _ :: _, _, _, .cons _ _, e => by cases e
  | .own _ :: _, _, _, .cons _ _, e => by cases e
noncomputable def fTup (fr : FTA) : FT := fun ε => (fr ε).bind fun rs ε1 => ofO ε1 ((vals rs).bind fun xs => req (xs.length ≤ 1000) (some (.tuple xs)))
noncomputable def fLst (fr : FTA) : FT := fun ε => (fr ε).bind fun rs ε1 => ofO ε1 ((vals rs).bind fun xs => req (xs.length ≤ 1000) (some (.list xs)))
noncomputable def fLstO (fr : FTA) : FT := fun ε => (fr ε).bind fun rs ε1 => ofOL ε1 ((vals rs).bind fun xs => req (xs.length ≤ 1000) (some (.list xs)))
def fDictO : FT := fun ε => .ok (.own (.dct [])) ε
section
variable {X : Cx} {pos : Pos} {a b c e : Expr} {fa fb fc fe : FT} {es rest : List Expr} {fr : FTA}
theorem f_tup {x1} (h : FA X es fr) : FE X (.Tuple es x1 pos) (fTup fr) := d_imp (d_tup h) fun δ μ Q ⟨ε, m, h⟩ => useA m h fun rs ε1 vs μ1 e t rf h1 => by
  obtain ⟨z, ez, q⟩ := fit_ofO t h1
  simp only [Option.bind_eq_some_iff] at ez
  obtain ⟨xs, e1, e2⟩ := ez
  obtain ⟨h2, e3⟩ := req_some e2
  cases e3
  rw [vals_allD rf e1]
  exact ⟨h2, q⟩
theorem f_lst (h : FA X es fr) : FE X (.List es pos) (fLst fr) := d_imp (d_lst h) fun δ μ Q ⟨ε, m, h⟩ => useA m h fun rs ε1 vs μ1 e t rf h1 => by
  obtain ⟨z, ez, q⟩ := fit_ofO t h1
  simp only [Option.bind_eq_some_iff] at ez
  obtain ⟨xs, e1, e2⟩ := ez
  obtain ⟨h2, e3⟩ := req_some e2
  cases e3
  rw [vals_allD rf e1]
  exact ⟨h2, q⟩
theorem f_lstO (h : FA X es fr) : FE X (.List es pos) (fLstO fr) := d_imp (d_lstC h) fun δ μ Q ⟨ε, m, h⟩ => useA m h fun rs ε1 vs μ1 e t rf h1 => by
  obtain ⟨z, ez, q⟩ := fit_ofOL m t h1
  simp only [Option.bind_eq_some_iff] at ez
  obtain ⟨xs, e1, e2⟩ := ez
  obtain ⟨h2, e3⟩ := req_some e2
  cases e3
  rw [vals_allD rf e1]
  exact ⟨h2, q⟩
theorem f_dict0 : FE X (.Dict [] [] pos) (fC (.dict [])) := d_imp d_dict0 fun δ μ Q ⟨ε, m, h⟩ => h _ _ (.refl m) rfl
theorem f_int {i j} : FE X (.Constant (.int i) j pos) (fC (.int i)) := f_const d_int
theorem f_bl {i j} : FE X (.Constant (.bool i) j pos) (fC (.bool i)) := f_const d_bl
theorem f_non {j} : FE X (.Constant .none j pos) (fC .none) := f_const d_non
theorem f_str {x j} : FE X (.Constant (.str x) j pos) (fC (.str x)) := f_const d_str
theorem f_num {x : Str} {p : Pos} {n : Int} (D : KNum X.mg x n) (hg : Gl X x) (hdb : (x == ("__debug__" : Str)) = false := by decide) : FE X (.Name x p) (fC (.int n)) := f_const (d_num D hg hdb)
end
def gLen : List PyData → Option PyData
  | [a] => (itemsOf a).map fun xs => .int xs.length
  | _ => none
theorem looks1 {μ : Mu} {ds : List DV} {a : PyData} (h : looks μ ds = some [a]) : ∃ x, ds = [x] ∧ look μ x = some a := by
  match ds with
  | [] => simp [looks] at h
  | [x] =>
    simp only [looks, Option.bind_eq_some_iff, Option.map_eq_some_iff] at h
    obtain ⟨b, e, xs, e2, e3⟩ := h
    cases e2
    cases e3
    exact ⟨x, rfl, e⟩
  | x :: y :: r =>
    simp only [looks, Option.bind_eq_some_iff, Option.map_eq_some_iff] at h
    obtain ⟨b, e, xs, ⟨c, e2, ys, e3, rfl⟩, e4⟩ := h
    cases e4
theorem looks2 {μ : Mu} {ds : List DV} {a b : PyData} (h : looks μ ds = some [a, b]) : ∃ x y, ds = [x, y] ∧ look μ x = some a ∧ look μ y = some b := by
  match ds with
  | [] => simp [looks] at h
  | x :: r =>
    simp only [looks, Option.bind_eq_some_iff, Option.map_eq_some_iff] at h
    obtain ⟨c, e, xs, e2, e3⟩ := h
    cases e3
    obtain ⟨y, rfl, e4⟩ := looks1 e2
    exact ⟨x, y, rfl, e, e4⟩
/-- a built-in function of one value -/
theorem upA_1 {K : PySem.W.Frag} {g : List PyData → Option PyData} {rv : List V → Hp → VK → Prop} (hg : ∀ as z, g as = some z → ∃ a, as = [a])
    (h : ∀ (x : DV) (a z : PyData) (v : V) (μ : Mu) (Qd : DK) (H : Hp) (Q : VK), RM K μ H → RV K μ H v x → look μ x = some a → g [a] = some z → Qd (.d z) μ → Wk K μ H Qd Q → rv [v] H Q) : UpA K (rdPA g) rv := fun ds μ Qd vs H Q m r ⟨as, z, ea, ez, q⟩ w => by
  obtain ⟨a, rfl⟩ := hg _ _ ez
  obtain ⟨x, rfl, e⟩ := looks1 ea
  cases r with
  | cons r t => cases t; exact h x a z _ μ Qd H Q m r e ez q w
theorem p_len {K : PySem.W.Frag} : UpA K (rdPA gLen) (fun xs H Q => ∃ p ys, xs = [.ref p] ∧ (SqL K H p ys ∨ SqT K H p ys) ∧ Q (.int ys.length) H) := upA_1 (fun as z h => by unfold gLen at h; split at h <;> simp at h; exact ⟨_, rfl⟩) fun x a z v μ Qd H Q m r e ez q w => by
  simp only [gLen, Option.map_eq_some_iff] at ez
  obtain ⟨xs, e1, rfl⟩ := ez
  obtain ⟨p, vs, rfl, s, t⟩ := look_items m r e e1
  exact ⟨p, vs, rfl, s, by rw [t.length]; exact w (.d (.int _)) μ _ H (.refl _ _) m (Da.int _) q⟩
def gTuple : List PyData → Option PyData
  | [a] => (itemsOf a).map .tuple
  | _ => none
theorem p_tuple {K : PySem.W.Frag} : UpA K (rdPA gTuple) (fun xs H Q => ∃ p ys, xs = [.ref p] ∧ ((SqL K H p ys ∧ NewT H ys Q) ∨ (SqT K H p ys ∧ Q (.ref p) H))) := upA_1 (fun as z h => by unfold gTuple at h; split at h <;> simp at h; exact ⟨_, rfl⟩) fun x a z v μ Qd H Q m r e ez q w => by
  simp only [gTuple, Option.map_eq_some_iff] at ez
  obtain ⟨xs, e1, rfl⟩ := ez
  unfold itemsOf at e1
  split at e1
  · cases e1
    obtain ⟨p, vs, rfl, s, t⟩ := look_list m r e
    exact ⟨p, vs, rfl, .inl ⟨s, wk_tup w m t q⟩⟩
  · cases e1
    obtain ⟨rfl, p, vs, rfl, s, t⟩ := look_tup r e
    exact ⟨p, vs, rfl, .inr ⟨same_seqT unhid s, w (.d (.tuple xs)) μ _ H (.refl _ _) m (.tup s t) q⟩⟩
  · cases e1
def gList : List PyData → Option PyData
  | [a] => (itemsOf a).map .list
  | _ => none
theorem p_list {K : PySem.W.Frag} : UpA K (rdPA gList) (fun xs H Q => ∃ p ys, xs = [.ref p] ∧ (SqL K H p ys ∨ SqT K H p ys) ∧ ∀ l, H l = none → Q (.ref l) (upd H l (.lst ys))) := upA_1 (fun as z h => by unfold gList at h; split at h <;> simp at h; exact ⟨_, rfl⟩) fun x a z v μ Qd H Q m r e ez q w => by
  simp only [gList, Option.map_eq_some_iff] at ez
  obtain ⟨xs, e1, rfl⟩ := ez
  obtain ⟨p, vs, rfl, s, t⟩ := look_items m r e e1
  exact ⟨p, vs, rfl, s, fun l hl => wk_lst w m t q hl⟩
def gSum : List PyData → Option PyData
  | [.list xs] => (intsOf xs).map fun ns => .int ns.sum
  | _ => none
theorem p_sum {K : PySem.W.Frag} : UpA K (rdPA gSum) (rSum K) := upA_1 (fun as z h => by unfold gSum at h; split at h <;> simp at h; exact ⟨_, rfl⟩) fun x a z v μ Qd H Q m r e ez q w => by
  unfold gSum at ez
  split at ez
  · next xs ea =>
    cases ea
    simp only [Option.map_eq_some_iff] at ez
    obtain ⟨ns, e1, rfl⟩ := ez
    have e2 := intsOf_some e1
    subst e2
    obtain ⟨p, vs, rfl, s, t⟩ := look_list m r e
    have e3 := t.ints_inv
    subst e3
    exact ⟨p, ns, rfl, s, w (.d (.int _)) μ _ H (.refl _ _) m (Da.int _) q⟩
  · cases ez
def gAll : List PyData → Option PyData
  | [.list xs] => (boolsOf xs).map fun bs => .bool (bs.all id)
  | _ => none
theorem p_all {K : PySem.W.Frag} : UpA K (rdPA gAll) (rAll K) := upA_1 (fun as z h => by unfold gAll at h; split at h <;> simp at h; exact ⟨_, rfl⟩) fun x a z v μ Qd H Q m r e ez q w => by
  unfold gAll at ez
  split at ez
  · next xs ea =>
    cases ea
    simp only [Option.map_eq_some_iff] at ez
    obtain ⟨ns, e1, rfl⟩ := ez
    have e2 := boolsOf_some e1
    subst e2
    obtain ⟨p, vs, rfl, s, t⟩ := look_list m r e
    have e3 := bools_inv t
    subst e3
    exact ⟨p, ns, rfl, s, w (.d (.bool _)) μ _ H (.refl _ _) m (Da.bl _) q⟩
  · cases ez
def gAbs : List PyData → Option PyData
  | [.int i] => some (.int (if i < 0 then -i else i))
  | _ => none
def gInt : List PyData → Option PyData
  | [.int i] => some (.int i)
  | [.bool k] => some (.int (if k then 1 else 0))
  | _ => none
theorem p_int {K : PySem.W.Frag} : UpA K (rdPA gInt) (fun xs H Q => (∃ i, xs = [.int i] ∧ Q (.int i) H) ∨ ∃ k, xs = [.bl k] ∧ Q (.int (if k then 1 else 0)) H) := upA_1 (fun as z h => by unfold gInt at h; split at h <;> simp at h <;> exact ⟨_, rfl⟩) fun x a z v μ Qd H Q m r e ez q w => by
  unfold gInt at ez
  split at ez
  · next i ea => cases ea; cases ez; exact .inl ⟨i, by rw [look_int r e], w (.d (.int _)) μ _ H (.refl _ _) m (Da.int _) q⟩
  · next i ea => cases ea; cases ez; exact .inr ⟨i, by rw [look_bool r e], w (.d (.int _)) μ _ H (.refl _ _) m (Da.int _) q⟩
  · cases ez
noncomputable def gStr : List PyData → Option PyData
  | [.int i] => req (i.natAbs.log2 < 1920) (some (.str (toString i)))
  | _ => none
theorem p_str {K : PySem.W.Frag} : UpA K (rdPA gStr) (fun xs H Q => ∃ i, xs = [.int i] ∧ i.natAbs.log2 < 1920 ∧ Q (.str (toString i)) H) := upA_1 (fun as z h => by unfold gStr at h; split at h <;> simp at h; exact ⟨_, rfl⟩) fun x a z v μ Qd H Q m r e ez q w => by
  unfold gStr at ez
  split at ez
  · next i ea =>
    cases ea
    obtain ⟨h1, e3⟩ := req_some ez
    cases e3
    exact ⟨i, by rw [look_int r e], h1, w (.d (.str _)) μ _ H (.refl _ _) m (Da.str _) q⟩
  · cases ez
noncomputable def gRepr : List PyData → Option PyData
  | [d] => req (Show d) (some (.str d.shown))
  | _ => none
theorem p_repr {K : PySem.W.Frag} : UpA K (rdPA gRepr) (rRepr K) := upA_1 (fun as z h => match as, h with | [a], _ => ⟨a, rfl⟩) fun x a z v μ Qd H Q m r e ez q w => by
  simp only [gRepr] at ez
  obtain ⟨h1, e3⟩ := req_some ez
  cases e3
  exact ⟨_, a, rfl, look_da m r e, h1, w (.d (.str _)) μ _ H (.refl _ _) m (Da.str _) q⟩
def gMax2 : List PyData → Option PyData
  | [.int i, .int j] => some (.int (if j > i then j else i))
  | _ => none
def gMin2 : List PyData → Option PyData
  | [.int i, .int j] => some (.int (if j < i then j else i))
  | _ => none
theorem p_max2 {K : PySem.W.Frag} : UpA K (rdPA gMax2) (fun xs H Q => ∃ i j, xs = [.int i, .int j] ∧ Q (.int (if j > i then j else i)) H) := fun ds μ Qd vs H Q m r ⟨as, z, ea, ez, q⟩ w => by
  unfold gMax2 at ez
  split at ez
  · next i j =>
    cases ez
    obtain ⟨x, y, rfl, e1, e2⟩ := looks2 ea
    cases r with
    | cons r t => cases t with
      | cons r2 t => cases t; exact ⟨i, j, by rw [look_int r e1, look_int r2 e2], w (.d (.int _)) μ _ H (.refl _ _) m (Da.int _) q⟩
  · cases ez
theorem p_min2 {K : PySem.W.Frag} : UpA K (rdPA gMin2) (fun xs H Q => ∃ i j, xs = [.int i, .int j] ∧ Q (.int (if j < i then j else i)) H) := fun ds μ Qd vs H Q m r ⟨as, z, ea, ez, q⟩ w => by
  unfold gMin2 at ez
  split at ez
  · next i j =>
    cases ez
    obtain ⟨x, y, rfl, e1, e2⟩ := looks2 ea
    cases r with
    | cons r t => cases t with
      | cons r2 t => cases t; exact ⟨i, j, by rw [look_int r e1, look_int r2 e2], w (.d (.int _)) μ _ H (.refl _ _) m (Da.int _) q⟩
  · cases ez
section
variable {X : Cx} {pos p : Pos} {x : Str} {id T : String} {a b c e : Expr} {fa fb fc fe : FT} {es rest : List Expr} {fr : FTA}
theorem f_callB {g : List PyData → Option PyData} {rv : List V → Hp → VK → Prop} (hc : CallR X (.builtin id) rv) (h : UpA X.K (rdPA g) rv) (hg : Gl X x) (hm : X.mg x = none) (hv : bootBuiltins x = some (.builtin id)) (ha : FA X (e :: es) fr) (hn : x ≠ "__name__" := by decide) (hdb : (x == ("__debug__" : Str)) = false := by decide)
    (he : starEach (e :: es) X.env = (false, eval e X.env) :: starEach es X.env := by rfl) (hpl : (backTo pos (starEach es X.env)).any (·.1) = false := by rfl) : FE X (.Call (.Name x p) (e :: es) [] pos) (fFn g fr) := d_imp (d_callB hc h hg hm hv ha hn hdb he hpl) up_fFn
theorem f_callTy {g : List PyData → Option PyData} {rv : List V → Hp → VK → Prop} (hc : CallR X (.type T) rv) (h : UpA X.K (rdPA g) rv) (hg : Gl X x) (hm : X.mg x = none) (hv : bootBuiltins x = some (.type T)) (ha : FA X (e :: es) fr) (hn : x ≠ "__name__" := by decide) (hdb : (x == ("__debug__" : Str)) = false := by decide)
    (he : starEach (e :: es) X.env = (false, eval e X.env) :: starEach es X.env := by rfl) (hpl : (backTo pos (starEach es X.env)).any (·.1) = false := by rfl) : FE X (.Call (.Name x p) (e :: es) [] pos) (fFn g fr) := d_imp (d_callTy hc h hg hm hv ha hn hdb he hpl) up_fFn
end
end FL

namespace FL
open PySem PySem.Spec PyProof.Rows L2 DL
inductive Flow where
  | nx
  | rt (r : FR)
  | bk
  | ct
abbrev FS := FSt → R Flow
def OwnA (δ : DSt) (ε : FSt) (p : Addr) : Prop := ∃ (i : Nat) (c : Cell), ε[i]? = some (some (FV.c c)) ∧ δ[i]? = some (some (.cell p))
theorem OwnA.adr {δ : DSt} {ε : FSt} {p : Addr} (h : OwnA δ ε p) : Adr δ ε p := let ⟨i, c, a, b⟩ := h; ⟨i, isC_of (getC_c a), b⟩
/-- what a statement may do -/
structure Tr (δ : DSt) (μ : Mu) (ε : FSt) (δ' : DSt) (μ' : Mu) (ε' : FSt) : Prop where
  mt : Mt δ' μ' ε'
  fr : ∀ b c, μ b = some c → ¬ Adr δ ε b → μ' b = some c
  bo : ∀ (i : Nat) (c : Cell), ε[i]? = some (some (.b c)) → (∃ c', ε'[i]? = some (some (.b c'))) ∧ δ'[i]? = δ[i]?
  bn : ∀ (i : Nat) (c : Cell), ε'[i]? = some (some (.b c)) → ∃ c', ε[i]? = some (some (.b c'))
  nw : ∀ b, OwnA δ' ε' b → OwnA δ ε b ∨ μ b = none
  ln : ε'.length = ε.length
theorem adr_cases {δ : DSt} {ε : FSt} {p : Addr} (h : Adr δ ε p) : OwnA δ ε p ∨ ∃ (i : Nat) (c : Cell), ε[i]? = some (some (FV.b c)) ∧ δ[i]? = some (some (.cell p)) := by
  obtain ⟨i, hi, hp⟩ := h
  obtain ⟨c, hc⟩ := isC_some hi
  rcases getC_some hc with h | h
  · exact .inl ⟨i, c, h, hp⟩
  · exact .inr ⟨i, c, h, hp⟩
theorem Tr.adr {δ δ' : DSt} {μ μ' : Mu} {ε ε' : FSt} (t : Tr δ μ ε δ' μ' ε') {p : Addr} (h : Adr δ' ε' p) : Adr δ ε p ∨ μ p = none := by
  rcases adr_cases h with h | ⟨i, c, h1, h2⟩
  · rcases t.nw p h with h | h
    · exact .inl h.adr
    · exact .inr h
  · obtain ⟨c', h3⟩ := t.bn i c h1
    have := (t.bo i c' h3).2
    exact .inl ⟨i, isC_of (getC_b h3), by rw [← this]; exact h2⟩
theorem Tr.refl {δ : DSt} {μ : Mu} {ε : FSt} (m : Mt δ μ ε) : Tr δ μ ε δ μ ε := ⟨m, fun _ _ h _ => h, fun i c h => ⟨⟨c, h⟩, rfl⟩, fun i c h => ⟨c, h⟩, fun b h => .inl h, rfl⟩
theorem Tr.trans {δ δ1 δ2 : DSt} {μ μ1 μ2 : Mu} {ε ε1 ε2 : FSt} (m : Mt δ μ ε) (a : Tr δ μ ε δ1 μ1 ε1) (b : Tr δ1 μ1 ε1 δ2 μ2 ε2) : Tr δ μ ε δ2 μ2 ε2 := by
  refine ⟨b.mt, fun p c h n => b.fr p c (a.fr p c h n) fun z => ?_, fun i c h => ?_, fun i c h => ?_, fun p h => ?_, b.ln.trans a.ln⟩
  · rcases a.adr z with z | z
    · exact n z
    · rw [h] at z; cases z
  · obtain ⟨⟨c1, h1⟩, e1⟩ := a.bo i c h
    obtain ⟨h2, e2⟩ := b.bo i c1 h1
    exact ⟨h2, e2.trans e1⟩
  · obtain ⟨c1, h1⟩ := b.bn i c h
    exact a.bn i c1 h1
  · rcases b.nw p h with h | h
    · exact a.nw p h
    · cases e : μ p with
      | none => exact .inr rfl
      | some c =>
        by_cases z : Adr δ ε p
        · rcases adr_cases z with z | ⟨i, c2, h1, h2⟩
          · exact .inl z
          · obtain ⟨⟨c3, h3⟩, e3⟩ := a.bo i c2 h1
            obtain ⟨q, h4, h5⟩ := a.mt.cel i c3 (getC_b h3)
            rw [e3, h2] at h4
            cases h4
            rw [h] at h5; cases h5
        · have := a.fr p c e z
          rw [h] at this; cases this
theorem Kd.own {ε ε' : FSt} (k : Kd ε ε') {δ : DSt} {p : Addr} (h : OwnA δ ε' p) : OwnA δ ε p := by
  obtain ⟨i, c, h1, h2⟩ := h
  cases e : ε[i]? with
  | none =>
    have : ε'[i]? = none := List.getElem?_eq_none (by rw [k.len]; exact List.getElem?_eq_none_iff.mp e)
    rw [this] at h1; cases h1
  | some v =>
    obtain ⟨v', e', s⟩ := k.at' i v e
    rw [h1] at e'
    cases e'
    cases v with
    | none => cases (show _ = _ from s)
    | some f => cases f with
      | d x => cases (show _ = _ from s)
      | c x => exact ⟨i, x, e, h2⟩
      | b x => obtain ⟨y, s⟩ := s; cases s
theorem Kd.bb {ε ε' : FSt} (k : Kd ε ε') {i : Nat} : (∃ c, ε[i]? = some (some (FV.b c))) ↔ ∃ c, ε'[i]? = some (some (FV.b c)) := by
  constructor
  · rintro ⟨c, h⟩
    obtain ⟨v', e', y, s⟩ := k.at' i _ h
    exact ⟨y, by rw [e', s]⟩
  · rintro ⟨c, h1⟩
    cases e : ε[i]? with
    | none =>
      have : ε'[i]? = none := List.getElem?_eq_none (by rw [k.len]; exact List.getElem?_eq_none_iff.mp e)
      rw [this] at h1; cases h1
    | some v =>
      obtain ⟨v', e', s⟩ := k.at' i v e
      rw [h1] at e'
      cases e'
      cases v with
      | none => cases (show _ = _ from s)
      | some f => cases f with
        | d x => cases (show _ = _ from s)
        | c x => obtain ⟨y, s⟩ := s; cases s
        | b x => exact ⟨x, rfl⟩
theorem TrE.tr {δ : DSt} {μ μ' : Mu} {ε ε' : FSt} (t : TrE δ μ ε μ' ε') : Tr δ μ ε δ μ' ε' :=
  ⟨t.mt, t.fr, fun i c h => ⟨t.kd.bb.mp ⟨c, h⟩, rfl⟩, fun i c h => t.kd.bb.mpr ⟨c, h⟩, fun b h => .inl (t.kd.own h), t.kd.len⟩
/-- a result behind statements -/
def RS' (δ : DSt) (μ : Mu) (ε : FSt) (δ' : DSt) (μ' : Mu) (ε' : FSt) : FR → DV → Prop
  | .val x, v => v = .d x
  | .ref i, v => isC ε' i ∧ ∃ p, v = .cell p ∧ δ'[i]? = some (some (.cell p))
  | .own c, v => ∃ p, v = .cell p ∧ μ' p = some c ∧ (μ p = none ∨ OwnA δ ε p)
theorem RF.rs {δ : DSt} {μ μ' : Mu} {ε ε' : FSt} : ∀ {r : FR} {v : DV}, RF δ μ ε' μ' r v → RS' δ μ ε δ μ' ε' r v
  | .val _, _, h => h
  | .ref _, _, h => h
  | .own _, _, ⟨p, a, b, c⟩ => ⟨p, a, b, .inl c⟩
theorem RS'.back {δ δ1 δ2 : DSt} {μ μ1 μ2 : Mu} {ε ε1 ε2 : FSt} (m : Mt δ μ ε) (t : Tr δ μ ε δ1 μ1 ε1) : ∀ {r : FR} {v : DV}, RS' δ1 μ1 ε1 δ2 μ2 ε2 r v → RS' δ μ ε δ2 μ2 ε2 r v
  | .val _, _, h => h
  | .ref _, _, h => h
  | .own _, _, ⟨p, a, b, c⟩ => ⟨p, a, b, by
      rcases c with c | c
      · cases e : μ p with
        | none => exact .inl rfl
        | some c0 =>
          by_cases z : Adr δ ε p
          · rcases adr_cases z with z | ⟨i, c2, h1, h2⟩
            · exact .inr z
            · obtain ⟨⟨c3, h3⟩, e3⟩ := t.bo i c2 h1
              obtain ⟨q, h4, h5⟩ := t.mt.cel i c3 (getC_b h3)
              rw [e3, h2] at h4
              cases h4
              rw [c] at h5; cases h5
          · have := t.fr p c0 e z
            rw [c] at this; cases this
      · rcases t.nw p c with c | c
        · exact .inr c
        · exact .inl c⟩
def fitS (D : DEnds) (δ : DSt) (μ : Mu) (ε : FSt) : R Flow → Prop
  | .ok .nx ε' => ∀ δ' μ', Tr δ μ ε δ' μ' ε' → D.nx δ' μ'
  | .ok .bk ε' => ∀ δ' μ', Tr δ μ ε δ' μ' ε' → D.bk δ' μ'
  | .ok .ct ε' => ∀ δ' μ', Tr δ μ ε δ' μ' ε' → D.ct δ' μ'
  | .ok (.rt r) ε' => ∀ δ' μ' v, Tr δ μ ε δ' μ' ε' → RS' δ μ ε δ' μ' ε' r v → D.rt v μ'
  | _ => False
def upFS (f : FS) : DTS := fun D δ μ => ∃ ε, Mt δ μ ε ∧ fitS D δ μ ε (f ε)
abbrev FSt1 (X : Cx) (st : Stmt) (f : FS) : Prop := DS X st (upFS f)
abbrev FSts (X : Cx) (st : List Stmt) (f : FS) : Prop := DSs X st (upFS f)
theorem fitS_step {D : DEnds} {δ δ1 : DSt} {μ μ1 : Mu} {ε ε1 : FSt} (m : Mt δ μ ε) (t : Tr δ μ ε δ1 μ1 ε1) {r : R Flow} (h : fitS D δ μ ε r) : fitS D δ1 μ1 ε1 r := by
  cases r with
  | no => exact h
  | ex _ _ => exact h
  | ok fl ε' => cases fl with
    | nx => exact fun δ' μ' t' => h δ' μ' (t.trans m t')
    | bk => exact fun δ' μ' t' => h δ' μ' (t.trans m t')
    | ct => exact fun δ' μ' t' => h δ' μ' (t.trans m t')
    | rt r => exact fun δ' μ' v t' rr => h δ' μ' v (t.trans m t') (RS'.back m t rr)
theorem upFS_next {D : DEnds} {δ δ1 : DSt} {μ μ1 : Mu} {ε ε1 : FSt} {f : FS} (m : Mt δ μ ε) (t : Tr δ μ ε δ1 μ1 ε1) (h : fitS D δ μ ε (f ε1)) : upFS f D δ1 μ1 := ⟨ε1, t.mt, fitS_step m t h⟩
def fsNext : FS := fun ε => .ok .nx ε
def fsBrk : FS := fun ε => .ok .bk ε
def fsCnt : FS := fun ε => .ok .ct ε
def fsSeq (f g : FS) : FS := fun ε => (f ε).bind fun fl ε1 => match fl with
  | .nx => g ε1
  | fl => .ok fl ε1
def fsRet (fe : FT) : FS := fun ε => (fe ε).bind fun r ε1 => .ok (.rt r) ε1
def fsDrop (fe : FT) : FS := fun ε => (fe ε).bind fun _ ε1 => .ok .nx ε1
def fsIf (t : FTT) (f g : FS) : FS := fun ε => (t ε).bind fun b ε1 => if b = true then f ε1 else g ε1
section
variable {X : Cx} {pos : Pos} {st : Stmt} {rest : List Stmt} {f g : FS} {e : Expr} {fe : FT} {tC : FTT}
theorem useSE {δ : DSt} {μ : Mu} {ε : FSt} {D : DEnds} {k : FR → FSt → R Flow} {Q' : DV → Mu → Prop} (m : Mt δ μ ε) (h : fitS D δ μ ε ((fe ε).bind k))
    (w : ∀ r ε1 v μ1, TrE δ μ ε μ1 ε1 → RF δ μ ε1 μ1 r v → fitS D δ μ ε (k r ε1) → Q' v μ1) : upF fe δ μ Q' := by
  refine ⟨ε, m, ?_⟩
  cases e : fe ε with
  | no => rw [e] at h; exact h.elim
  | ex _ _ => rw [e] at h; exact h.elim
  | ok r ε1 => rw [e] at h; exact fun v μ1 t p => w r ε1 v μ1 t p h
theorem useST {δ : DSt} {μ : Mu} {ε : FSt} {D : DEnds} {k : Bool → FSt → R Flow} {Q' : Bool → Mu → Prop} (m : Mt δ μ ε) (h : fitS D δ μ ε ((tC ε).bind k))
    (w : ∀ r ε1 μ1, TrE δ μ ε μ1 ε1 → fitS D δ μ ε (k r ε1) → Q' r μ1) : upFT tC δ μ Q' := by
  refine ⟨ε, m, ?_⟩
  cases e : tC ε with
  | no => rw [e] at h; exact h.elim
  | ex _ _ => rw [e] at h; exact h.elim
  | ok r ε1 => rw [e] at h; exact fun v μ1 t p => by subst p; exact w v ε1 μ1 t h
theorem fs_nil : FSts X [] fsNext := ss_imp s_nil fun D δ μ ⟨ε, m, h⟩ => h δ μ (.refl m)
theorem fs_one (h1 : FSt1 X st f) : FSts X [st] f := s_one h1
theorem fs_cons (h1 : FSt1 X st f) (h2 : FSts X rest g) : FSts X (st :: rest) (fsSeq f g) := ss_imp (s_cons h1 h2) fun D δ μ ⟨ε, m, h⟩ => by
  refine ⟨ε, m, ?_⟩
  unfold fsSeq at h
  cases e : f ε with
  | no => rw [e] at h; exact h.elim
  | ex _ _ => rw [e] at h; exact h.elim
  | ok fl ε1 =>
    rw [e] at h
    cases fl with
    | nx => exact fun δ' μ' t => upFS_next m t h
    | bk => exact h
    | ct => exact h
    | rt r => exact h
theorem fs_ret (he : FE X e fe) : FSt1 X (.Return (some e) pos) (fsRet fe) := s_imp (s_ret he) fun D δ μ ⟨ε, m, h⟩ => useSE m h fun r ε1 v μ1 t p h1 => h1 δ μ1 v t.tr p.rs
theorem fs_expr (he : FE X e fe) (hs : swapsWith e none pos.line X.env = pure false := by rfl) : FSt1 X (.Expr e pos) (fsDrop fe) := s_imp (s_expr he hs) fun D δ μ ⟨ε, m, h⟩ => useSE m h fun r ε1 v μ1 t p h1 => h1 δ μ1 t.tr
theorem fs_if {as bs : List Stmt} (hc : FC X e tC) (ha : FSts X as f) (hb : FSts X bs g) : FSt1 X (.If e as bs pos) (fsIf tC f g) := s_imp (s_if hc ha hb) fun D δ μ ⟨ε, m, h⟩ => useST m h fun b ε1 μ1 t h1 => by
  cases b with
  | true => exact upFS_next m t.tr h1
  | false => exact upFS_next m t.tr h1
end
end FL

namespace FL
open PySem PySem.Spec PyProof.Rows L2 DL
theorem getC_ne {ε : FSt} {i j : Nat} {x : Option FV} (h : i ≠ j) : getC (ε.set i x) j = getC ε j := by
  unfold getC; rw [List.getElem?_set_ne h]
theorem get_set {α : Type} {l : List α} {i : Nat} {x y : α} (h : (l.set i x)[i]? = some y) : y = x ∧ i < l.length := by
  by_cases hi : i < l.length
  · rw [List.getElem?_set_self hi] at h
    exact ⟨(Option.some.inj h).symm, hi⟩
  · rw [List.getElem?_eq_none (by simpa using hi)] at h; cases h
theorem getC_same {ε : FSt} {i : Nat} {x : Option FV} {c : Cell} (h : getC (ε.set i x) i = some c) : (x = some (.c c) ∨ x = some (.b c)) ∧ i < ε.length := by
  rcases getC_some h with h | h
  · obtain ⟨a, b⟩ := get_set h; exact ⟨.inl a.symm, b⟩
  · obtain ⟨a, b⟩ := get_set h; exact ⟨.inr a.symm, b⟩
/-- a result as a slot's value -/
def frV : FR → Option FV
  | .val x => some (.d x)
  | .own c => some (.c c)
  | .ref _ => none
def isBb (ε : FSt) (i : Nat) : Bool := match ε[i]? with
  | some (some (.b _)) => true
  | _ => false
theorem isBb_false {ε : FSt} {i : Nat} (h : isBb ε i = false) {c : Cell} (e : ε[i]? = some (some (.b c))) : False := by
  unfold isBb at h; rw [e] at h; cases h
section
variable {δ : DSt} {μ μ1 : Mu} {ε ε1 : FSt}
theorem TrE.setS (m : Mt δ μ ε) (t : TrE δ μ ε μ1 ε1) {i : Nat} {r : FR} {v : DV} {x : FV} (rf : RF δ μ ε1 μ1 r v) (hb : isBb ε1 i = false) (hx : frV r = some x) : Tr δ μ ε (δ.set i (some v)) μ1 (ε1.set i (some x)) := by
  have hl := t.mt.len
  have own : ∀ c, x = .c c → ∃ p, v = .cell p ∧ μ1 p = some c ∧ μ p = none := fun c e => by
    cases r with
    | val y => simp [frV] at hx; rw [← hx] at e; cases e
    | ref y => simp [frV] at hx
    | own c' => simp [frV] at hx; rw [← hx] at e; cases e; exact rf
  have nob : ∀ c, x ≠ .b c := fun c e => by
    cases r with
    | val y => simp [frV] at hx; rw [← hx] at e; cases e
    | ref y => simp [frV] at hx
    | own c' => simp [frV] at hx; rw [← hx] at e; cases e
  have dat : ∀ y, x = .d y → v = .d y := fun y e => by
    cases r with
    | val z => simp [frV] at hx; rw [← hx] at e; cases e; exact rf
    | ref y => simp [frV] at hx
    | own c' => simp [frV] at hx; rw [← hx] at e; cases e
  have adr : ∀ j p, isC ε1 j → δ[j]? = some (some (.cell p)) → μ p ≠ none := fun j p h1 h2 e => by
    obtain ⟨c, hc⟩ := m.adr (t.kd.adr.mpr ⟨j, h1, h2⟩)
    rw [e] at hc; cases hc
  refine ⟨⟨by simp [hl], fun j y h => ?_, fun j c h => ?_, fun j k p hj hk h1 h2 => ?_⟩, t.fr, fun j c h => ?_, fun j c h => ?_, fun p h => ?_, by simp [t.kd.len]⟩
  · by_cases e : i = j
    · subst e
      obtain ⟨a, b⟩ := get_set h
      rw [List.getElem?_set_self (by omega), dat y (Option.some.inj a).symm]
    · rw [List.getElem?_set_ne e] at h ⊢
      exact t.mt.dat j y h
  · by_cases e : i = j
    · subst e
      obtain ⟨a, b⟩ := getC_same h
      rcases a with a | a
      · obtain ⟨p, h1, h2, _⟩ := own c (Option.some.inj a)
        exact ⟨p, by rw [List.getElem?_set_self (by omega), h1], h2⟩
      · exact (nob c (Option.some.inj a)).elim
    · rw [getC_ne e] at h
      rw [List.getElem?_set_ne e]
      exact t.mt.cel j c h
  · by_cases e : i = j
    · subst e
      by_cases e2 : i = k
      · exact e2
      · obtain ⟨c, hc⟩ := isC_some hj
        obtain ⟨a, b⟩ := getC_same hc
        rcases a with a | a
        · obtain ⟨q, g1, g2, g3⟩ := own c (Option.some.inj a)
          rw [List.getElem?_set_self (by omega), g1] at h1
          cases h1
          rw [List.getElem?_set_ne e2] at h2
          unfold isC at hk
          rw [getC_ne e2] at hk
          exact (adr k p hk h2 g3).elim
        · exact (nob c (Option.some.inj a)).elim
    · by_cases e2 : i = k
      · subst e2
        obtain ⟨c, hc⟩ := isC_some hk
        obtain ⟨a, b⟩ := getC_same hc
        rcases a with a | a
        · obtain ⟨q, g1, g2, g3⟩ := own c (Option.some.inj a)
          rw [List.getElem?_set_self (by omega), g1] at h2
          cases h2
          rw [List.getElem?_set_ne e] at h1
          unfold isC at hj
          rw [getC_ne e] at hj
          exact (adr j p hj h1 g3).elim
        · exact (nob c (Option.some.inj a)).elim
      · unfold isC at hj hk
        rw [getC_ne e] at hj
        rw [getC_ne e2] at hk
        rw [List.getElem?_set_ne e] at h1
        rw [List.getElem?_set_ne e2] at h2
        exact t.mt.apart j k p hj hk h1 h2
  · obtain ⟨c1, h1⟩ := t.kd.bb.mp ⟨c, h⟩
    have e : i ≠ j := fun e => by subst e; exact isBb_false hb h1
    rw [List.getElem?_set_ne e, List.getElem?_set_ne e]
    exact ⟨⟨c1, h1⟩, rfl⟩
  · by_cases e : i = j
    · subst e
      obtain ⟨a, b⟩ := get_set h
      exact (nob c (Option.some.inj a).symm).elim
    · rw [List.getElem?_set_ne e] at h
      exact t.kd.bb.mpr ⟨c, h⟩
  · obtain ⟨j, c, h1, h2⟩ := h
    by_cases e : i = j
    · subst e
      obtain ⟨a, b⟩ := get_set h1
      obtain ⟨q, g1, g2, g3⟩ := own c (Option.some.inj a).symm
      rw [List.getElem?_set_self (by omega), g1] at h2
      cases h2
      exact .inr g3
    · rw [List.getElem?_set_ne e] at h1 h2
      exact .inl (t.kd.own ⟨j, c, h1, h2⟩)
theorem Tr.setD (m : Mt δ μ ε) {i : Nat} {x : PyData} (hb : isBb ε i = false) : Tr δ μ ε (δ.set i (some (.d x))) μ (ε.set i (some (.d x))) := TrE.setS m (.refl m) (r := .val x) (show RF δ μ ε μ (.val x) (.d x) from rfl) hb rfl
/-- a container's slot becomes data -/
theorem Tr.frz (m : Mt δ μ ε) {i : Nat} {p : Addr} {c : Cell} (hc : ε[i]? = some (some (.c c))) (hp : δ[i]? = some (some (.cell p))) : Tr δ μ ε (δ.set i (some (.d (cellD c)))) (del μ p) (ε.set i (some (.d (cellD c)))) := by
  have hl := m.len
  have ici : isC ε i := isC_of (getC_c hc)
  refine ⟨⟨by simp [hl], fun j y h => ?_, fun j c h => ?_, fun j k q hj hk h1 h2 => ?_⟩, fun b d h n => ?_, fun j c h => ?_, fun j c h => ?_, fun q h => ?_, by simp⟩
  · by_cases e : i = j
    · subst e
      obtain ⟨a, b⟩ := get_set h
      cases a
      rw [List.getElem?_set_self (by omega)]
    · rw [List.getElem?_set_ne e] at h ⊢
      exact m.dat j y h
  · by_cases e : i = j
    · subst e
      obtain ⟨a, b⟩ := getC_same h
      rcases a with a | a <;> cases a
    · rw [getC_ne e] at h
      rw [List.getElem?_set_ne e]
      obtain ⟨q, h1, h2⟩ := m.cel j c h
      refine ⟨q, h1, ?_⟩
      rw [del_ne (fun z => e (by subst z; exact m.apart i j q ici (isC_of h) hp h1)), h2]
  · by_cases e : i = j
    · subst e
      obtain ⟨c, hc⟩ := isC_some hj
      obtain ⟨a, b⟩ := getC_same hc
      rcases a with a | a <;> cases a
    · by_cases e2 : i = k
      · subst e2
        obtain ⟨c, hc⟩ := isC_some hk
        obtain ⟨a, b⟩ := getC_same hc
        rcases a with a | a <;> cases a
      · unfold isC at hj hk
        rw [getC_ne e] at hj
        rw [getC_ne e2] at hk
        rw [List.getElem?_set_ne e] at h1
        rw [List.getElem?_set_ne e2] at h2
        exact m.apart j k q hj hk h1 h2
  · rw [del_ne (fun z => n (by subst z; exact ⟨i, ici, hp⟩)), h]
  · have e : i ≠ j := fun e => by subst e; rw [hc] at h; cases h
    rw [List.getElem?_set_ne e, List.getElem?_set_ne e]
    exact ⟨⟨c, h⟩, rfl⟩
  · by_cases e : i = j
    · subst e
      obtain ⟨a, b⟩ := get_set h
      cases a
    · rw [List.getElem?_set_ne e] at h
      exact ⟨c, h⟩
  · obtain ⟨j, c, h1, h2⟩ := h
    by_cases e : i = j
    · subst e
      obtain ⟨a, b⟩ := get_set h1
      cases a
    · rw [List.getElem?_set_ne e] at h1 h2
      exact .inl ⟨j, c, h1, h2⟩
/-- a container's slot gets another content -/
theorem TrE.write (t : TrE δ μ ε μ1 ε1) {i : Nat} {p : Addr} {c c' : Cell} (hc : getC ε1 i = some c) (hp : δ[i]? = some (some (.cell p))) : TrE δ μ ε (put μ1 p c') (setC ε1 i c') := by
  have hl := t.mt.len
  have ici : isC ε1 i := isC_of hc
  have hgi : getC (setC ε1 i c') i = some c' := by
    rcases getC_some hc with h | h
    · unfold setC; rw [h]
      exact getC_c (List.getElem?_set_self (List.getElem?_eq_some_iff.mp h).1)
    · unfold setC; rw [h]
      exact getC_b (List.getElem?_set_self (List.getElem?_eq_some_iff.mp h).1)
  have hgj : ∀ j, i ≠ j → (setC ε1 i c')[j]? = ε1[j]? := fun j e => by
    unfold setC; split <;> first | rfl | rw [List.getElem?_set_ne e]
  have hgc : ∀ j, i ≠ j → getC (setC ε1 i c') j = getC ε1 j := fun j e => by unfold getC; rw [hgj j e]
  have hln : (setC ε1 i c').length = ε1.length := by unfold setC; split <;> simp
  have kd : Kd ε1 (setC ε1 i c') := ⟨hln, fun j v h => by
    by_cases e : i = j
    · subst e
      rcases getC_some hc with h2 | h2
      · rw [h2] at h; cases h
        exact ⟨some (.c c'), by unfold setC; rw [h2]; exact List.getElem?_set_self (List.getElem?_eq_some_iff.mp h2).1, c', rfl⟩
      · rw [h2] at h; cases h
        exact ⟨some (.b c'), by unfold setC; rw [h2]; exact List.getElem?_set_self (List.getElem?_eq_some_iff.mp h2).1, c', rfl⟩
    · exact ⟨v, by rw [hgj j e]; exact h, same1_refl v⟩⟩
  refine ⟨⟨by rw [hln]; exact hl, fun j y h => ?_, fun j d h => ?_, fun j k q hj hk h1 h2 => t.mt.apart j k q (kd.isC.mpr hj) (kd.isC.mpr hk) h1 h2⟩, fun b d h n => ?_, t.kd.trans kd⟩
  · by_cases e : i = j
    · subst e
      rcases getC_some hgi with g | g <;> (rw [g] at h; cases h)
    · rw [hgj j e] at h
      exact t.mt.dat j y h
  · by_cases e : i = j
    · subst e
      rw [hgi] at h; cases h
      exact ⟨p, hp, put_same⟩
    · rw [hgc j e] at h
      obtain ⟨q, h1, h2⟩ := t.mt.cel j d h
      exact ⟨q, h1, by rw [put_ne (fun z => e (by subst z; exact t.mt.apart i j q ici (isC_of h) hp h1)), h2]⟩
  · rw [put_ne (fun z => n (by subst z; exact t.kd.adr.mpr ⟨i, ici, hp⟩))]
    exact t.fr b d h n
end
def setR (i : Nat) (r : FR) (ε : FSt) : R Flow := match isBb ε i, frV r with
  | false, some x => .ok .nx (ε.set i (some x))
  | _, _ => .no
def fsAsg (i : Nat) (fe : FT) : FS := fun ε => (fe ε).bind (setR i)
theorem setR_fit {δ : DSt} {μ μ1 : Mu} {ε ε1 : FSt} {D : DEnds} {i : Nat} {r : FR} {v : DV} (m : Mt δ μ ε) (t : TrE δ μ ε μ1 ε1) (rf : RF δ μ ε1 μ1 r v) (h : fitS D δ μ ε (setR i r ε1)) : D.nx (δ.set i (some v)) μ1 := by
  unfold setR at h
  split at h
  · next x h1 h2 => exact h _ _ (t.setS m rf h1 h2)
  · exact h.elim
section
variable {X : Cx} {pos : Pos} {st : Stmt} {e : Expr} {fe : FT}
theorem fs_asg {i : Nat} {x : Str} {pos' : Pos} (hN : X.N.Nodup) (hi : X.N[i]? = some x) (hx : Loc X.env.scope x) (he : FE X e fe) (hs : swapsWith e (some (.Name x pos')) pos.line X.env = pure false := by rfl) (hf : X.fn x = true ∨ X.env.scope.names.lookup x = some .local := by first | exact .inl rfl | exact .inr rfl | assumption) :
    FSt1 X (.Assign [.Name x pos'] e pos) (fsAsg i fe) := s_imp (s_set hN hi hx he hs hf) fun D δ μ ⟨ε, m, h⟩ => useSE m h fun r ε1 v μ1 t p h1 => setR_fit m t p h1
def fsFrz (i : Nat) : FS := fun ε => match ε[i]? with
  | some (some (.c c)) => .ok .nx (ε.set i (some (.d (cellD c))))
  | some (some (.d _)) => .ok .nx ε
  | _ => .no
theorem freeze_dct {K : PySem.W.Frag} {μ : Mu} {H : Hp} (m : RM K μ H) {p : Addr} {kvs : List (Key × PyData)} (h : μ p = some (.dct kvs)) : Da K (hid (del μ p) H) (.ref p) (cellD (.dct kvs)) := by
  obtain ⟨ks, h1, h2, h3⟩ := m p _ h
  have := Da.dct (K := K) (H := hid (del μ p) H) (a := p) (kvs := ks) (.inl (by rw [hid_of del_same]; exact h1)) (h3.mono ext_freeze)
  have e : ((ks.map fun q => kD q.1).zip (kvs.map (·.2))) = kvs.map fun p => (kD p.1, p.2) := by
    have : (ks.map fun p => kD p.1) = kvs.map fun p => kD p.1 := by
      have := congrArg (List.map kD) h2
      simpa [List.map_map, Function.comp_def] using this
    rw [this, List.zip_map']
  rw [e] at this
  exact this
theorem freeze_cell {K : PySem.W.Frag} {μ : Mu} {H : Hp} (m : RM K μ H) {p : Addr} {c : Cell} (h : μ p = some c) : Da K (hid (del μ p) H) (.ref p) (cellD c) := by
  cases c with
  | lst ds => exact freeze_lst m h
  | dct kvs => exact freeze_dct m h
theorem RS.frz {K : PySem.W.Frag} {μ : Mu} {H : Hp} {σ : L2.St} {δ : DSt} (rs : RS K μ H σ δ) (rm : RM K μ H) {i : Nat} {p : Addr} {c : Cell} (hc : μ p = some c) (hp : δ[i]? = some (some (.cell p))) : RS K (del μ p) H σ (δ.set i (some (.d (cellD c)))) := by
  refine ⟨by rw [List.length_set]; exact rs.1, fun j d h => ?_⟩
  by_cases e : i = j
  · subst e
    obtain ⟨a, b⟩ := get_set h
    cases a
    obtain ⟨v, h1, h2⟩ := rs.2 i _ hp
    cases (show v = .ref p from h2)
    exact ⟨_, h1, freeze_cell rm hc⟩
  · rw [List.getElem?_set_ne e] at h
    obtain ⟨v, h1, h2⟩ := rs.2 j d h
    exact ⟨v, h1, h2.mono ext_freeze⟩
theorem fs_frz {f : FS} {i : Nat} (h : FSt1 X st f) : FSt1 X st (fsSeq (fsFrz i) f) := ps_imp h fun D σ H ⟨δ, μ, Dd, rs, rm, ⟨ε, m, q⟩, w⟩ => by
  unfold fsSeq fsFrz at q
  split at q
  · next c hc =>
    obtain ⟨p, h1, h2⟩ := m.cel i c (getC_c hc)
    have t := Tr.frz m hc h1
    exact ⟨_, del μ p, Dd, RS.frz rs rm h2 h1, rm.freeze, upFS_next m t q, w.step ext_freeze⟩
  · exact ⟨δ, μ, Dd, rs, rm, ⟨ε, m, q⟩, w⟩
  · exact q.elim
end
def frz (f : FT) : FT := fun ε => (f ε).bind fun r ε1 => match r with
  | .own c => .ok (.val (cellD c)) ε1
  | .val x => .ok (.val x) ε1
  | .ref _ => .no
theorem d_frz {X : Cx} {e : Expr} {t : DT} (h : DE X e t) : DE X e (fun δ μ Q => t δ μ fun v μ1 => match v with
    | .cell p => ∃ c, μ1 p = some c ∧ Q (.d (cellD c)) (del μ1 p)
    | .d x => Q (.d x) μ1) := pe_imp h fun σ H Q ⟨δ, μ, Qd, rs, rm, q, w⟩ => up_use rs rm q fun d μ1 v H1 e1 m1 r1 q1 => by
  cases d with
  | d x => exact w (.d x) μ1 v H1 e1 m1 r1 q1
  | cell p =>
    obtain ⟨c, hc, q1⟩ := q1
    cases (show v = .ref p from r1)
    exact w (.d (cellD c)) (del μ1 p) _ H1 (e1.trans ext_freeze) m1.freeze (freeze_cell m1 hc) q1
theorem TrE.drop {δ : DSt} {μ μ1 : Mu} {ε ε1 : FSt} (m : Mt δ μ ε) (t : TrE δ μ ε μ1 ε1) {p : Addr} (hp : μ p = none) : TrE δ μ ε (del μ1 p) ε1 := by
  refine ⟨⟨t.mt.len, t.mt.dat, fun i c h => ?_, t.mt.apart⟩, fun b d h n => ?_, t.kd⟩
  · obtain ⟨q, h1, h2⟩ := t.mt.cel i c h
    refine ⟨q, h1, ?_⟩
    rw [del_ne (fun z => ?_), h2]
    subst z
    obtain ⟨c2, hc⟩ := m.adr (t.kd.adr.mpr ⟨i, isC_of h, h1⟩)
    rw [hp] at hc; cases hc
  · rw [del_ne (fun z => by subst z; rw [hp] at h; cases h)]
    exact t.fr b d h n
theorem f_frz {X : Cx} {e : Expr} {f : FT} (h : FE X e f) : FE X e (frz f) := d_imp (d_frz h) fun δ μ Q ⟨ε, m, h⟩ => use1 m h fun r ε1 v μ1 e t rf h1 => by
  cases r with
  | val x => cases (show v = .d x from rf); exact h1 _ _ t rfl
  | ref i => exact h1.elim
  | own c =>
    obtain ⟨p, rfl, h2, h3⟩ := rf
    exact ⟨c, h2, h1 _ _ (t.drop m h3) rfl⟩
end FL

namespace FL
open PySem PySem.Spec PyProof.Rows L2 DL
section
variable {X : Cx} {pos apos cpos : Pos} {st : Stmt} {e o b : Expr} {es : List Expr} {fe fo fi : FT} {fr : FTA}
/-- what a method makes of a list: what it tells, and the list then -/
abbrev GM := List PyData → List PyData → Option (PyData × List PyData)
structure MutOk (K : PySem.W.Frag) (r : V → List V → Hp → VK → Prop) (g : GM) : Prop where
  use : ∀ {H : Hp} {μ : Mu} {p : Addr} {vs us : List V} {xs ys xs' : List PyData} {z : PyData}, H p = some (.lst vs) → DaAll K (hid μ H) vs xs → DaAll K (hid μ H) us ys → g xs ys = some (z, xs') →
    ∃ w vs', (∀ Q : VK, Q w (upd H p (.lst vs')) → r (.ref p) us H Q) ∧ DaAll K (hid μ H) vs' xs' ∧ Da K (hid μ H) w z
def fMut (g : GM) (fo : FT) (fr : FTA) : FT := fun ε => (fo ε).bind fun o ε1 => match o with
  | .ref i => (fr ε1).bind fun as ε2 => match getC ε1 i, getC ε2 i, vals as with
    | some (.lst _), some (.lst xs), some ys => match g xs ys with
      | some (z, xs') => .ok (.val z) (setC ε2 i (.lst xs'))
      | none => .no
    | _, _, _ => .no
  | _ => .no
def dMut (g : GM) (to : DT) (tr : DTA) : DT := fun δ μ Q => to δ μ fun x μ1 => match x with
  | .cell p => (∃ ys, μ1 p = some (.lst ys)) ∧ tr δ μ1 fun as μ2 => ∃ xs ys z xs', μ2 p = some (.lst xs) ∧ allD as = some ys ∧ g xs ys = some (z, xs') ∧ Q (.d z) (put μ2 p (.lst xs'))
  | _ => False
theorem d_mut {g : GM} {r : V → List V → Hp → VK → Prop} {name : Str} {id : String} {to : DT} {tr : DTA} (M : MutOk X.K r g) (pa : PlainAttrs "list") (slot : Slot "list" name id) (hty : typeOf (.builtin id) = pure (.type "method_descriptor")) (hm : MtR X id r) (ho : DE X o to) (ha : DA X (e :: es) tr)
    (hbase : attributeBase o name X.env (eval o X.env) = eval o X.env := by rfl)
    (hfew : ((backTo cpos (starEach (e :: es) X.env)).all (fun x => !x.1) && (backToKw cpos (keywordEach [] X.env)).all (fun x => x.1.isSome)
      && decide ((e :: es).length + ([] : List Keyword).length + (if ([] : List Keyword).isEmpty then 0 else 1) < 30)) = true := by rfl)
    (hline : (apos.endLine == cpos.line) = true := by rfl) (hs : starEach (e :: es) X.env = (false, eval e X.env) :: starEach es X.env := by rfl) (hplain : (backTo cpos (starEach es X.env)).any (·.1) = false := by rfl) :
    DE X (.Call (.Attribute o name apos) (e :: es) [] cpos) (dMut g to tr) :=
  pe_imp (pe_bm pa slot hty hm ho ha hbase hfew hline hs hplain) fun σ H Q ⟨δ, μ, Qd, rs, rm, q, w⟩ => up_use rs rm q fun x μ1 v H1 e1 m1 r1 q1 => by
    cases x with
    | d x => exact q1.elim
    | cell p =>
      obtain ⟨⟨ys, hy⟩, q1⟩ := q1
      cases (show v = .ref p from r1)
      obtain ⟨vs0, h01, h02⟩ := m1 p _ hy
      refine ⟨.inl ⟨rfl, vs0, .of h01⟩, upA_use (rs.mono e1) m1 q1 fun as μ2 us H2 e2 m2 r2 ⟨xs, ys, z, xs', h1, h2, h3, q2⟩ => ?_⟩
      obtain ⟨vs, g1, g2⟩ := m2 p _ h1
      obtain ⟨w', vs', k1, k2, k3⟩ := M.use g1 g2 (allD_da h2 r2) h3
      refine k1 _ (w (.d z) (put μ2 p (.lst xs')) _ _ (e1.trans (e2.trans (ext_write h1))) (m2.write (c := .lst xs') h1 ⟨vs', upd_same, k2.mono (ext_write h1)⟩) (k3.mono (ext_write h1)) q2)
theorem up_fMut {g : GM} : ∀ δ μ Q, upF (fMut g fo fr) δ μ Q → dMut g (upF fo) (upFA fr) δ μ Q := fun δ μ Q ⟨ε, m, h⟩ => use1 m h fun o ε1 v μ1 e t rf h1 => by
  cases o with
  | val x => exact h1.elim
  | own c => exact h1.elim
  | ref i =>
    obtain ⟨hc, p, rfl, hp⟩ := rf
    obtain ⟨c0, hc0⟩ := isC_some hc
    obtain ⟨q, h2, h3⟩ := t.mt.cel i c0 hc0
    rw [hp] at h2; cases h2
    have h1 : fit (fun r v μ' ε' => RF δ μ ε' μ' r v) δ μ ε Q ((fr ε1).bind fun as ε2 => match getC ε1 i, getC ε2 i, vals as with
      | some (.lst _), some (.lst xs), some ys => match g xs ys with
        | some (z, xs') => .ok (.val z) (setC ε2 i (.lst xs'))
        | none => .no
      | _, _, _ => .no) := h1
    have hl : ∃ ys, c0 = .lst ys := by
      cases c0 with
      | lst ys => exact ⟨ys, rfl⟩
      | dct kvs =>
        rw [hc0] at h1
        obtain ⟨a, ε', e2, _⟩ := fit_ok h1
        cases e3 : fr ε1 with
        | no => rw [e3] at e2; cases e2
        | ex _ _ => rw [e3] at e2; cases e2
        | ok a ε => rw [e3] at e2; cases e2
    obtain ⟨ys, rfl⟩ := hl
    refine ⟨⟨ys, h3⟩, useA (P := fun r v μ' ε' => RF δ μ ε' μ' r v) t.mt (fit_step t h1 fun _ _ _ _ _ p => p) fun as ε2 vs μ2 e2 t2 rf2 h4 => ?_⟩
    rw [hc0] at h4
    split at h4
    · next xs ys' g1 g2 g3 =>
      split at h4
      · next z xs' g4 =>
        obtain ⟨q2, k1, k2⟩ := t2.mt.cel i _ g2
        rw [hp] at k1; cases k1
        exact ⟨xs, ys', z, xs', k2, vals_allD rf2 g3, g4, h4 _ _ (t2.write g2 hp) rfl⟩
      · exact h4.elim
    · exact h4.elim
theorem f_mut {g : GM} {r : V → List V → Hp → VK → Prop} {name : Str} {id : String} (M : MutOk X.K r g) (pa : PlainAttrs "list") (slot : Slot "list" name id) (hty : typeOf (.builtin id) = pure (.type "method_descriptor")) (hm : MtR X id r) (ho : FE X o fo) (ha : FA X (e :: es) fr)
    (hbase : attributeBase o name X.env (eval o X.env) = eval o X.env := by rfl)
    (hfew : ((backTo cpos (starEach (e :: es) X.env)).all (fun x => !x.1) && (backToKw cpos (keywordEach [] X.env)).all (fun x => x.1.isSome)
      && decide ((e :: es).length + ([] : List Keyword).length + (if ([] : List Keyword).isEmpty then 0 else 1) < 30)) = true := by rfl)
    (hline : (apos.endLine == cpos.line) = true := by rfl) (hs : starEach (e :: es) X.env = (false, eval e X.env) :: starEach es X.env := by rfl) (hplain : (backTo cpos (starEach es X.env)).any (·.1) = false := by rfl) :
    FE X (.Call (.Attribute o name apos) (e :: es) [] cpos) (fMut g fo fr) := d_imp (d_mut M pa slot hty hm ho ha hbase hfew hline hs hplain) up_fMut
noncomputable def gAppend : GM := fun xs ys => match ys with
  | [y] => req (xs.length < 1000000) (some (.none, xs ++ [y]))
  | _ => none
theorem m_append {K : PySem.W.Frag} : MutOk K rAppend gAppend := ⟨fun {H μ p vs us xs ys xs' z} h1 h2 h3 h4 => by
  unfold gAppend at h4
  split at h4
  · next y =>
    obtain ⟨hl, e⟩ := req_some h4
    cases e
    cases h3 with
    | cons a t =>
      cases t
      exact ⟨.non, vs ++ [_], fun Q q => ⟨p, vs, _, rfl, rfl, h1, by rw [h2.length]; exact Nat.lt_of_lt_of_le hl (by decide), q⟩, h2.append (.cons a .nil), .non⟩
  · cases h4⟩
theorem DaAll.dropLast {K : PySem.W.Frag} {H : Hp} {vs : List V} {ds : List PyData} (h : DaAll K H vs ds) : DaAll K H vs.dropLast ds.dropLast := by
  rw [List.dropLast_eq_take, List.dropLast_eq_take, h.length]
  exact h.take _
noncomputable def gPopAt : GM := fun xs ys => match ys with
  | [.int i] => (seqIndex? i xs.length).bind fun k => (xs[k]?).bind fun y => req (-(2 ^ 63) ≤ i ∧ i < 2 ^ 63) (some (y, xs.eraseIdx k))
  | _ => none
theorem DaAll.eraseIdx {K : PySem.W.Frag} {H : Hp} : ∀ {vs : List V} {ds : List PyData} (k : Nat), DaAll K H vs ds → DaAll K H (vs.eraseIdx k) (ds.eraseIdx k)
  | _, _, _, .nil => .nil
  | _, _, 0, .cons _ t => t
  | _, _, k + 1, .cons a t => .cons a (DaAll.eraseIdx k t)
theorem m_popAt {K : PySem.W.Frag} : MutOk K rPopAt gPopAt := ⟨fun {H μ p vs us xs ys xs' z} h1 h2 h3 h4 => by
  unfold gPopAt at h4
  split at h4
  · next i =>
    simp only [Option.bind_eq_some_iff] at h4
    obtain ⟨k, e1, y, e2, e3⟩ := h4
    obtain ⟨⟨l1, l2⟩, e4⟩ := req_some e3
    cases e4
    cases h3 with
    | cons a t =>
      cases t
      cases a
      obtain ⟨v, g1, g2⟩ := h2.get e2
      exact ⟨v, vs.eraseIdx k, fun Q q => ⟨p, vs, i, k, v, rfl, rfl, h1, l1, l2, by rw [h2.length]; exact e1, g1, q⟩, DaAll.eraseIdx k h2, g2⟩
  · cases h4⟩
def setI (o : FR) (k : Option PyData) (r : FR) (ε : FSt) : R Flow := match r, o, k with
  | .val x, .ref i, some (.int n) => match getC ε i with
    | some (.lst xs) => match ixN xs.length n with
      | some j => .ok .nx (setC ε i (.lst (xs.set j x)))
      | none => .no
    | _ => .no
  | _, _, _ => .no
def fsSetI (fo fi fe : FT) : FS := fun ε => (fe ε).bind fun r ε1 => (fo ε1).bind fun o ε2 => (fi ε2).bind fun k ε3 => setI o (see ε3 k) r ε3
theorem look_int' {μ : Mu} {v : DV} {i : Int} (h : look μ v = some (.int i)) : v = .d (.int i) := by
  cases v with
  | d y => cases (show y = _ from Option.some.inj h); rfl
  | cell p =>
    have h : (μ p).map cellD = some _ := h
    cases e : μ p with
    | none => rw [e] at h; cases h
    | some c => rw [e] at h; cases c <;> cases h
theorem fs_setI {tpos : Pos} (ho : FE X o fo) (hi : FE X b fi) (he : FE X e fe)
    (ha : ∀ v, assign (.Subscript o b tpos) X.env v = (do
      let ov ← holding [v] (eval o X.env)
      let iv ← holding [v, ov] (eval b X.env)
      standAt tpos
      holding [v, ov, iv] (setItem ov iv v)
      release [v, ov, iv] []) := by intro _; rfl)
    (hs : swapsWithSole [.Subscript o b tpos] e pos.line X.env = pure false := by rfl) (hw : swappedStores [.Subscript o b tpos] e X.env = pure none := by rfl)
    (h1 : (assignEach [.Subscript o b tpos] X.env).map (·.2) = [assign (.Subscript o b tpos) X.env] := by rfl) : FSt1 X (.Assign [.Subscript o b tpos] e pos) (fsSetI fo fi fe) :=
  s_imp (s_asg he (g_subL ho hi ha) hs hw h1) fun D δ μ ⟨ε, m, h⟩ => useSE m h fun r ε1 v μ1 t p h1 =>
    useSE t.mt (fitS_step m t.tr h1) fun o ε2 ov μ2 t2 p2 h2 => useSE (δ := δ) t2.mt (fitS_step t.mt t2.tr h2) fun k ε3 kv μ3 t3 p3 h3 => by
      unfold setI at h3
      split at h3
      · next x i n ek =>
        cases (show v = .d x from p)
        obtain ⟨hc, q, rfl, hq⟩ := p2
        cases look_int' (see_look t3.mt p3 ek)
        split at h3
        · next xs ec =>
          split at h3
          · next j ej =>
            obtain ⟨q', k1, k2⟩ := t3.mt.cel i _ ec
            rw [hq] at k1; cases k1
            show rdSetL _ _ _ _ _
            unfold rdSetL
            simp only [k2, ej]
            exact h3 _ _ (t3.write ec hq).tr
          · exact h3.elim
        · exact h3.elim
      · exact h3.elim
end
end FL

namespace FL
open PySem PySem.Spec PyProof.Rows L2 DL
abbrev GF := PyData → FSt → Option FSt
structure TGd (gd : DTG) (gf : GF) : Prop where
  ok : ∀ {d : PyData} {δ : DSt} {μ : Mu} {ε ε' : FSt}, Mt δ μ ε → gf d ε = some ε' → ∃ δ', Tr δ μ ε δ' μ ε' ∧ ∀ K : DSt → Mu → Prop, K δ' μ → gd (.d d) δ μ K
def tgN (i : Nat) : GF := fun d ε => if isBb ε i = true then none else some (ε.set i (some (.d d)))
def setAllF : List Nat → List PyData → FSt → Option FSt
  | i :: is, x :: xs, ε => if isBb ε i = true then none else setAllF is xs (ε.set i (some (.d x)))
  | _, _, ε => some ε
def tgT (is : List Nat) : GF := fun d ε => match d with
  | .tuple xs => if xs.length = is.length then setAllF is xs ε else none
  | _ => none
theorem tgd_name {i : Nat} : TGd (gdName i) (tgN i) := ⟨fun {d δ μ ε ε'} m h => by
  unfold tgN at h
  split at h
  · cases h
  · next hb =>
    cases h
    exact ⟨_, Tr.setD m (by simpa using hb), fun K k => k⟩⟩
theorem setAllF_tr : ∀ {is : List Nat} {xs : List PyData} {δ : DSt} {μ : Mu} {ε ε' : FSt}, Mt δ μ ε → setAllF is xs ε = some ε' → Tr δ μ ε (setAll is xs δ) μ ε'
  | [], [], _, _, _, _, m, h => by cases h; exact .refl m
  | [], _ :: _, _, _, _, _, m, h => by cases h; exact .refl m
  | _ :: _, [], _, _, _, _, m, h => by cases h; exact .refl m
  | i :: is, x :: xs, δ, μ, ε, ε', m, h => by
    unfold setAllF at h
    split at h
    · cases h
    · next hb =>
      have t := Tr.setD (x := x) m (i := i) (by simpa using hb)
      exact t.trans m (setAllF_tr t.mt h)
abbrev FTI := FSt → R (List PyData)
def upFI (f : FTI) : DTI := fun δ μ Q => ∃ ε, Mt δ μ ε ∧ fit (fun r v _ _ => v = r) δ μ ε Q (f ε)
abbrev FI (b : Bool) (X : Cx) (tg iter : Expr) (f : FTI) : Prop := DI b X tg iter (upFI f)
theorem di_imp {b : Bool} {X : Cx} {tg iter : Expr} {t t' : DTI} (h : DI b X tg iter t) (w : ∀ δ μ Q, t' δ μ Q → t δ μ Q) : DI b X tg iter t' := pi_imp h fun σ H R ⟨δ, μ, Qd, rs, rm, q, z⟩ => ⟨δ, μ, Qd, rs, rm, w _ _ _ q, z⟩
theorem di_or {b : Bool} {X : Cx} {tg iter : Expr} {t u : DTI} (h : DI b X tg iter t) (g : DI b X tg iter u) : DI b X tg iter (fun δ μ Q => t δ μ Q ∨ u δ μ Q) := ⟨fun pins s σ H R I ⟨δ, μ, Qd, rs, rm, q, w⟩ => by
  rcases q with q | q
  · exact h.run pins s σ H R I ⟨δ, μ, Qd, rs, rm, q, w⟩
  · exact g.run pins s σ H R I ⟨δ, μ, Qd, rs, rm, q, w⟩⟩
section
variable {X : Cx} {pos : Pos} {tg iter a b c e elt : Expr} {fe fa fb : FT} {es ifs : List Expr} {fr : FTA} {wi : FTI} {body : List Stmt} {fB : FS} {gd : DTG} {gf : GF} {scope : Scope} {own : List (Str × Nat)} {g : TG} {vs : List Nat}
def fiSeq (fe : FT) : FTI := fun ε => (fe ε).bind fun r ε1 => match (seeV r).bind itemsOf with
  | some xs => .ok xs ε1
  | none => .no
theorem fi_seq (h : FE X e fe) : FI true X tg e (fiSeq fe) := di_imp (di_or (i_list h) (i_tup h)) fun δ μ Q ⟨ε, m, h⟩ => by
  have key : (∃ xs ε1, fe ε = .ok (.val (.list xs)) ε1) ∨ ∃ xs ε1, fe ε = .ok (.val (.tuple xs)) ε1 := by
    unfold fiSeq at h
    cases e : fe ε with
    | no => rw [e] at h; exact h.elim
    | ex _ _ => rw [e] at h; exact h.elim
    | ok r ε1 =>
      rw [e, R.bind_ok] at h
      cases r with
      | ref i => exact h.elim
      | own c => exact h.elim
      | val x =>
        cases x with
        | list xs => exact .inl ⟨xs, ε1, rfl⟩
        | tuple xs => exact .inr ⟨xs, ε1, rfl⟩
        | _ => exact h.elim
  rcases key with ⟨xs, ε1, e⟩ | ⟨xs, ε1, e⟩
  · refine .inl (use1 m h fun r ε2 v μ1 e2 t rf h1 => ?_)
    rw [e] at e2
    cases e2
    cases (show v = _ from rf)
    exact h1 xs μ1 t rfl
  · refine .inr (use1 m h fun r ε2 v μ1 e2 t rf h1 => ?_)
    rw [e] at e2
    cases e2
    cases (show v = _ from rf)
    exact h1 xs μ1 t rfl
def fiArgs (g : List PyData → Option (List PyData)) (fr : FTA) : FTI := fun ε => (fr ε).bind fun as ε1 => match (vals as).bind g with
  | some xs => .ok xs ε1
  | none => .no
theorem useI {g : List PyData → Option (List PyData)} {r : List DV → Mu → (List PyData → Mu → Prop) → Prop} (hr : ∀ ds as xs μ Q, allD ds = some as → g as = some xs → Q xs μ → r ds μ Q) : ∀ δ μ Q, upFI (fiArgs g fr) δ μ Q → upFA fr δ μ (fun ds μ1 => r ds μ1 Q) := fun δ μ Q ⟨ε, m, h⟩ => useA m h fun rs ε1 vs μ1 e t rf h1 => by
  cases ho : (vals rs).bind g with
  | none => rw [ho] at h1; exact h1.elim
  | some xs =>
    rw [ho] at h1
    simp only [Option.bind_eq_some_iff] at ho
    obtain ⟨as, e1, e2⟩ := ho
    exact hr _ _ _ _ _ (vals_allD rf e1) e2 (h1 xs μ1 t rfl)
theorem allD1 {ds : List DV} {a : PyData} (h : allD ds = some [a]) : ds = [.d a] := by
  match ds with
  | [] => cases h
  | [.d x] => simp [allD] at h; rw [h]
  | .cell _ :: _ => cases h
  | .d x :: .cell _ :: r => simp [allD] at h
  | .d x :: .d y :: r => simp [allD] at h
theorem allD2 {ds : List DV} {a b : PyData} (h : allD ds = some [a, b]) : ds = [.d a, .d b] := by
  match ds with
  | [] => cases h
  | .cell _ :: _ => cases h
  | .d x :: r =>
    simp only [allD, Option.map_eq_some_iff] at h
    obtain ⟨ys, e1, e2⟩ := h
    cases e2
    rw [allD1 e1]
end
end FL

namespace FL
open PySem PySem.Spec PyProof.Rows L2 DL
section
variable {X : Cx} {pos : Pos} {tg iter a b c e elt : Expr} {fe fa fb : FT} {es ifs : List Expr} {fr : FTA} {wi : FTI} {body : List Stmt} {fB : FS} {gd : DTG} {gf : GF} {scope : Scope} {own : List (Str × Nat)} {g : TG} {vs : List Nat}
noncomputable def gRange1 : List PyData → Option (List PyData)
  | [.int j] => req (-(2 ^ 62) ≤ j ∧ j < 2 ^ 62) (some (rangeD 0 j.toNat))
  | _ => none
def gEnum : List PyData → Option (List PyData)
  | [.list xs] => some (enumD 0 xs)
  | _ => none
def gZip : List PyData → Option (List PyData)
  | [.list xs, .list ys] => some (zipD xs ys)
  | [.tuple xs, .tuple ys] => some (zipD xs ys)
  | _ => none
theorem fi_range1 {p : Pos} (hg : Gl X "range") (hm : X.mg "range" = none) (ha : FA X [a] fr) (hs : starEach [a] X.env = [(false, eval a X.env)] := by rfl) : FI true X tg (.Call (.Name "range" p) [a] [] pos) (fiArgs gRange1 fr) :=
  di_imp (i_range1 hg hm ha hs) (useI fun ds as xs μ Q h1 h2 q => by
    unfold gRange1 at h2
    split at h2
    · obtain ⟨h3, e⟩ := req_some h2; cases e; rw [allD1 h1]; exact ⟨h3, q⟩
    · cases h2)
theorem fi_enum {p tpos : Pos} {elts : List Expr} {kk : Nat} (hg : Gl X "enumerate") (hm : X.mg "enumerate" = none) (ha : FA X [e] fr) (hs : starEach [e] X.env = [(false, eval e X.env)] := by rfl) : FI false X (.Tuple elts kk tpos) (.Call (.Name "enumerate" p) [e] [] pos) (fiArgs gEnum fr) :=
  di_imp (i_enum hg hm ha hs) (useI fun ds as xs μ Q h1 h2 q => by
    unfold gEnum at h2
    split at h2
    · cases h2; rw [allD1 h1]; exact q
    · cases h2)
theorem walk_zipT {K : PySem.W.Frag} {μ : Mu} {H : Hp} {p r : Addr} {vs ws : List V} {ds es : List PyData} (s : SqT K (hid μ H) p vs) (t : DaAll K (hid μ H) vs ds) (s2 : SqT K (hid μ H) r ws) (t2 : DaAll K (hid μ H) ws es) : Walk false K μ H (RZ.ItzT K p r) (zipD ds es) := fun i μ' H' e m => by
  have s' : SqT K H' p vs := same_seqW unhid (same_seqW e s)
  have s2' : SqT K H' r ws := same_seqW unhid (same_seqW e s2)
  refine ⟨fun d hd => ?_, fun hd => ⟨vs, ws, s', s2', ?_⟩⟩
  · obtain ⟨x, y, hx, hy, rfl⟩ := zipD_get _ _ _ _ hd
    obtain ⟨v, h1, h2⟩ := t.get hx
    obtain ⟨u, h3, h4⟩ := t2.get hy
    refine ⟨⟨vs, ws, v, u, s', s2', h1, h3⟩, ?_⟩
    rintro z H2 ⟨T, x', y', rfl, hT, rfl, e2, e3⟩
    have e4 := e2 vs s'
    have e5 := e3 ws s2'
    rw [h1] at e4
    rw [h3] at e5
    cases e4
    cases e5
    refine ⟨ext_new hT, m.new hT, .inr ⟨T, [v, u], [x, y], rfl, rfl, .inl (.inl (hid_new m hT)), .cons ((h2.mono e).mono (ext_new hT)) (.cons ((h4.mono e).mono (ext_new hT)) .nil)⟩⟩
  · rw [t.length, t2.length]
    exact zipD_none _ _ _ hd
def dwZipA (ta : DTA) : DTI := fun δ μ Q => ta δ μ fun ds μ1 => ∃ as xs, allD ds = some as ∧ gZip as = some xs ∧ Q xs μ1
theorem i_zipA {tA : DTA} {p tpos : Pos} {elts : List Expr} {kk : Nat} (hg : Gl X "zip") (hm : X.mg "zip" = none) (ha : DA X [a, b] tA) (hs : starEach [a, b] X.env = (false, eval a X.env) :: starEach [b] X.env := by rfl) (hpl : (backTo pos (starEach [b] X.env)).any (·.1) = false := by rfl) :
    DI false X (.Tuple elts kk tpos) (.Call (.Name "zip" p) [a, b] [] pos) (dwZipA tA) :=
  pi_imp (RZ.pi_zipA hg hm ha hs hpl) fun σ H R ⟨δ, μ, Qd, rs, rm, q, w⟩ => upA_use rs rm q fun ds μ1 vs H1 e1 m1 r1 ⟨as, zs, h1, h2, q1⟩ => by
    unfold gZip at h2
    split at h2
    · next xs ys =>
      cases h2
      obtain rfl := allD2 h1
      cases r1 with
      | cons r t =>
        cases t with
        | cons r' t =>
          cases t
          cases (show Da X.K (hid μ1 H1) _ (.list xs) from r) with
          | @lst p vs _ s t =>
            cases (show Da X.K (hid μ1 H1) _ (.list ys) from r') with
            | @lst p' vs' _ s' t' => exact ⟨p, p', vs, vs', rfl, .inl ⟨unhid.seq s, unhid.seq s', w _ μ1 H1 _ e1 m1 (walk_zip s t s' t') q1⟩⟩
    · next xs ys =>
      cases h2
      obtain rfl := allD2 h1
      cases r1 with
      | cons r t =>
        cases t with
        | cons r' t =>
          cases t
          cases (show Da X.K (hid μ1 H1) _ (.tuple xs) from r) with
          | @tup p vs _ s t =>
            cases (show Da X.K (hid μ1 H1) _ (.tuple ys) from r') with
            | @tup p' vs' _ s' t' => exact ⟨p, p', vs, vs', rfl, .inr ⟨same_seqT unhid s, same_seqT unhid s', w _ μ1 H1 _ e1 m1 (walk_zipT s.t t s'.t t') q1⟩⟩
    · cases h2
theorem fi_zip {p tpos : Pos} {elts : List Expr} {kk : Nat} (hg : Gl X "zip") (hm : X.mg "zip" = none) (ha : FA X [a, b] fr) (hs : starEach [a, b] X.env = (false, eval a X.env) :: starEach [b] X.env := by rfl) (hpl : (backTo pos (starEach [b] X.env)).any (·.1) = false := by rfl) :
    FI false X (.Tuple elts kk tpos) (.Call (.Name "zip" p) [a, b] [] pos) (fiArgs gZip fr) :=
  di_imp (i_zipA hg hm ha hs hpl) (useI (r := fun ds μ1 Q => ∃ as xs, allD ds = some as ∧ gZip as = some xs ∧ Q xs μ1) fun ds as xs μ Q h1 h2 q => ⟨as, xs, h1, h2, q⟩)
def fsGo (gf : GF) (fB : FS) : List PyData → FS
  | [] => fsNext
  | d :: ds => fun ε => match gf d ε with
    | none => .no
    | some ε1 => (fB ε1).bind fun fl ε2 => match fl with
      | .nx => fsGo gf fB ds ε2
      | .ct => fsGo gf fB ds ε2
      | .bk => .ok .nx ε2
      | .rt r => .ok (.rt r) ε2
def fsFor (wi : FTI) (gf : GF) (fB : FS) : FS := fun ε => (wi ε).bind fun ds ε1 => fsGo gf fB ds ε1
theorem forGo_up (T : TGd gd gf) {D : DEnds} : ∀ (ds : List PyData) {δ : DSt} {μ : Mu} {ε : FSt}, Mt δ μ ε → fitS D δ μ ε (fsGo gf fB ds ε) → forGo gd (upFS fB) D ds δ μ
  | [], δ, μ, ε, m, h => h δ μ (.refl m)
  | d :: ds, δ, μ, ε, m, h => by
    unfold fsGo at h
    unfold forGo
    cases e : gf d ε with
    | none => simp only [e] at h; exact h.elim
    | some ε1 =>
      simp only [e] at h
      obtain ⟨δ1, t, hk⟩ := T.ok m e
      refine hk _ ⟨ε1, t.mt, ?_⟩
      cases e2 : fB ε1 with
      | no => rw [e2] at h; exact h.elim
      | ex _ _ => rw [e2] at h; exact h.elim
      | ok fl ε2 =>
        rw [e2] at h
        have h := fitS_step m t h
        cases fl with
        | nx => exact fun δ' μ' t2 => forGo_up T ds t2.mt (fitS_step t.mt t2 h)
        | ct => exact fun δ' μ' t2 => forGo_up T ds t2.mt (fitS_step t.mt t2 h)
        | bk => exact h
        | rt r => exact h
theorem fs_for {bb : Bool} (hp : PassesOwn (model X.prog X.w) X.A X.env X.xe) (hc : X.calm = true) (hi : FI bb X tg iter wi) (hg : DG bb X tg gd) (T : TGd gd gf) (hb : FSts X body fB) (hs : ∀ (x : Value), foldedSetIterable iter X.env x = pure x := by intro _; rfl) : FSt1 X (.For tg iter body [] pos) (fsFor wi gf fB) :=
  s_imp (s_for hp hc hi hg hb hs) fun D δ μ ⟨ε, m, h⟩ => by
    refine ⟨ε, m, ?_⟩
    unfold fsFor at h
    cases e : wi ε with
    | no => rw [e] at h; exact h.elim
    | ex _ _ => rw [e] at h; exact h.elim
    | ok ds ε1 =>
      rw [e] at h
      exact fun v μ1 t p => by subst p; exact forGo_up T v t.mt (fitS_step m t.tr h)
end
end FL

namespace FL
open PySem PySem.Spec PyProof.Rows L2 DL
def wipeF (ε : FSt) : List Nat → FSt
  | [] => ε
  | v :: vs => (wipeF ε vs).set v none
theorem wipeF_len (ε : FSt) : ∀ vs : List Nat, (wipeF ε vs).length = ε.length
  | [] => rfl
  | v :: vs => by unfold wipeF; rw [List.length_set, wipeF_len ε vs]
theorem wipeF_get (ε : FSt) : ∀ (vs : List Nat) (k : Nat), (wipeF ε vs)[k]? = if k ∈ vs ∧ k < ε.length then some none else ε[k]?
  | [], k => by simp [wipeF]
  | v :: vs, k => by
    unfold wipeF
    by_cases hk : v = k
    · subst hk
      by_cases hl : v < ε.length
      · rw [List.getElem?_set_self (by rw [wipeF_len]; exact hl), if_pos ⟨List.mem_cons_self, hl⟩]
      · rw [List.getElem?_eq_none (by rw [List.length_set, wipeF_len]; omega), if_neg (fun z => hl z.2), List.getElem?_eq_none (by omega)]
    · rw [List.getElem?_set_ne hk, wipeF_get ε vs k]
      have e : (k ∈ v :: vs ∧ k < ε.length) ↔ (k ∈ vs ∧ k < ε.length) := by
        simp only [List.mem_cons]
        exact ⟨fun z => ⟨z.1.resolve_left fun q => hk q.symm, z.2⟩, fun z => ⟨.inr z.1, z.2⟩⟩
      by_cases h : k ∈ vs ∧ k < ε.length
      · rw [if_pos h, if_pos (e.mpr h)]
      · rw [if_neg h, if_neg (fun z => h (e.mp z))]
theorem wipeF_out {ε : FSt} {vs : List Nat} {k : Nat} (h : k ∉ vs) : (wipeF ε vs)[k]? = ε[k]? := by rw [wipeF_get, if_neg (fun z => h z.1)]
theorem wipeD_get (δ : DSt) : ∀ (vs : List Nat) (k : Nat), (wipeD δ vs)[k]? = if k ∈ vs ∧ k < δ.length then some none else δ[k]?
  | [], k => by simp [wipeD]
  | v :: vs, k => by
    unfold wipeD
    by_cases hk : v = k
    · subst hk
      by_cases hl : v < δ.length
      · rw [List.getElem?_set_self (by rw [wipeD_length]; exact hl), if_pos ⟨List.mem_cons_self, hl⟩]
      · rw [List.getElem?_eq_none (by rw [List.length_set, wipeD_length]; omega), if_neg (fun z => hl z.2), List.getElem?_eq_none (by omega)]
    · rw [List.getElem?_set_ne hk, wipeD_get δ vs k]
      have e : (k ∈ v :: vs ∧ k < δ.length) ↔ (k ∈ vs ∧ k < δ.length) := by
        simp only [List.mem_cons]
        exact ⟨fun z => ⟨z.1.resolve_left fun q => hk q.symm, z.2⟩, fun z => ⟨.inr z.1, z.2⟩⟩
      by_cases h : k ∈ vs ∧ k < δ.length
      · rw [if_pos h, if_pos (e.mpr h)]
      · rw [if_neg h, if_neg (fun z => h (e.mp z))]
theorem wipeD_out {δ : DSt} {vs : List Nat} {k : Nat} (h : k ∉ vs) : (wipeD δ vs)[k]? = δ[k]? := by rw [wipeD_get, if_neg (fun z => h z.1)]
/-- their slots as they were -/
def restF (ε ε' : FSt) : List Nat → FSt
  | [] => ε'
  | v :: vs => match ε[v]? with
    | some x => (restF ε ε' vs).set v x
    | none => restF ε ε' vs
theorem restF_len (ε ε' : FSt) : ∀ vs : List Nat, (restF ε ε' vs).length = ε'.length
  | [] => rfl
  | v :: vs => by unfold restF; split <;> simp [restF_len ε ε' vs]
theorem restF_get {ε ε' : FSt} (hl : ε'.length = ε.length) : ∀ (vs : List Nat) (k : Nat), (restF ε ε' vs)[k]? = if k ∈ vs then ε[k]? else ε'[k]?
  | [], k => by simp [restF]
  | v :: vs, k => by
    unfold restF
    split
    · next x hx =>
      by_cases hk : v = k
      · subst hk
        rw [List.getElem?_set_self (by rw [restF_len, hl]; exact (List.getElem?_eq_some_iff.mp hx).1), if_pos List.mem_cons_self, hx]
      · rw [List.getElem?_set_ne hk, restF_get hl vs k]
        have : (k ∈ v :: vs) ↔ k ∈ vs := by simp [Ne.symm hk]
        by_cases h : k ∈ vs
        · rw [if_pos h, if_pos (this.mpr h)]
        · rw [if_neg h, if_neg (fun z => h (this.mp z))]
    · next hx =>
      rw [restF_get hl vs k]
      by_cases hk : v = k
      · subst hk
        rw [if_pos List.mem_cons_self]
        have := List.getElem?_eq_none_iff.mp hx
        split
        · rfl
        · rw [hx]; exact List.getElem?_eq_none (by omega)
      · have : (k ∈ v :: vs) ↔ k ∈ vs := by simp [Ne.symm hk]
        by_cases h : k ∈ vs
        · rw [if_pos h, if_pos (this.mpr h)]
        · rw [if_neg h, if_neg (fun z => h (this.mp z))]
theorem Mt.wipe {δ : DSt} {μ : Mu} {ε : FSt} (m : Mt δ μ ε) (vs : List Nat) : Mt (wipeD δ vs) μ (wipeF ε vs) := by
  have key : ∀ k, k ∈ vs → ∀ v, (wipeF ε vs)[k]? = some (some v) → False := fun k hk v h => by
    rw [wipeF_get] at h
    split at h
    · cases h
    · next hn =>
      have : ¬ k < ε.length := fun z => hn ⟨hk, z⟩
      rw [List.getElem?_eq_none (by omega)] at h; cases h
  have kc : ∀ k, k ∈ vs → ∀ c, getC (wipeF ε vs) k = some c → False := fun k hk c h => by
    rcases getC_some h with h | h <;> exact key k hk _ h
  have gc : ∀ k, k ∉ vs → getC (wipeF ε vs) k = getC ε k := fun k hk => by unfold getC; rw [wipeF_out hk]
  refine ⟨by rw [wipeD_length, wipeF_len]; exact m.len, fun i x h => ?_, fun i c h => ?_, fun i j p hi hj h1 h2 => ?_⟩
  · by_cases hv : i ∈ vs
    · exact (key i hv _ h).elim
    · rw [wipeD_out hv]; rw [wipeF_out hv] at h; exact m.dat i x h
  · by_cases hv : i ∈ vs
    · exact (kc i hv _ h).elim
    · rw [wipeD_out hv]; rw [gc i hv] at h; exact m.cel i c h
  · have ni : i ∉ vs := fun hv => by obtain ⟨c, h⟩ := isC_some hi; exact kc i hv c h
    have nj : j ∉ vs := fun hv => by obtain ⟨c, h⟩ := isC_some hj; exact kc j hv c h
    unfold isC at hi hj
    rw [gc i ni] at hi
    rw [gc j nj] at hj
    rw [wipeD_out ni] at h1
    rw [wipeD_out nj] at h2
    exact m.apart i j p hi hj h1 h2
/-- a target's turn: only own names are set, with data -/
structure Only (vs : List Nat) (δ δ2 : DSt) (ε ε1 : FSt) : Prop where
  ld : δ2.length = δ.length
  le : ε1.length = ε.length
  out : ∀ k, k ∉ vs → δ2[k]? = δ[k]? ∧ ε1[k]? = ε[k]?
  ins : ∀ k, k ∈ vs → ¬ isC ε1 k
structure TGc (vs : List Nat) (gd : DTG) (gf : GF) : Prop where
  ok : ∀ {d : PyData} {δ : DSt} {μ : Mu} {ε ε1 : FSt}, Mt δ μ ε → gf d (wipeF ε vs) = some ε1 → ∃ δ2, Mt δ2 μ ε1 ∧ Only vs δ δ2 ε ε1 ∧ ∀ K : DSt → Mu → Prop, K δ2 μ → gd (.d d) (wipeD δ vs) μ K
theorem only_wipe {δ : DSt} {μ : Mu} {ε : FSt} (m : Mt δ μ ε) (vs : List Nat) : Only vs δ (wipeD δ vs) ε (wipeF ε vs) :=
  ⟨wipeD_length δ vs, wipeF_len ε vs, fun k hk => ⟨wipeD_out hk, wipeF_out hk⟩, fun k hk h => by
    obtain ⟨c, h⟩ := isC_some h
    rcases getC_some h with h | h <;>
    · rw [wipeF_get] at h
      split at h
      · cases h
      · next hn =>
        have : ¬ k < ε.length := fun z => hn ⟨hk, z⟩
        rw [List.getElem?_eq_none (by omega)] at h; cases h⟩
theorem Only.set {vs : List Nat} {δ δ2 : DSt} {ε ε1 : FSt} (o : Only vs δ δ2 ε ε1) {i : Nat} (hi : i ∈ vs) {x : PyData} : Only vs δ (δ2.set i (some (.d x))) ε (ε1.set i (some (.d x))) :=
  ⟨by simp [o.ld], by simp [o.le], fun k hk => by
    have : i ≠ k := fun e => hk (e ▸ hi)
    rw [List.getElem?_set_ne this, List.getElem?_set_ne this]
    exact o.out k hk, fun k hk h => by
    by_cases e : i = k
    · subst e
      obtain ⟨c, h⟩ := isC_some h
      obtain ⟨a, _⟩ := getC_same h
      rcases a with a | a <;> cases a
    · unfold isC at h
      rw [getC_ne e] at h
      exact o.ins k hk h⟩
theorem tgc_name {vs : List Nat} {i : Nat} (h : i ∈ vs) : TGc vs (gdName i) (tgN i) := ⟨fun {d δ μ ε ε1} m e => by
  unfold tgN at e
  split at e
  · cases e
  · next hb =>
    cases e
    exact ⟨_, (Tr.setD (m.wipe vs) (x := d) (by simpa using hb)).mt, (only_wipe m vs).set h, fun K k => k⟩⟩
theorem setAllF_only {vs : List Nat} : ∀ {is : List Nat} {xs : List PyData} {δ δ2 : DSt} {ε ε1 ε2 : FSt}, (∀ i ∈ is, i ∈ vs) → Only vs δ δ2 ε ε1 → setAllF is xs ε1 = some ε2 → Only vs δ (setAll is xs δ2) ε ε2
  | [], [], _, _, _, _, _, _, o, h => by cases h; exact o
  | [], _ :: _, _, _, _, _, _, _, o, h => by cases h; exact o
  | _ :: _, [], _, _, _, _, _, _, o, h => by cases h; exact o
  | i :: is, x :: xs, _, _, _, _, _, hi, o, h => by
    unfold setAllF at h
    split at h
    · cases h
    · exact setAllF_only (is := is) (xs := xs) (fun j hj => hi j (List.mem_cons_of_mem _ hj)) (o.set (hi i List.mem_cons_self)) h
theorem tgc_tup {vs is : List Nat} (h : ∀ i ∈ is, i ∈ vs) : TGc vs (gdTup is) (tgT is) := ⟨fun {d δ μ ε ε1} m e => by
  unfold tgT at e
  split at e
  · next xs =>
    split at e
    · next hl => exact ⟨_, (setAllF_tr (m.wipe vs) e).mt, setAllF_only h (only_wipe m vs) e, fun K k => ⟨hl, k⟩⟩
    · cases e
  · cases e⟩
/-- behind a turn's parts -/
theorem Only.back {vs : List Nat} {δ δ2 : DSt} {μ μc μ4 : Mu} {ε εc ε1 ε3 : FSt} (t : TrE δ μ ε μc εc) (o : Only vs δ δ2 εc ε1) (t2 : TrE δ2 μc ε1 μ4 ε3) : TrE δ μ ε μ4 (restF εc ε3 vs) := by
  have hl3 : ε3.length = εc.length := t2.kd.len.trans o.le
  have out : ∀ k, k ∉ vs → (restF εc ε3 vs)[k]? = ε3[k]? := fun k hk => by rw [restF_get hl3, if_neg hk]
  have ins : ∀ k, k ∈ vs → (restF εc ε3 vs)[k]? = εc[k]? := fun k hk => by rw [restF_get hl3, if_pos hk]
  have kd : Kd εc (restF εc ε3 vs) := ⟨by rw [restF_len, hl3], fun k v h => by
    by_cases hk : k ∈ vs
    · exact ⟨v, by rw [ins k hk]; exact h, same1_refl v⟩
    · rw [out k hk]
      exact t2.kd.at' k v (by rw [(o.out k hk).2]; exact h)⟩
  have adr2 : ∀ p, Adr δ2 ε1 p → ∃ j, j ∉ vs ∧ isC εc j ∧ δ[j]? = some (some (.cell p)) := fun p ⟨j, h1, h2⟩ => by
    have hj : j ∉ vs := fun z => o.ins j z h1
    refine ⟨j, hj, ?_, by rw [← (o.out j hj).1]; exact h2⟩
    have : getC ε1 j = getC εc j := by unfold getC; rw [(o.out j hj).2]
    unfold isC at h1 ⊢
    rw [← this]; exact h1
  refine ⟨⟨by rw [restF_len, hl3]; exact t.mt.len, fun i x h => ?_, fun i c h => ?_, fun i j p hi hj h1 h2 => t.mt.apart i j p (kd.isC.mpr hi) (kd.isC.mpr hj) h1 h2⟩, fun b c h n => ?_, t.kd.trans kd⟩
  · by_cases hk : i ∈ vs
    · rw [ins i hk] at h; exact t.mt.dat i x h
    · rw [out i hk] at h
      rw [← (o.out i hk).1]
      exact t2.mt.dat i x h
  · by_cases hk : i ∈ vs
    · have h' : getC εc i = some c := by unfold getC at h ⊢; rw [ins i hk] at h; exact h
      obtain ⟨p, h1, h2⟩ := t.mt.cel i c h'
      refine ⟨p, h1, t2.fr p c h2 fun z => ?_⟩
      obtain ⟨j, a1, a2, a3⟩ := adr2 p z
      exact a1 (t.mt.apart i j p (isC_of h') a2 h1 a3 ▸ hk)
    · have h' : getC ε3 i = some c := by unfold getC at h ⊢; rw [out i hk] at h; exact h
      obtain ⟨p, h1, h2⟩ := t2.mt.cel i c h'
      exact ⟨p, by rw [← (o.out i hk).1]; exact h1, h2⟩
  · refine t2.fr b c (t.fr b c h n) fun z => n ?_
    obtain ⟨j, a1, a2, a3⟩ := adr2 b z
    exact t.kd.adr.mpr ⟨j, a2, a3⟩
theorem TrE.over {δ : DSt} {μ μ1 : Mu} {ε ε1 : FSt} (m : Mt δ μ ε) (t : TrE δ μ ε μ1 ε1) {p : Addr} {c : Cell} (hp : μ p = none) : TrE δ μ ε (put μ1 p c) ε1 := by
  refine ⟨⟨t.mt.len, t.mt.dat, fun i d h => ?_, t.mt.apart⟩, fun b d h n => ?_, t.kd⟩
  · obtain ⟨q, h1, h2⟩ := t.mt.cel i d h
    refine ⟨q, h1, ?_⟩
    rw [put_ne (fun z => ?_), h2]
    subst z
    obtain ⟨c2, hc⟩ := m.adr (t.kd.adr.mpr ⟨i, isC_of h, h1⟩)
    rw [hp] at hc; cases hc
  · rw [put_ne (fun z => by subst z; rw [hp] at h; cases h)]
    exact t.fr b d h n
section
variable {X : Cx} {pos : Pos} {tg iter a b c e elt : Expr} {fe fa fb : FT} {es ifs : List Expr} {fr : FTA} {wi : FTI} {body : List Stmt} {fB : FS} {gd : DTG} {gf : GF} {scope : Scope} {own : List (Str × Nat)} {g : TG} {vs : List Nat} {tt : FTT}
def fLcGo (gf : GF) (tt : FTT) (fe : FT) (vs : List Nat) : List PyData → List PyData → FSt → R (List PyData)
  | [], acc, ε => .ok acc ε
  | d :: ds, acc, ε => match gf d (wipeF ε vs) with
    | none => .no
    | some ε1 => (tt ε1).bind fun b ε2 => if b = true then (fe ε2).bind fun y ε3 => match y with
        | .val x => if acc.length < 1000000 then fLcGo gf tt fe vs ds (acc ++ [x]) (restF ε ε3 vs) else .no
        | _ => .no
      else fLcGo gf tt fe vs ds acc (restF ε ε2 vs)
def fLc (wi : FTI) (gf : GF) (tt : FTT) (fe : FT) (vs : List Nat) : FT := fun ε => (wi ε).bind fun ds ε1 => (fLcGo gf tt fe vs ds [] ε1).bind fun acc ε2 => .ok (.val (.list acc)) ε2
def fLcO (wi : FTI) (gf : GF) (tt : FTT) (fe : FT) (vs : List Nat) : FT := fun ε => (wi ε).bind fun ds ε1 => (fLcGo gf tt fe vs ds [] ε1).bind fun acc ε2 => .ok (.own (.lst acc)) ε2
def fYes : FTT := fun ε => .ok true ε
theorem lcGo_up (T : TGc vs gd gf) {δ : DSt} {μ : Mu} {ε : FSt} (m : Mt δ μ ε) {D : Addr} (hD : μ D = none) {fin : List PyData → Mu → Prop} : ∀ (ds acc : List PyData) {μc : Mu} {εc : FSt}, TrE δ μ ε μc εc → μc D = some (.lst acc) →
    (∃ acc' ε', fLcGo gf tt fe vs ds acc εc = .ok acc' ε' ∧ ∀ μ', TrE δ μ ε μ' ε' → μ' D = some (.lst acc') → fin acc' μ') → lcGo gd (upFT tt) (upF fe) (wipeD δ vs) D fin ds acc μc
  | [], acc, μc, εc, t, hd, ⟨acc', ε', e, h⟩ => by
    cases e
    exact h _ t hd
  | d :: ds, acc, μc, εc, t, hd, ⟨acc', ε', e, h⟩ => by
    unfold fLcGo at e
    unfold lcGo
    cases e1 : gf d (wipeF εc vs) with
    | none => simp only [e1] at e; cases e
    | some ε1 =>
      simp only [e1] at e
      obtain ⟨δ2, m2, o, hk⟩ := T.ok t.mt e1
      have nD : ¬ Adr δ2 ε1 D := fun ⟨j, h1, h2⟩ => by
        have hj : j ∉ vs := fun z => o.ins j z h1
        rw [(o.out j hj).1] at h2
        have : isC εc j := by
          have e : getC ε1 j = getC εc j := by unfold getC; rw [(o.out j hj).2]
          unfold isC at h1 ⊢
          rw [← e]; exact h1
        obtain ⟨c, hc⟩ := m.adr (t.kd.adr.mpr ⟨j, this, h2⟩)
        rw [hD] at hc; cases hc
      refine hk _ ⟨ε1, m2, ?_⟩
      cases e2 : tt ε1 with
      | no => rw [e2] at e; cases e
      | ex _ _ => rw [e2] at e; cases e
      | ok b ε2 =>
        rw [e2, R.bind_ok] at e
        intro b' μ3 t3 eb
        subst eb
        cases b' with
        | false =>
          rw [if_neg Bool.false_ne_true] at e ⊢
          exact ⟨t3.fr D _ hd nD, lcGo_up T m hD ds acc (o.back t t3) (t3.fr D _ hd nD) ⟨acc', ε', e, h⟩⟩
        | true =>
          rw [if_pos rfl] at e ⊢
          refine ⟨ε2, t3.mt, ?_⟩
          cases e4 : fe ε2 with
          | no => rw [e4] at e; cases e
          | ex _ _ => rw [e4] at e; cases e
          | ok y ε3 =>
            rw [e4, R.bind_ok] at e
            intro v μ4 t4 rf
            have t34 := t3.trans t4
            have h4 := t34.fr D _ hd nD
            cases y with
            | ref i => cases e
            | own c => cases e
            | val x =>
              cases (show v = .d x from rf)
              have e : (if acc.length < 1000000 then fLcGo gf tt fe vs ds (acc ++ [x]) (restF εc ε3 vs) else .no) = .ok acc' ε' := e
              split at e
              · next hl =>
                exact ⟨h4, hl, lcGo_up T m hD ds (acc ++ [x]) ((o.back t t34).over m hD) put_same ⟨acc', ε', e, h⟩⟩
              · cases e
theorem up_fLc (T : TGc vs gd gf) : ∀ δ μ Q, upF (fLc wi gf tt fe vs) δ μ Q → dLc (upFI wi) gd (upFT tt) (upF fe) vs δ μ Q := fun δ μ Q ⟨ε, m, h⟩ => by
  refine ⟨ε, m, ?_⟩
  unfold fLc at h
  cases e : wi ε with
  | no => rw [e] at h; exact h.elim
  | ex _ _ => rw [e] at h; exact h.elim
  | ok ds ε1 =>
    rw [e, R.bind_ok] at h
    intro v μ1 t p D hD
    subst p
    cases e2 : fLcGo gf tt fe vs v [] ε1 with
    | no => rw [e2] at h; exact h.elim
    | ex _ _ => rw [e2] at h; exact h.elim
    | ok acc ε2 =>
      rw [e2, R.bind_ok] at h
      have h0 : μ D = none := t.fresh m hD
      refine lcGo_up T m h0 v [] (t.over m h0) put_same ⟨acc, ε2, e2, fun μ' t' hd => ?_⟩
      exact h _ _ (t'.drop m h0) rfl
theorem up_fLcO (T : TGc vs gd gf) : ∀ δ μ Q, upF (fLcO wi gf tt fe vs) δ μ Q → dLcC (upFI wi) gd (upFT tt) (upF fe) vs δ μ Q := fun δ μ Q ⟨ε, m, h⟩ => by
  refine ⟨ε, m, ?_⟩
  unfold fLcO at h
  cases e : wi ε with
  | no => rw [e] at h; exact h.elim
  | ex _ _ => rw [e] at h; exact h.elim
  | ok ds ε1 =>
    rw [e, R.bind_ok] at h
    intro v μ1 t p D hD
    subst p
    cases e2 : fLcGo gf tt fe vs v [] ε1 with
    | no => rw [e2] at h; exact h.elim
    | ex _ _ => rw [e2] at h; exact h.elim
    | ok acc ε2 =>
      rw [e2, R.bind_ok] at h
      have h0 : μ D = none := t.fresh m hD
      refine lcGo_up T m h0 v [] (t.over m h0) put_same ⟨acc, ε2, e2, fun μ' t' hd => ?_⟩
      exact h _ _ t' ⟨D, rfl, hd, h0⟩
theorem ft_nil : DTs X [] (upFT fYes) := ⟨fun pins s σ H Q I ⟨δ, μ, Qd, rs, rm, ⟨ε, m, q⟩, w⟩ => (t_nil (X := X)).run pins s σ H Q I ⟨δ, μ, Qd, rs, rm, q true μ (.refl m) rfl, w⟩⟩
theorem ft_one {c : Expr} {t : FTT} (h : FC X c t) : DTs X [c] (upFT t) := t_one h
theorem f_lc {bb : Bool} (hc : X.calm = true) (hN : X.N.Nodup) (hi : FI bb X tg iter wi) (ok : BlkOk X.N X.env.scope scope own) (G : CompG bb X.K vs g gd) (T : TGc vs gd gf)
    (hg : ∀ (s : Shared) (H : Hp) (C : Addr) (cl : List (Str × Addr)) (fp : List Addr), PG (X.blk s H scope (compEnvC scope cl C X.env) fp) tg g)
    (ht : ∀ (s : Shared) (H : Hp) (C : Addr) (cl : List (Str × Addr)) (fp : List Addr), DTs (X.blk s H scope (compEnvC scope cl C X.env) fp) ifs (upFT tt))
    (he : ∀ (s : Shared) (H : Hp) (C : Addr) (cl : List (Str × Addr)) (fp : List Addr), FE (X.blk s H scope (compEnvC scope cl C X.env) fp) elt fe)
    (hv : own.map (·.2) = vs := by rfl) (hs : ∀ (x : Value), foldedSetIterable iter X.env x = pure x := by intro _; rfl) : FE X (.ListComp elt [⟨tg, iter, ifs, 0⟩] scope pos) (fLc wi gf tt fe vs) :=
  d_imp (d_lcV hc hN hi ok G hg ht he hv hs) (up_fLc T)
theorem f_lcO {bb : Bool} (hc : X.calm = true) (hN : X.N.Nodup) (hi : FI bb X tg iter wi) (ok : BlkOk X.N X.env.scope scope own) (G : CompG bb X.K vs g gd) (T : TGc vs gd gf)
    (hg : ∀ (s : Shared) (H : Hp) (C : Addr) (cl : List (Str × Addr)) (fp : List Addr), PG (X.blk s H scope (compEnvC scope cl C X.env) fp) tg g)
    (ht : ∀ (s : Shared) (H : Hp) (C : Addr) (cl : List (Str × Addr)) (fp : List Addr), DTs (X.blk s H scope (compEnvC scope cl C X.env) fp) ifs (upFT tt))
    (he : ∀ (s : Shared) (H : Hp) (C : Addr) (cl : List (Str × Addr)) (fp : List Addr), FE (X.blk s H scope (compEnvC scope cl C X.env) fp) elt fe)
    (hv : own.map (·.2) = vs := by rfl) (hs : ∀ (x : Value), foldedSetIterable iter X.env x = pure x := by intro _; rfl) : FE X (.ListComp elt [⟨tg, iter, ifs, 0⟩] scope pos) (fLcO wi gf tt fe vs) :=
  d_imp (d_lcCV hc hN hi ok G hg ht he hv hs) (up_fLcO T)
/-- y = [..], as data -/
theorem fs_setLc {bb : Bool} {i : Nat} {y : Str} {py spos : Pos} (hc : X.calm = true) (hN : X.N.Nodup) (hy : X.N[i]? = some y) (hyl : X.env.scope.names.lookup y = some .local) (hsw : swapsWith (.ListComp elt [⟨tg, iter, ifs, 0⟩] scope pos) (some (.Name y py)) spos.line X.env = pure true)
    (hi : FI bb X tg iter wi) (ok : BlkOk X.N X.env.scope scope own) (G : CompG bb X.K vs g gd) (T : TGc vs gd gf)
    (hg : ∀ (s : Shared) (H : Hp) (C : Addr) (cl : List (Str × Addr)) (fp : List Addr), PG (X.blk s H scope (compEnvC scope cl C X.env) fp) tg g)
    (ht : ∀ (s : Shared) (H : Hp) (C : Addr) (cl : List (Str × Addr)) (fp : List Addr), DTs (X.blk s H scope (compEnvC scope cl C X.env) fp) ifs (upFT tt))
    (he : ∀ (s : Shared) (H : Hp) (C : Addr) (cl : List (Str × Addr)) (fp : List Addr), FE (X.blk s H scope (compEnvC scope cl C X.env) fp) elt fe)
    (hv : own.map (·.2) = vs := by rfl) (hs : ∀ (x : Value), foldedSetIterable iter X.env x = pure x := by intro _; rfl) : FSt1 X (.Assign [.Name y py] (.ListComp elt [⟨tg, iter, ifs, 0⟩] scope pos) spos) (fsAsg i (fLc wi gf tt fe vs)) :=
  s_imp (s_setLcV hc hN hy hyl hsw hi ok G hg ht he hv hs) fun D δ μ ⟨ε, m, h⟩ => up_fLc T δ μ _ (useSE m h fun r ε1 v μ1 t p h1 => setR_fit m t p h1)
/-- y = [..], to be changed -/
theorem s_setLcCV {bb : Bool} {te : DT} {tt : DTT} {wi : DTI} {i : Nat} {y : Str} {py spos : Pos} (hc : X.calm = true) (hN : X.N.Nodup) (hy : X.N[i]? = some y) (hyl : X.env.scope.names.lookup y = some .local) (hsw : swapsWith (.ListComp elt [⟨tg, iter, ifs, 0⟩] scope pos) (some (.Name y py)) spos.line X.env = pure true)
    (hi : DI bb X tg iter wi) (ok : BlkOk X.N X.env.scope scope own) (G : CompG bb X.K vs g gd)
    (hg : ∀ (s : Shared) (H : Hp) (C : Addr) (cl : List (Str × Addr)) (fp : List Addr), PG (X.blk s H scope (compEnvC scope cl C X.env) fp) tg g)
    (ht : ∀ (s : Shared) (H : Hp) (C : Addr) (cl : List (Str × Addr)) (fp : List Addr), DTs (X.blk s H scope (compEnvC scope cl C X.env) fp) ifs tt)
    (he : ∀ (s : Shared) (H : Hp) (C : Addr) (cl : List (Str × Addr)) (fp : List Addr), DE (X.blk s H scope (compEnvC scope cl C X.env) fp) elt te)
    (hv : own.map (·.2) = vs := by rfl) (hs : ∀ (x : Value), foldedSetIterable iter X.env x = pure x := by intro _; rfl) : DS X (.Assign [.Name y py] (.ListComp elt [⟨tg, iter, ifs, 0⟩] scope pos) spos) (sAsg (dLcC wi gd tt te vs) (gdName i)) := by
  subst hv
  exact ps_imp (ps_setLc hc hN hy hyl hsw hi ok hg ht he hs) fun D' σ H ⟨δ, μ, Dd, rs, rm, q, w⟩ => ⟨δ, μ, _, rs, rm, q, fun ds μ1 H1 J e1 m1 wk q1 D hD => by
    refine lc_up (fin := fun acc μ' => Dd.nx (δ.set i (some (.cell D))) μ') (Q := fun v H' => D'.nx (σ.set i (some v)) H') G (rs.mono e1) m1 wk hD (q1 D (m1.free hD)) fun acc μ' H' e2 m2 hd qq => ?_
    have e3 := e1.trans e2
    exact w.nx _ μ' _ H' e3 m2 ((rs.mono e3).set (d := .cell D) rfl i) qq⟩
theorem fs_setLcO {bb : Bool} {i : Nat} {y : Str} {py spos : Pos} (hc : X.calm = true) (hN : X.N.Nodup) (hy : X.N[i]? = some y) (hyl : X.env.scope.names.lookup y = some .local) (hsw : swapsWith (.ListComp elt [⟨tg, iter, ifs, 0⟩] scope pos) (some (.Name y py)) spos.line X.env = pure true)
    (hi : FI bb X tg iter wi) (ok : BlkOk X.N X.env.scope scope own) (G : CompG bb X.K vs g gd) (T : TGc vs gd gf)
    (hg : ∀ (s : Shared) (H : Hp) (C : Addr) (cl : List (Str × Addr)) (fp : List Addr), PG (X.blk s H scope (compEnvC scope cl C X.env) fp) tg g)
    (ht : ∀ (s : Shared) (H : Hp) (C : Addr) (cl : List (Str × Addr)) (fp : List Addr), DTs (X.blk s H scope (compEnvC scope cl C X.env) fp) ifs (upFT tt))
    (he : ∀ (s : Shared) (H : Hp) (C : Addr) (cl : List (Str × Addr)) (fp : List Addr), FE (X.blk s H scope (compEnvC scope cl C X.env) fp) elt fe)
    (hv : own.map (·.2) = vs := by rfl) (hs : ∀ (x : Value), foldedSetIterable iter X.env x = pure x := by intro _; rfl) : FSt1 X (.Assign [.Name y py] (.ListComp elt [⟨tg, iter, ifs, 0⟩] scope pos) spos) (fsAsg i (fLcO wi gf tt fe vs)) :=
  s_imp (s_setLcCV hc hN hy hyl hsw hi ok G hg ht he hv hs) fun D δ μ ⟨ε, m, h⟩ => up_fLcO T δ μ _ (useSE m h fun r ε1 v μ1 t p h1 => setR_fit m t p h1)
end
end FL

namespace FL
open PySem PySem.Spec PyProof.Rows L2 DL
/-- what a call tells: a result, and the borrowed containers then -/
inductive FO where
  | no
  | ok (r : FR) (bs : List Cell)
  | ex (e : Exc) (bs : List Cell)
abbrev Fn := List FV → FO
/-- the borrowed ones among the first slots -/
def bors : List FV → FSt → Option (List Cell)
  | [], _ => some []
  | .d _ :: vs, _ :: ε => bors vs ε
  | .b _ :: vs, some (.b c) :: ε => (bors vs ε).map (c :: ·)
  | _, _ => none
def fin (vs : List FV) : R Flow → FO
  | .ok (.rt (.val x)) ε => match bors vs ε with
    | some bs => .ok (.val x) bs
    | none => .no
  | .ok (.rt (.own c)) ε => match bors vs ε with
    | some bs => .ok (.own c) bs
    | none => .no
  | .ok (.rt (.ref i)) ε => match ε[i]?, bors vs ε with
    | some (some (.c c)), some bs => .ok (.own c) bs
    | _, _ => .no
  | .ok .nx ε => match bors vs ε with
    | some bs => .ok (.val .none) bs
    | none => .no
  | _ => .no
def startF (n : Nat) (vs : List FV) : FSt := vs.map some ++ List.replicate (n - vs.length) none
def runF (n : Nat) (f : FS) : Fn := fun vs => fin vs (f (startF n vs))
def Arg1 (μ : Mu) (d : DV) : FV → Prop
  | .d x => d = .d x
  | .b c => ∃ p, d = .cell p ∧ μ p = some c
  | .c _ => False
def Back (μ' : Mu) : List DV → List Cell → Prop
  | [], _ => True
  | .d _ :: ds, bs => Back μ' ds bs
  | .cell p :: ds, b :: bs => μ' p = some b ∧ Back μ' ds bs
  | .cell _ :: _, [] => False
def Apart (ds : List DV) : Prop := ∀ (i j : Nat) (p : Addr), ds[i]? = some (DV.cell p) → ds[j]? = some (DV.cell p) → i = j
def OutR (μ μ' : Mu) : FR → DV → Prop
  | .val x, v => v = DV.d x
  | .own c, v => ∃ p, v = DV.cell p ∧ μ' p = some c ∧ μ p = none
  | .ref _, _ => False
structure Out (μ : Mu) (ds : List DV) (bs : List Cell) (μ' : Mu) (r : FR) (v : DV) : Prop where
  fr : ∀ b c, μ b = some c → (∀ i : Nat, ds[i]? ≠ some (DV.cell b)) → μ' b = some c
  bk : Back μ' ds bs
  rs : OutR μ μ' r v
def spR (μ : Mu) (ds : List DV) (Q : DK) : FO → Prop
  | .ok r bs => ∀ v μ', Out μ ds bs μ' r v → Q v μ'
  | _ => False
def spF (F : Fn) (n : Nat) : DSp := fun ds μ Q => ds.length = n ∧ ∃ vs, PySem.Paired (fun d v => Arg1 μ d v) ds vs ∧ Apart ds ∧ spR μ ds Q (F vs)
theorem startF_get {n : Nat} {vs : List FV} {i : Nat} {x : FV} (h : (startF n vs)[i]? = some (some x)) : vs[i]? = some x := by
  unfold startF at h
  by_cases hi : i < vs.length
  · rw [List.getElem?_append_left (by simpa using hi), List.getElem?_map, Option.map_eq_some_iff] at h
    obtain ⟨a, h1, h2⟩ := h
    cases h2; exact h1
  · rw [List.getElem?_append_right (by simpa using hi), List.getElem?_replicate] at h
    split at h <;> cases h
theorem startF_of {n : Nat} {vs : List FV} {i : Nat} {x : FV} (h : vs[i]? = some x) : (startF n vs)[i]? = some (some x) := by
  have hi := (List.getElem?_eq_some_iff.mp h).1
  unfold startF
  rw [List.getElem?_append_left (by simpa using hi), List.getElem?_map, h]; rfl
theorem dstart_of {n : Nat} {ds : List DV} {i : Nat} {x : DV} (h : ds[i]? = some x) : (dstart n ds)[i]? = some (some x) := by
  have hi := (List.getElem?_eq_some_iff.mp h).1
  unfold dstart
  rw [List.getElem?_append_left (by simpa using hi), List.getElem?_map, h]; rfl
theorem dstart_get {n : Nat} {ds : List DV} {i : Nat} {x : DV} (h : (dstart n ds)[i]? = some (some x)) : ds[i]? = some x := by
  unfold dstart at h
  by_cases hi : i < ds.length
  · rw [List.getElem?_append_left (by simpa using hi), List.getElem?_map, Option.map_eq_some_iff] at h
    obtain ⟨a, h1, h2⟩ := h
    cases h2; exact h1
  · rw [List.getElem?_append_right (by simpa using hi), List.getElem?_replicate] at h
    split at h <;> cases h
theorem paired_get {μ : Mu} : ∀ {ds : List DV} {vs : List FV}, PySem.Paired (fun d v => Arg1 μ d v) ds vs → ∀ {i : Nat} {v : FV}, vs[i]? = some v → ∃ d, ds[i]? = some d ∧ Arg1 μ d v
  | _, _, .nil, i, v, h => by simp at h
  | _, _, .cons h t, 0, v, e => by simp at e; subst e; exact ⟨_, rfl, h⟩
  | _, _, .cons h t, i + 1, v, e => by
    obtain ⟨d, h1, h2⟩ := paired_get t (i := i) (by simpa using e)
    exact ⟨d, by simpa using h1, h2⟩
theorem Mt.start {μ : Mu} {n : Nat} {ds : List DV} {vs : List FV} (h : PySem.Paired (fun d v => Arg1 μ d v) ds vs) (ap : Apart ds) : Mt (dstart n ds) μ (startF n vs) := by
  have hl : ds.length = vs.length := Paired.length h
  refine ⟨by simp [dstart, startF, hl], fun i x e => ?_, fun i c e => ?_, fun i j p hi hj h1 h2 => ap i j p (dstart_get h1) (dstart_get h2)⟩
  · obtain ⟨d, h1, h2⟩ := paired_get h (startF_get e)
    cases (show d = .d x from h2)
    exact dstart_of h1
  · rcases getC_some e with e | e
    · obtain ⟨d, h1, h2⟩ := paired_get h (startF_get e)
      exact h2.elim
    · obtain ⟨d, h1, p, rfl, h3⟩ := paired_get h (startF_get e)
      exact ⟨p, dstart_of h1, h3⟩
theorem bors_ok {μ μ' : Mu} : ∀ {vs : List FV} {ds : List DV} {ε : FSt} {bs : List Cell}, PySem.Paired (fun d v => Arg1 μ d v) ds vs → (∀ (i : Nat) (c : Cell), vs[i]? = some (.b c) → ∃ c' p, ε[i]? = some (some (.b c')) ∧ ds[i]? = some (.cell p) ∧ μ' p = some c') → bors vs ε = some bs → Back μ' ds bs
  | [], [], _, _, _, _, h => by trivial
  | [], _ :: _, _, _, h, _, _ => by cases h
  | _ :: _, [], _, _, h, _, _ => by cases h
  | .d x :: vs, d :: ds, ε, bs, .cons a t, w, h => by
    cases ε with
    | nil => cases h
    | cons e ε =>
      cases (show d = .d x from a)
      show Back μ' ds bs
      exact bors_ok (vs := vs) t (fun i c hc => by simpa using w (i + 1) c (by simpa using hc)) h
  | .c x :: vs, d :: ds, ε, bs, .cons a t, w, h => a.elim
  | .b x :: vs, d :: ds, ε, bs, .cons a t, w, h => by
    obtain ⟨c', p, h1, h2, h3⟩ := w 0 x rfl
    cases ε with
    | nil => cases h1
    | cons e ε =>
      simp only [List.getElem?_cons_zero, Option.some.injEq] at h1 h2
      subst h1 h2
      simp only [bors, Option.map_eq_some_iff] at h
      obtain ⟨bs', h4, rfl⟩ := h
      exact ⟨h3, bors_ok (vs := vs) t (fun i c hc => by simpa using w (i + 1) c (by simpa using hc)) h4⟩
theorem run_up {f : FS} {n k : Nat} : ∀ ds μ Q, spF (runF n f) k ds μ Q → upFS f { nx := fun _ μ' => Q (.d .none) μ', rt := Q } (dstart n ds) μ := fun ds μ Q ⟨hk, vs, pr, ap, h⟩ => by
  have m : Mt (dstart n ds) μ (startF n vs) := Mt.start pr ap
  refine ⟨startF n vs, m, ?_⟩
  unfold runF at h
  have out : ∀ {δ' μ' ε' bs r v}, Tr (dstart n ds) μ (startF n vs) δ' μ' ε' → bors vs ε' = some bs → OutR μ μ' r v → Out μ ds bs μ' r v := fun {δ' μ' ε' bs r v} t hb hr => by
    refine ⟨fun b c hb hn => t.fr b c hb fun ⟨i, _, z⟩ => hn i (dstart_get z), bors_ok pr (fun i c hc => ?_) hb, hr⟩
    obtain ⟨⟨c', h1⟩, h2⟩ := t.bo i c (startF_of hc)
    obtain ⟨d, h3, p, rfl, h4⟩ := paired_get pr hc
    obtain ⟨q, h5, h6⟩ := t.mt.cel i c' (getC_b h1)
    rw [h2, dstart_of h3] at h5
    cases h5
    exact ⟨c', p, h1, h3, h6⟩
  have nown : ∀ p, ¬ OwnA (dstart n ds) (startF n vs) p := fun p ⟨i, c, h1, h2⟩ => by
    obtain ⟨d, _, h3⟩ := paired_get pr (startF_get h1)
    exact h3
  cases e : f (startF n vs) with
  | no => rw [e] at h; exact h.elim
  | ex _ _ => rw [e] at h; exact h.elim
  | ok fl ε' =>
    rw [e] at h
    cases fl with
    | bk => exact h.elim
    | ct => exact h.elim
    | nx =>
      unfold fin at h
      intro δ' μ' t
      cases eb : bors vs ε' with
      | none => simp only [eb] at h; exact h.elim
      | some bs =>
        simp only [eb] at h
        exact h _ _ (out t eb rfl)
    | rt r =>
      intro δ' μ' v t rr
      cases r with
      | val x =>
        unfold fin at h
        cases eb : bors vs ε' with
        | none => simp only [eb] at h; exact h.elim
        | some bs =>
          simp only [eb] at h
          exact h _ _ (out t eb rr)
      | own c =>
        unfold fin at h
        cases eb : bors vs ε' with
        | none => simp only [eb] at h; exact h.elim
        | some bs =>
          simp only [eb] at h
          obtain ⟨p, h1, h2, h3⟩ := rr
          exact h _ _ (out t eb ⟨p, h1, h2, h3.resolve_right (nown p)⟩)
      | ref i =>
        unfold fin at h
        cases eb : bors vs ε' with
        | none =>
          simp only [eb] at h
          split at h
          · next h1 => cases h1
          · exact h.elim
        | some bs =>
          simp only [eb] at h
          split at h
          · next c bs' h2 h3 =>
            cases h3
            obtain ⟨hc, p, h4, h5⟩ := rr
            obtain ⟨q, h6, h7⟩ := t.mt.cel i c (getC_c h2)
            rw [h5] at h6
            cases h6
            refine h _ _ (out t eb ⟨p, h4, h7, ?_⟩)
            exact (t.nw p ⟨i, c, h2, h5⟩).resolve_left (nown p)
          · exact h.elim
def refsOf : List FR → List Nat
  | [] => []
  | .ref i :: rs => i :: refsOf rs
  | _ :: rs => refsOf rs
def argVs (ε : FSt) : List FR → Option (List FV)
  | [] => some []
  | .val x :: rs => (argVs ε rs).map (.d x :: ·)
  | .ref i :: rs => (getC ε i).bind fun c => (argVs ε rs).map (.b c :: ·)
  | .own _ :: _ => none
def putBack : List FR → List Cell → FSt → Option FSt
  | [], _, ε => some ε
  | .val _ :: rs, bs, ε => putBack rs bs ε
  | .ref i :: rs, b :: bs, ε => putBack rs bs (setC ε i b)
  | _, _, _ => none
def callR (F : Fn) (rs : List FR) (ε : FSt) : R FR := if (refsOf rs).Nodup then match argVs ε rs with
    | some vs => match F vs with
      | .ok r bs => match r, putBack rs bs ε with
        | .val x, some ε2 => .ok (.val x) ε2
        | .own c, some ε2 => .ok (.own c) ε2
        | _, _ => .no
      | _ => .no
    | none => .no
  else .no
def fCall (F : Fn) (fr : FTA) : FT := fun ε => (fr ε).bind (callR F)
def putsM : List FR → List DV → List Cell → Mu → Mu
  | .ref _ :: rs, .cell p :: ds, b :: bs, μ => putsM rs ds bs (put μ p b)
  | .val _ :: rs, _ :: ds, bs, μ => putsM rs ds bs μ
  | _, _, _, μ => μ
section
variable {δ : DSt} {μ μ1 : Mu} {ε ε1 : FSt}
theorem call_tr {μ0 : Mu} {ε0 : FSt} : ∀ {rs : List FR} {ds : List DV} {bs : List Cell} {μa : Mu} {εa ε2 : FSt}, TrE δ μ ε μa εa → PySem.Paired (fun r v => RF δ μ ε0 μ0 r v) rs ds → Kd ε0 εa → putBack rs bs εa = some ε2 → TrE δ μ ε (putsM rs ds bs μa) ε2
  | [], _, bs, μa, εa, ε2, t, .nil, k, h => by
    unfold putBack at h; cases h; unfold putsM; exact t
  | .val x :: rs, _, bs, μa, εa, ε2, t, .cons a p, k, h => by
    unfold putBack at h; unfold putsM; exact call_tr t p k h
  | .own x :: rs, _, bs, μa, εa, ε2, t, .cons a p, k, h => by
    cases bs <;> (unfold putBack at h; cases h)
  | .ref i :: rs, _, [], μa, εa, ε2, t, .cons a p, k, h => by
    unfold putBack at h; cases h
  | .ref i :: rs, _, b :: bs, μa, εa, ε2, t, .cons (b := d) a p, k, h => by
    unfold putBack at h
    obtain ⟨hc, q, rfl, hq⟩ := a
    unfold putsM
    obtain ⟨c, hcc⟩ := isC_some (k.isC.mp hc)
    have t2 := t.write (c' := b) hcc hq
    refine call_tr t2 p (k.trans ?_) h
    have t3 := (TrE.refl t.mt).write (c' := b) hcc hq
    exact t3.kd
theorem putsM_out : ∀ {rs : List FR} {ds : List DV} {bs : List Cell} {μa : Mu} {b : Addr}, (∀ i : Nat, ds[i]? ≠ some (DV.cell b)) → putsM rs ds bs μa b = μa b
  | [], ds, bs, μa, b, h => by cases ds <;> (try cases bs) <;> rfl
  | .val x :: rs, [], bs, μa, b, h => rfl
  | .val x :: rs, d :: ds, bs, μa, b, h => by unfold putsM; exact putsM_out fun i => h (i + 1)
  | .own x :: rs, ds, bs, μa, b, h => by cases ds <;> rfl
  | .ref i :: rs, [], bs, μa, b, h => rfl
  | .ref i :: rs, .d x :: ds, bs, μa, b, h => rfl
  | .ref i :: rs, .cell p :: ds, [], μa, b, h => rfl
  | .ref i :: rs, .cell p :: ds, c :: bs, μa, b, h => by
    unfold putsM
    rw [putsM_out fun i => h (i + 1)]
    exact put_ne fun e => h 0 (by rw [e]; rfl)
theorem putsM_in {μ' : Mu} : ∀ {rs : List FR} {ds : List DV} {bs : List Cell} {μa : Mu} {j : Nat} {b : Addr}, PySem.Paired (fun r v => match r with | .val x => v = .d x | .ref _ => ∃ p, v = .cell p | .own _ => False) rs ds → Apart ds → Back μ' ds bs → ds[j]? = some (.cell b) → putsM rs ds bs μa b = μ' b
  | [], _, _, _, j, b, .nil, ap, bk, h => by simp at h
  | .own x :: rs, _, _, _, j, b, .cons a p, ap, bk, h => a.elim
  | .val x :: rs, _, bs, _, j, b, .cons (b := d) a p, ap, bk, h => by
    cases (show d = .d x from a)
    unfold putsM
    cases j with
    | zero => simp at h
    | succ j => exact putsM_in p (fun i k q h1 h2 => by have := ap (i + 1) (k + 1) q h1 h2; omega) bk h
  | .ref i :: rs, _, bs, _, j, b, .cons (b := d) a p, ap, bk, h => by
    obtain ⟨q, rfl⟩ := a
    cases bs with
    | nil => exact bk.elim
    | cons c bs =>
      unfold putsM
      have ap' : Apart _ := fun i k q h1 h2 => by have := ap (i + 1) (k + 1) q h1 h2; omega
      cases j with
      | zero =>
        simp only [List.getElem?_cons_zero, Option.some.injEq, DV.cell.injEq] at h
        subst h
        rw [putsM_out fun i hi => by have := ap 0 (i + 1) q rfl hi; omega, put_same]
        exact bk.1.symm
      | succ j => exact putsM_in p ap' bk.2 h
theorem TrE.swap {μ' : Mu} (t : TrE δ μ ε μ1 ε1) (h1 : ∀ p, Adr δ ε1 p → μ' p = μ1 p) (h2 : ∀ b c, μ b = some c → ¬ Adr δ ε b → μ' b = some c) : TrE δ μ ε μ' ε1 :=
  ⟨⟨t.mt.len, t.mt.dat, fun i c h => by
    obtain ⟨p, h3, h4⟩ := t.mt.cel i c h
    exact ⟨p, h3, by rw [h1 p ⟨i, isC_of h, h3⟩]; exact h4⟩, t.mt.apart⟩, h2, t.kd⟩
theorem argVs_paired : ∀ {rs : List FR} {ds : List DV} {vs : List FV}, Mt δ μ1 ε1 → PySem.Paired (fun r v => RF δ μ ε1 μ1 r v) rs ds → argVs ε1 rs = some vs → PySem.Paired (fun d v => Arg1 μ1 d v) ds vs
  | [], _, _, m, .nil, h => by cases h; exact .nil
  | .own c :: rs, _, _, m, .cons a p, h => by cases h
  | .val x :: rs, _, _, m, .cons a p, h => by
    simp only [argVs, Option.map_eq_some_iff] at h
    obtain ⟨vs, h1, rfl⟩ := h
    exact .cons a (argVs_paired m p h1)
  | .ref i :: rs, _, _, m, .cons a p, h => by
    simp only [argVs, Option.bind_eq_some_iff, Option.map_eq_some_iff] at h
    obtain ⟨c, h0, vs, h1, rfl⟩ := h
    obtain ⟨hc, q, rfl, hq⟩ := a
    obtain ⟨q', h3, h4⟩ := m.cel i c h0
    rw [hq] at h3; cases h3
    exact .cons ⟨q, rfl, h4⟩ (argVs_paired m p h1)
theorem refs_mem : ∀ {rs : List FR} {j i : Nat}, rs[j]? = some (.ref i) → i ∈ refsOf rs
  | [], j, i, h => by simp at h
  | r :: rs, 0, i, h => by simp at h; subst h; simp [refsOf]
  | r :: rs, j + 1, i, h => by
    have := refs_mem (rs := rs) (j := j) (by simpa using h)
    cases r <;> simp [refsOf, this]
theorem refs_nodup : ∀ {rs : List FR} {j k i : Nat}, (refsOf rs).Nodup → rs[j]? = some (.ref i) → rs[k]? = some (.ref i) → j = k
  | [], j, k, i, n, h, g => by simp at h
  | r :: rs, 0, 0, i, n, h, g => rfl
  | r :: rs, 0, k + 1, i, n, h, g => by
    simp at h; subst h
    have := refs_mem (rs := rs) (j := k) (by simpa using g)
    simp [refsOf] at n
    exact (n.1 this).elim
  | r :: rs, j + 1, 0, i, n, h, g => by
    simp at g; subst g
    have := refs_mem (rs := rs) (j := j) (by simpa using h)
    simp [refsOf] at n
    exact (n.1 this).elim
  | r :: rs, j + 1, k + 1, i, n, h, g => by
    have n' : (refsOf rs).Nodup := by cases r <;> simp [refsOf] at n <;> first | exact n | exact n.2
    have := refs_nodup (rs := rs) (j := j) (k := k) n' (by simpa using h) (by simpa using g)
    omega
theorem paired_at {α β : Type} {F : α → β → Prop} : ∀ {l : List α} {r : List β}, PySem.Paired F l r → ∀ {i : Nat} {b : β}, r[i]? = some b → ∃ a, l[i]? = some a ∧ F a b
  | _, _, .nil, i, v, h => by simp at h
  | _, _, .cons h t, 0, v, e => by simp at e; subst e; exact ⟨_, rfl, h⟩
  | _, _, .cons h t, i + 1, v, e => by
    obtain ⟨d, h1, h2⟩ := paired_at t (i := i) (by simpa using e)
    exact ⟨d, by simpa using h1, h2⟩
theorem noown : ∀ {rs : List FR} {ds : List DV} {vs : List FV}, argVs ε1 rs = some vs → PySem.Paired (fun r v => RF δ μ ε1 μ1 r v) rs ds → PySem.Paired (fun r v => match r with | .val x => v = .d x | .ref _ => ∃ p, v = .cell p | .own _ => False) rs ds
  | [], _, _, h, .nil => .nil
  | .own c :: rs, _, _, h, .cons a p => by cases h
  | .val x :: rs, _, _, h, .cons a p => by
    simp only [argVs, Option.map_eq_some_iff] at h
    obtain ⟨vs, h1, rfl⟩ := h
    exact .cons a (noown h1 p)
  | .ref i :: rs, _, _, h, .cons a p => by
    simp only [argVs, Option.bind_eq_some_iff, Option.map_eq_some_iff] at h
    obtain ⟨c, h0, vs, h1, rfl⟩ := h
    obtain ⟨hc, q, rfl, hq⟩ := a
    exact .cons ⟨q, rfl⟩ (noown h1 p)
theorem call_core {F : Fn} {n : Nat} {rs : List FR} {ds : List DV} {Q : DV → Mu → Prop} (m : Mt δ μ ε) (t : TrE δ μ ε μ1 ε1) (rf : PySem.Paired (fun r v => RF δ μ ε1 μ1 r v) rs ds) (hn : rs.length = n) (h : fit (fun r v μ' ε' => RF δ μ ε' μ' r v) δ μ ε Q (callR F rs ε1)) : spF F n ds μ1 Q := by
  unfold callR at h
  split at h
  · next nd =>
    split at h
    · next vs ha =>
      have pr := argVs_paired t.mt rf ha
      have ap : Apart ds := fun i j p h1 h2 => by
        obtain ⟨r1, e1, f1⟩ := paired_at (noown ha rf) h1
        obtain ⟨r2, e2, f2⟩ := paired_at (noown ha rf) h2
        cases r1 with
        | val x => cases (show DV.cell p = .d x from f1)
        | own c => exact f1.elim
        | ref a =>
          cases r2 with
          | val x => cases (show DV.cell p = .d x from f2)
          | own c => exact f2.elim
          | ref b =>
            obtain ⟨r1', e1', g1⟩ := paired_at rf h1
            obtain ⟨r2', e2', g2⟩ := paired_at rf h2
            rw [e1] at e1'; cases e1'
            rw [e2] at e2'; cases e2'
            obtain ⟨c1, q1, k1, l1⟩ := g1
            obtain ⟨c2, q2, k2, l2⟩ := g2
            cases k1; cases k2
            have := t.mt.apart a b p c1 c2 l1 l2
            subst this
            exact refs_nodup nd e1 e2
      refine ⟨by rw [← Paired.length rf]; exact hn, vs, pr, ap, ?_⟩
      split at h
      · next r bs hF =>
        rw [hF]
        intro v μ' o
        have core : ∀ ε2, putBack rs bs ε1 = some ε2 → TrE δ μ ε μ' ε2 := fun ε2 h2 => by
          have t2 := call_tr t rf (.refl ε1) h2
          refine t2.swap (fun p hp => ?_) fun b c hb hn => ?_
          · by_cases hx : ∃ i : Nat, ds[i]? = some (DV.cell p)
            · obtain ⟨i, hi⟩ := hx
              exact (putsM_in (noown ha rf) ap o.bk hi).symm
            · have hx : ∀ i : Nat, ds[i]? ≠ some (DV.cell p) := fun i hi => hx ⟨i, hi⟩
              rw [putsM_out hx]
              obtain ⟨c, hc⟩ := t.mt.adr (p := p) (t.kd.adr.mp (t2.kd.adr.mpr hp))
              rw [hc]
              exact o.fr p c hc hx
          · refine o.fr b c (t.fr b c hb hn) fun i hi => hn ?_
            obtain ⟨r1, e1, f1⟩ := paired_at rf hi
            cases r1 with
            | val x => cases (show DV.cell b = .d x from f1)
            | own c =>
              obtain ⟨_, _, g⟩ := paired_at (noown ha rf) hi
              obtain ⟨r2, e2, f2⟩ := paired_at (noown ha rf) hi
              rw [e1] at e2; cases e2
              exact f2.elim
            | ref a =>
              obtain ⟨c1, q1, k1, l1⟩ := f1
              cases k1
              exact t.kd.adr.mpr ⟨a, c1, l1⟩
        have old : ∀ p, μ1 p = none → μ p = none := fun p hp => t.fresh m hp
        split at h
        · next x ε2 h2 => exact h _ _ (core ε2 h2) o.rs
        · next c ε2 h2 =>
          obtain ⟨p, k1, k2, k3⟩ := o.rs
          exact h _ _ (core ε2 h2) ⟨p, k1, k2, old p k3⟩
        · exact h.elim
      · exact h.elim
    · exact h.elim
  · exact h.elim
end
section
variable {X : Cx} {k n : Nat} {ps : List Str} {F : Fn} {x : Str} {p pos : Pos} {e : Expr} {es : List Expr} {fr : FTA} {st : Stmt}
/-- the length of the arguments told -/
structure ALen (fr : FTA) (n : Nat) : Prop where
  len : ∀ ε rs ε', fr ε = .ok rs ε' → rs.length = n
theorem alen_nil : ALen faNil 0 := ⟨fun ε rs ε' h => by cases h; rfl⟩
theorem alen_cons {fa : FT} {fr : FTA} {n : Nat} (h : ALen fr n) : ALen (faCons fa fr) (n + 1) := ⟨fun ε rs ε' e => by
  unfold faCons at e
  cases e1 : fa ε with
  | no => rw [e1] at e; cases e
  | ex _ _ => rw [e1] at e; cases e
  | ok a ε1 =>
    rw [e1, R.bind_ok] at e
    cases e2 : fr ε1 with
    | no => rw [e2] at e; cases e
    | ex _ _ => rw [e2] at e; cases e
    | ok as ε2 =>
      rw [e2, R.bind_ok] at e
      cases e
      rw [List.length_cons, h.len _ _ _ e2]⟩
theorem up_fCall (hn : ALen fr n) : ∀ δ μ Q, upF (fCall F fr) δ μ Q → dCallF (spF F n) (upFA fr) δ μ Q := fun δ μ Q ⟨ε, m, h⟩ => useA m h fun rs ε1 vs μ1 e t rf h1 => call_core m t rf (hn.len _ _ _ e) h1
theorem f_call (C : Cal X.prog X.w X.K X.mg X.base k x st ps (spF F n)) (hr : RoomG k X.A) (hg : Gl X x) (hb : ∀ f fd, Fun X.K x x st f fd → Binds X.K fd ps []) (ha : FA X (e :: es) fr) (hn : ALen fr n)
    (hdb : (x == ("__debug__" : Str)) = false := by decide) (he : starEach (e :: es) X.env = (false, eval e X.env) :: starEach es X.env := by rfl) (hpl : (backTo pos (starEach es X.env)).any (·.1) = false := by rfl) :
    FE X (.Call (.Name x p) (e :: es) [] pos) (fCall F fr) := d_imp (d_callC C hr hg hb ha hdb he hpl) (up_fCall hn)
theorem Cal.ofF {P : Program} {w : World} {K : PySem.W.Frag} {mg : Str → Option Value} {base : Heap} {N : List Str} {f : FS} (D : DefM K mg x st) (S : FnScope N ps (defScope st)) (hl : ps.length = n)
    (der : ∀ (g : Addr) (cdv : Value) (A : Around) (outer : List Env) (s : Shared) (H : Hp), RoomG k (A.deeper (envOfC x (defScope st) s.heap.objs.size g cdv)) → FSts (cxD P w K mg base N x (defScope st) g cdv A outer s H) (defBody st) f) : Cal P w K mg base (k + 1) x st ps (spF (runF N.length f) n) :=
  Cal.of D S (fun ds μ Q h => h.1.trans hl.symm) der fun ds μ Q h => run_up ds μ Q h
abbrev FKw (X : Cx) (kws : List Keyword) (f : FTA) : Prop := DKw X kws (upFA f)
theorem dk_imp {kws : List Keyword} {t t' : DTA} (h : DKw X kws t) (w : ∀ δ μ Q, t' δ μ Q → t δ μ Q) : DKw X kws t' := pk_imp h fun σ H Q ⟨δ, μ, Qd, rs, rm, q, z⟩ => ⟨δ, μ, Qd, rs, rm, w _ _ _ q, z⟩
theorem fk_nil : FKw X [] faNil := dk_imp k_nil fun δ μ Q ⟨ε, m, h⟩ => h _ _ (.refl m) .nil
variable {nm : Option Str} {kpos : Pos} {kws : List Keyword} {fe : FT}
theorem fk_cons (ha : FE X e fe) (hr : FKw X kws fr) : FKw X (⟨nm, e, kpos⟩ :: kws) (faCons fe fr) := dk_imp (k_cons ha hr) up_faCons
def fCallK (F : Fn) (g : {α : Type} → List α → List α) (fr : FTA) : FT := fun ε => (fr ε).bind fun rs ε1 => callR F (g rs) ε1
/-- a reordering of keywords -/
structure Perm (g : {α : Type} → List α → List α) (n : Nat) : Prop where
  len : ∀ {α : Type} (l : List α), l.length = n → (g l).length = n
  rel : ∀ {α β : Type} {R : α → β → Prop} {l : List α} {r : List β}, l.length = n → PySem.Paired R l r → PySem.Paired R (g l) (g r)
theorem f_callK {ks : List Str} {g : {α : Type} → List α → List α} (C : Cal X.prog X.w X.K X.mg X.base k x st ps (spF F n)) (hr : RoomG k X.A) (hg : Gl X x) (hb : ∀ f fd, Fun X.K x x st f fd → KB X.K fd ps ks g) (P : Perm g n) (ha : FKw X kws fr) (hn : ALen fr n) (hks : ks.length = n := by rfl)
    (hall : (backToKw pos (keywordEach kws X.env)).all (·.1.isSome) = true := by rfl) (hkn : (backToKw pos (keywordEach kws X.env)).filterMap (·.1) = ks := by rfl) (hdb : (x == ("__debug__" : Str)) = false := by decide)
    (hpl : ((backTo pos (starEach [] X.env)).any (·.1) || (backToKw pos (keywordEach kws X.env)).any (·.1.isNone)) = false := by rfl) :
    FE X (.Call (.Name x p) [] kws pos) (fCallK F g fr) := d_imp (d_callCK C hr hg hb ha hall hkn hdb hpl) fun δ μ Q ⟨ε, m, h⟩ => useA m h fun rs ε1 vs μ1 e t rf h1 => by
  have hl := hn.len _ _ _ e
  exact ⟨by rw [← Paired.length rf, hl, hks], call_core m t (P.rel hl rf) (P.len rs hl) h1⟩
end
def Law (F : Fn) : Prop := ∀ ns : List Int, ns.length ≤ 63 → (∀ z ∈ ns, Builtin.Int.intBits z ≤ 1048576) → F [.d (.list (ns.map .int))] = .ok (.val (.bool true)) []
theorem law_sp {F : Fn} (h : Law F) : ∀ ns : List Int, ns.length ≤ 63 → (∀ z ∈ ns, Builtin.Int.intBits z ≤ 1048576) → spF F 1 [.d (.list (ns.map .int))] (fun _ => none) (fun d _ => d = .d (.bool true)) := fun ns h1 h2 =>
  ⟨rfl, [.d (.list (ns.map .int))], .cons rfl .nil, fun i j p e _ => by
    cases i with
    | zero => simp at e
    | succ i => simp at e, by rw [h ns h1 h2]; exact fun v μ' o => o.rs⟩
end FL

namespace FL
open PySem PySem.Spec PyProof.Rows L2 DL
inductive PD (K : PySem.W.Frag) (H : Hp) : List (Key × V) → List (Key × PyData) → Prop
  | nil : PD K H [] []
  | cons {k : Key} {v : V} {d : PyData} {ks : List (Key × V)} {kvs : List (Key × PyData)} : Da K H v d → PD K H ks kvs → PD K H ((k, v) :: ks) ((k, d) :: kvs)
abbrev KVs := List (Key × PyData)
def valD (kvs : KVs) (k : Key) : Option PyData := (kvs.find? fun kv => decide (kv.1 = k)).map (·.2)
def putD (kvs : KVs) (k : Key) (d : PyData) : KVs := if (kvs.any fun kv => decide (kv.1 = k)) = true then kvs.map (fun kv => if kv.1 = k then (kv.1, d) else kv) else kvs ++ [(k, d)]
def mergeD (kvs more : KVs) : KVs := more.foldl (fun acc kv => putD acc kv.1 kv.2) kvs
def keyOf : PyData → Option Key
  | .int i => some (.inl i)
  | .str x => some (.inr x)
  | _ => none
def kvsL : List (PyData × PyData) → Option KVs
  | [] => some []
  | (k, v) :: r => (keyOf k).bind fun k => (kvsL r).map ((k, v) :: ·)
def kvsOf : PyData → Option KVs
  | .dict ps => kvsL ps
  | _ => none
theorem keyOf_kD (k : Key) : keyOf (kD k) = some k := by cases k <;> rfl
theorem kvsL_map : ∀ (kvs : KVs), kvsL (kvs.map fun p => (kD p.1, p.2)) = some kvs
  | [] => rfl
  | (k, v) :: r => by simp only [List.map_cons, kvsL, keyOf_kD, Option.bind_some, kvsL_map r, Option.map_some]
theorem kvsOf_cell (kvs : KVs) : kvsOf (cellD (.dct kvs)) = some kvs := kvsL_map kvs
section
variable {K : PySem.W.Frag} {H : Hp}
theorem PD.keys : ∀ {ks : List (Key × V)} {kvs : KVs}, PD K H ks kvs → ks.map (·.1) = kvs.map (·.1)
  | _, _, .nil => rfl
  | _, _, .cons _ t => by rw [List.map_cons, List.map_cons, t.keys]
theorem PD.len : ∀ {ks : List (Key × V)} {kvs : KVs}, PD K H ks kvs → ks.length = kvs.length
  | _, _, .nil => rfl
  | _, _, .cons _ t => by rw [List.length_cons, List.length_cons, t.len]
theorem PD.mono {H' : Hp} (e : Sm H H') : ∀ {ks : List (Key × V)} {kvs : KVs}, PD K H ks kvs → PD K H' ks kvs
  | _, _, .nil => .nil
  | _, _, .cons a t => .cons (a.mono e) (t.mono e)
theorem PD.val (k : Key) : ∀ {ks : List (Key × V)} {kvs : KVs}, PD K H ks kvs → (valV ks k = none ∧ valD kvs k = none) ∨ ∃ v d, valV ks k = some v ∧ valD kvs k = some d ∧ Da K H v d
  | _, _, .nil => .inl ⟨rfl, rfl⟩
  | _, _, .cons (k := k') (v := v) (d := d) a t => by
    by_cases e : k' = k
    · subst e
      exact .inr ⟨v, d, by simp [valV], by simp [valD], a⟩
    · rcases t.val k with ⟨h1, h2⟩ | ⟨v', d', h1, h2, h3⟩
      · exact .inl ⟨by rw [valV_neg (p := (k', v)) e]; exact h1, by unfold valD at h2 ⊢; rw [List.find?_cons, decide_eq_false e]; exact h2⟩
      · exact .inr ⟨v', d', by rw [valV_neg (p := (k', v)) e]; exact h1, by unfold valD at h2 ⊢; rw [List.find?_cons, decide_eq_false e]; exact h2, h3⟩
theorem PD.anyk (k : Key) : ∀ {ks : List (Key × V)} {kvs : KVs}, PD K H ks kvs → (ks.any fun kv => decide (kv.1 = k)) = kvs.any fun kv => decide (kv.1 = k)
  | _, _, .nil => rfl
  | _, _, .cons _ t => by rw [List.any_cons, List.any_cons, t.anyk k]
theorem PD.mapk {k : Key} {v : V} {d : PyData} (h : Da K H v d) : ∀ {ks : List (Key × V)} {kvs : KVs}, PD K H ks kvs → PD K H (ks.map fun kv => if kv.1 = k then (kv.1, v) else kv) (kvs.map fun kv => if kv.1 = k then (kv.1, d) else kv)
  | _, _, .nil => .nil
  | _, _, .cons (k := k') a t => by
    rw [List.map_cons, List.map_cons]
    by_cases e : k' = k
    · simp only [e, if_true]; exact .cons h (by simpa using t.mapk h)
    · simp only [e, if_false]; exact .cons a (by simpa using t.mapk h)
theorem PD.app : ∀ {ks ls : List (Key × V)} {kvs lvs : KVs}, PD K H ks kvs → PD K H ls lvs → PD K H (ks ++ ls) (kvs ++ lvs)
  | _, _, _, _, .nil, h => h
  | _, _, _, _, .cons a t, h => .cons a (t.app h)
theorem PD.put {ks : List (Key × V)} {kvs : KVs} (p : PD K H ks kvs) {k : Key} {v : V} {d : PyData} (h : Da K H v d) : PD K H (putK ks k v) (putD kvs k d) := by
  unfold putK putD
  rw [p.anyk k]
  split
  · exact p.mapk h
  · exact p.app (.cons h .nil)
theorem DGet.k2 {H : Hp} {a : Addr} {kvs : List (Key × V)} {k : Key} (e : Rd H a (.dK kvs)) : DGet H a (kV k) (valV kvs k) := .inl ⟨kvs, k, e, rfl, rfl⟩
end
section
variable {X : Cx} {pos apos cpos tpos : Pos} {o e f b i : Expr} {fo fe ff fi : FT} {to te tf ti : DT} {es : List Expr} {fr : FTA}
def fGet (fo fi fd : FT) : FT := fun ε => (fo ε).bind fun x ε1 => match (see ε1 x).bind kvsOf with
  | none => .no
  | some _ => (fi ε1).bind fun y ε2 => (fd ε2).bind fun z ε3 => match (see ε3 x).bind kvsOf, (see ε3 y).bind keyOf, seeV z with
    | some kvs, some k, some c => .ok (.val ((valD kvs k).getD c)) ε3
    | _, _, _ => .no
noncomputable def setK (o : FR) (k : Option PyData) (r : FR) (ε : FSt) : R Flow := match r, o, k.bind keyOf with
  | .val x, .ref i, some n => match getC ε i with
    | some (.dct kvs) => if kvs.length < 900000 then .ok .nx (setC ε i (.dct (putD kvs n x))) else .no
    | _ => .no
  | _, _, _ => .no
noncomputable def fsSetK (fo fi fe : FT) : FS := fun ε => (fe ε).bind fun r ε1 => (fo ε1).bind fun o ε2 => (fi ε2).bind fun k ε3 => setK o (see ε3 k) r ε3
end
section
variable {X : Cx} {pos p p2 pos2 : Pos} {e : Expr} {fe : FT}
end
end FL

namespace FL
open PySem PySem.Spec PyProof.Rows L2 DL
def pairsK : List PyData → Option KVs
  | [] => some []
  | .tuple [k, v] :: r => (keyOf k).bind fun k => (pairsK r).map ((k, v) :: ·)
  | _ :: _ => none
section
variable {X : Cx} {pos p : Pos} {a b e : Expr} {fa fb fe : FT} {es : List Expr} {fr : FTA}
def gDictO (a : PyData) : Option Cell := match a with
  | .tuple xs => (pairsK xs).map fun kvs => .dct (mergeD [] kvs)
  | _ => none
def fDict (fe : FT) : FT := fun ε => (fe ε).bind fun r ε1 => match (seeV r).bind gDictO with
  | some c => .ok (.own c) ε1
  | none => .no
def fIsi (T : String) (fe : FT) : FT := fUnV (fun d => some (.bool ((kitB (kindOf d) T).getD false))) fe
theorem f_isi {T : String} {xi xt : Str} {p pt : Pos} (hT : ∀ t ∈ ["NoneType", "bool", "int", "str", "list", "tuple", "dict"], (kitB t T).isSome = true) (hg : Gl X xi) (hm : X.mg xi = none) (hv : bootBuiltins xi = some (.builtin "isinstance"))
    (hgt : Gl X xt) (hmt : X.mg xt = none) (hvt : bootBuiltins xt = some (.type T)) (ha : FE X a fa) (hn : xi ≠ "__name__" := by decide) (hdb : (xi == ("__debug__" : Str)) = false := by decide) (hnt : xt ≠ "__name__" := by decide) (hdbt : (xt == ("__debug__" : Str)) = false := by decide)
    (he : starEach [a, .Name xt pt] X.env = (false, eval a X.env) :: starEach [.Name xt pt] X.env := by rfl) (hpl : (backTo pos (starEach [.Name xt pt] X.env)).any (·.1) = false := by rfl) (hs1 : starEach [.Name xt pt] X.env = (false, eval (.Name xt pt) X.env) :: starEach [] X.env := by rfl) :
    FE X (.Call (.Name xi p) [a, .Name xt pt] [] pos) (fIsi T fa) := d_imp (d_isi hT hg hm hv hgt hmt hvt ha hn hdb hnt hdbt he hpl hs1) fun δ μ Q ⟨ε, m, h⟩ => use1 m h fun r ε1 v μ1 e t rf h1 => by
  obtain ⟨z, ez, q⟩ := fit_ofO t h1
  simp only [Option.bind_eq_some_iff] at ez
  obtain ⟨a, e1, e2⟩ := ez
  cases r with
  | ref _ => cases e1
  | own _ => cases e1
  | val x =>
    cases e1
    cases (show v = .d a from rf)
    cases e2
    exact q
def gInK (ks : List Int) : PyData → Option PyData
  | .int i => some (.bool (decide (i ∈ ks)))
  | _ => none
theorem f_inK {x : Str} {p : Pos} {ks : List Int} (D : KName X.K X.mg x ks) (hg : Gl X x) (ha : FE X a fa) (hm : behindInMarks .In (.Name x p) = false := by rfl) (hdb : (x == ("__debug__" : Str)) = false := by decide) : FE X (.Compare a [.In] [.Name x p] pos) (fUnV (gInK ks) fa) :=
  d_imp (d_inK D hg ha hm hdb) fun δ μ Q ⟨ε, m, h⟩ => use1 m h fun r ε1 v μ1 e t rf h1 => by
    obtain ⟨z, ez, q⟩ := fit_ofO t h1
    simp only [Option.bind_eq_some_iff] at ez
    obtain ⟨a, e1, e2⟩ := ez
    cases r with
    | ref _ => cases e1
    | own _ => cases e1
    | val x =>
      cases e1
      cases (show v = .d a from rf)
      unfold gInK at e2
      split at e2
      · cases e2; exact q
      · cases e2
def gIxK (t : List (Int × List Int)) : PyData → Option PyData
  | .int k => (lkp t k).map fun ns => .tuple (ns.map .int)
  | _ => none
theorem f_ixK {i : Expr} {fi : FT} {x : Str} {p pos : Pos} {t : List (Int × List Int)} (D : KTup X.K X.mg x t) (hg : Gl X x) (hi : FE X i fi) (hs : NoSl i := by exact fun _ _ => rfl) (hdb : (x == ("__debug__" : Str)) = false := by decide) :
    FE X (.Subscript (.Name x p) i pos) (fUnV (gIxK t) fi) := d_imp (d_ixK D hg hi hs hdb) fun δ μ Q ⟨ε, m, h⟩ => use1 m h fun r ε1 v μ1 e t rf h1 => by
  obtain ⟨z, ez, q⟩ := fit_ofO t h1
  simp only [Option.bind_eq_some_iff] at ez
  obtain ⟨a, e1, e2⟩ := ez
  cases r with
  | ref _ => cases e1
  | own _ => cases e1
  | val x =>
    cases e1
    cases (show v = .d a from rf)
    unfold gIxK at e2
    split at e2
    · simp only [Option.map_eq_some_iff] at e2
      obtain ⟨ns, e3, rfl⟩ := e2
      simp only [e3]
      exact q
    · cases e2
noncomputable def gMul := gI Bits fun i j => PyData.int (i * j)
theorem f_mul (ha : FE X a fa) (hb : FE X b fb) : FE X (.BinOp a .Mult b pos) (fOp gMul fa fb) := d_imp (d_op op_mulB (upP_I fun _ _ _ => .int _) ha hb) up_fOp
/-- a list, written, so many times -/
def lstOf (ε : FSt) : FR → Option (List PyData)
  | .own (.lst xs) => some xs
  | .ref i => match getC ε i with
    | some (.lst xs) => some xs
    | _ => none
  | _ => none
noncomputable def repR (o : Option (List PyData)) (k : Option PyData) (ε : FSt) : R FR := match o, k with
  | some xs, some (.int k) => if -(2 ^ 63) ≤ k ∧ k < 2 ^ 63 ∧ xs.length * k.toNat ≤ 900000 then .ok (.own (.lst (List.replicate k.toNat xs).flatten)) ε else .no
  | _, _ => .no
noncomputable def fRep (fa fb : FT) : FT := fun ε => (fa ε).bind fun x ε1 => (fb ε1).bind fun y ε2 => repR (lstOf ε2 x) (see ε2 y) ε2
theorem f_rep (ha : FE X a fa) (hb : FE X b fb) : FE X (.BinOp a .Mult b pos) (fRep fa fb) := d_imp (d_repC ha hb) fun δ μ Q ⟨ε, m, h⟩ =>
  use1 m h fun r ε1 v μ1 e t rf h1 => use1 (P := fun r v μ' ε' => RF δ μ ε' μ' r v) t.mt (fit_step t h1 fun _ _ _ _ _ p => p) fun r2 ε2 v2 μ2 e2 t2 rf2 h2 => by
    have rfk := RF.keep t m t2 rf
    have h3 : fit (fun r v μ' ε' => RF δ μ ε' μ' r v) δ μ1 ε1 Q (repR (lstOf ε2 r) (see ε2 r2) ε2) := h2
    unfold repR at h3
    split at h3
    · next xs k g1 g2 =>
      split at h3
      · next hb =>
        cases look_int' (see_look t2.mt rf2 g2)
        have fin : ∀ q, μ2 q = none → Q (.cell q) (put μ2 q (.lst (List.replicate k.toNat xs).flatten)) := fun q hq => h3 _ _ (t2.new hq) ⟨q, rfl, put_same, (t.trans t2).fresh m hq⟩
        cases r with
        | val x => cases g1
        | own c =>
          cases c with
          | dct _ => cases g1
          | lst ys =>
            cases g1
            obtain ⟨p, rfl, h5, h6⟩ := rfk
            exact ⟨_, h5, hb.1, hb.2.1, hb.2.2, fin⟩
        | ref i =>
          obtain ⟨hc, p, rfl, hp⟩ := rfk
          simp only [lstOf] at g1
          split at g1
          · next ys hys =>
            cases g1
            obtain ⟨p', h5, h6⟩ := t2.mt.cel i _ hys
            rw [hp] at h5; cases h5
            exact ⟨_, h6, hb.1, hb.2.1, hb.2.2, fin⟩
          · cases g1
      · exact h3.elim
    · exact h3.elim
noncomputable def fListO (fe : FT) : FT := fun ε => (fe ε).bind fun r ε1 => match (seeV r).bind itemsOf with
  | some xs => .ok (.own (.lst xs)) ε1
  | none => .no
theorem f_listO {p : Pos} (hg : Gl X "list") (hm : X.mg "list" = none) (he : FE X e fe) (h1 : starEach [e] X.env = (false, eval e X.env) :: starEach [] X.env := by rfl) (hpl : (backTo pos (starEach [] X.env)).any (·.1) = false := by rfl) :
    FE X (.Call (.Name "list" p) [e] [] pos) (fListO fe) := d_imp (d_callTy call_list_of u_listC hg hm (by decide +kernel) (a_cons he a_nil h1) (by decide) (by decide) h1 hpl) fun δ μ Q ⟨ε, m, h⟩ => by
  refine use1 m h fun r ε1 v μ1 e t rf h1 => ?_
  cases ho : (seeV r).bind itemsOf with
  | none => rw [ho] at h1; exact h1.elim
  | some xs =>
    rw [ho] at h1
    simp only [Option.bind_eq_some_iff] at ho
    obtain ⟨a, e1, e2⟩ := ho
    cases r with
    | ref _ => cases e1
    | own _ => cases e1
    | val x =>
      cases e1
      cases (show v = .d a from rf)
      have fin : ∀ p, μ1 p = none → Q (.cell p) (put μ1 p (.lst xs)) := fun p hp => h1 _ _ (t.new hp) ⟨p, rfl, put_same, t.fresh m hp⟩
      unfold itemsOf at e2
      split at e2
      · cases e2; exact fin
      · cases e2; exact fin
      · cases e2
def fsNever : FS := fun _ => .no
theorem fs_never {st : Stmt} : FSt1 X st fsNever := s_imp s_never fun D δ μ ⟨ε, m, h⟩ => h.elim
end
section
variable {δ : DSt} {μ μ1 : Mu} {ε ε1 : FSt} {D : DEnds}
theorem useSA {fr : FTA} {k : List FR → FSt → R Flow} {Q' : List DV → Mu → Prop} (m : Mt δ μ ε) (h : fitS D δ μ ε ((fr ε).bind k))
    (w : ∀ rs ε1 vs μ1, TrE δ μ ε μ1 ε1 → PySem.Paired (fun r v => RF δ μ ε1 μ1 r v) rs vs → fitS D δ μ ε (k rs ε1) → Q' vs μ1) : upFA fr δ μ Q' := by
  refine ⟨ε, m, ?_⟩
  cases e : fr ε with
  | no => rw [e] at h; exact h.elim
  | ex _ _ => rw [e] at h; exact h.elim
  | ok r ε1 => rw [e] at h; exact fun v μ1 t p => w r ε1 v μ1 t p h
/-- a further slot gets data -/
theorem Tr.setD2 (m : Mt δ μ ε) {δ1 : DSt} (t : Tr δ μ ε δ1 μ1 ε1) {i : Nat} {x : PyData} (hb : isBb ε1 i = false) : Tr δ μ ε (δ1.set i (some (.d x))) μ1 (ε1.set i (some (.d x))) := t.trans m (Tr.setD t.mt hb)
def setR2 (i j : Nat) (x y : FR) (ε : FSt) : R Flow := match x, y with
  | .val a, .val b => if isBb ε i = false ∧ isBb ε j = false then .ok .nx ((ε.set i (some (.d a))).set j (some (.d b))) else .no
  | .own c, .val b => if isBb ε i = false ∧ isBb ε j = false then .ok .nx ((ε.set i (some (.c c))).set j (some (.d b))) else .no
  | .val a, .own c => if isBb ε i = false ∧ isBb ε j = false then .ok .nx ((ε.set i (some (.d a))).set j (some (.c c))) else .no
  | _, _ => .no
theorem isBb_set {ε : FSt} {i j : Nat} {x : FV} (hb : isBb ε j = false) (hx : ∀ c, x ≠ .b c) : isBb (ε.set i (some x)) j = false := by
  unfold isBb at hb ⊢
  by_cases e : i = j
  · subst e
    by_cases hl : i < ε.length
    · rw [List.getElem?_set_self hl]
      cases x with
      | b c => exact (hx c rfl).elim
      | _ => rfl
    · rw [List.getElem?_eq_none (by simpa using hl)]
  · rw [List.getElem?_set_ne e]; exact hb
theorem setR2_fit {i j : Nat} (hij : i ≠ j) {x y : FR} {v u : DV} (m : Mt δ μ ε) (t : TrE δ μ ε μ1 ε1) (rx : RF δ μ ε1 μ1 x v) (ry : RF δ μ ε1 μ1 y u) (h : fitS D δ μ ε (setR2 i j x y ε1)) : D.nx ((δ.set i (some v)).set j (some u)) μ1 := by
  unfold setR2 at h
  split at h
  · next a b =>
    split at h
    · next hb =>
      cases (show v = .d a from rx)
      cases (show u = .d b from ry)
      exact h _ _ (Tr.setD2 m (t.setS m (r := .val a) rfl hb.1 rfl) (isBb_set hb.2 (fun c e => by cases e)))
    · exact h.elim
  · next c b =>
    split at h
    · next hb =>
      cases (show u = .d b from ry)
      exact h _ _ (Tr.setD2 m (t.setS m (r := .own c) rx hb.1 rfl) (isBb_set hb.2 (fun c e => by cases e)))
    · exact h.elim
  · next a c =>
    split at h
    · next hb =>
      cases (show v = .d a from rx)
      have t1 := Tr.setD2 m (t.setS m (r := .own c) ry hb.2 rfl) (i := i) (x := a) (isBb_set hb.1 (fun c e => by cases e))
      rw [List.set_comm _ _ (Ne.symm hij)] at t1
      rw [List.set_comm _ _ (Ne.symm hij)] at t1
      exact h _ _ t1
    · exact h.elim
  · exact h.elim
end
section
variable {X : Cx} {pos p : Pos} {a b e : Expr} {fa fb fe : FT} {es : List Expr} {fr : FTA}
/-- a, b = x, y -/
def fsPar (i j : Nat) (fr : FTA) : FS := fun ε => (fr ε).bind fun rs ε1 => match rs with
  | [x, y] => setR2 i j x y ε1
  | _ => .no
theorem fs_par {i j : Nat} {x y : Str} {px py pt : Pos} {kt k2 pt2} (hc : X.calm = true) (hN : X.N.Nodup) (hi : X.N[i]? = some x) (hj : X.N[j]? = some y) (hij : i ≠ j)
    (hx : X.env.scope.names.lookup x = some .local) (hy : X.env.scope.names.lookup y = some .local) (ha : FA X [a, b] fr)
    (hw : swappedStores [.Tuple [.Name x px, .Name y py] kt pt] (.Tuple [a, b] k2 pt2) X.env = pure (some [x, y]))
    (hs : swapsWithSole [.Tuple [.Name x px, .Name y py] kt pt] (.Tuple [a, b] k2 pt2) pos.line X.env = pure false := by rfl) :
    FSt1 X (.Assign [.Tuple [.Name x px, .Name y py] kt pt] (.Tuple [a, b] k2 pt2) pos) (fsPar i j fr) := s_imp (s_par hc hN hi hj hij hx hy ha hw hs) fun D δ μ ⟨ε, m, h⟩ => useSA m h fun rs ε1 vs μ1 t rf h1 => by
  split at h1
  · next x y =>
    cases rf with
    | cons r1 t1 => cases t1 with
      | cons r2 t2 =>
        cases t2
        exact setR2_fit hij m t r1 r2 h1
  · exact h1.elim
/-- a, b, .. = e, e data -/
def fsAsgT (is : List Nat) (fe : FT) : FS := fun ε => (fe ε).bind fun r ε1 => match (seeV r).bind fun d => tgT is d ε1 with
  | some ε2 => .ok .nx ε2
  | none => .no
theorem fs_asgT {tg : Expr} {is : List Nat} (he : FE X e fe) (hg : DG true X tg (gdTup is)) (hs : swapsWithSole [tg] e pos.line X.env = pure false := by rfl) (hw : swappedStores [tg] e X.env = pure none := by rfl)
    (h1 : (assignEach [tg] X.env).map (·.2) = [assign tg X.env] := by rfl) : FSt1 X (.Assign [tg] e pos) (fsAsgT is fe) := s_imp (s_asg he hg hs hw h1) fun D δ μ ⟨ε, m, h⟩ => useSE m h fun r ε1 v μ1 t p h1 => by
  cases r with
  | ref _ => exact h1.elim
  | own _ => exact h1.elim
  | val d =>
    cases (show v = .d d from p)
    cases ho : tgT is d ε1 with
    | none => simp only [seeV, Option.bind_some, ho] at h1; exact h1.elim
    | some ε2 =>
      simp only [seeV, Option.bind_some, ho] at h1
      unfold tgT at ho
      split at ho
      · next xs =>
        split at ho
        · next hl => exact ⟨hl, h1 _ _ (t.tr.trans m (setAllF_tr t.mt ho))⟩
        · cases ho
      · cases ho
end
end FL

namespace FL
open PySem PySem.Spec PyProof.Rows L2 DL
section
variable {X : Cx} {pos apos cpos : Pos} {e o : Expr} {fe fo : FT} {es : List Expr} {fr : FTA}
theorem f_append (ho : FE X o fo) (ha : FA X [e] fr)
    (hbase : attributeBase o "append" X.env (eval o X.env) = eval o X.env := by rfl)
    (hfew : ((backTo cpos (starEach [e] X.env)).all (fun x => !x.1) && (backToKw cpos (keywordEach [] X.env)).all (fun x => x.1.isSome)
      && decide ([e].length + ([] : List Keyword).length + (if ([] : List Keyword).isEmpty then 0 else 1) < 30)) = true := by rfl)
    (hline : (apos.endLine == cpos.line) = true := by rfl) (hs : starEach [e] X.env = (false, eval e X.env) :: starEach [] X.env := by rfl) (hplain : (backTo cpos (starEach [] X.env)).any (·.1) = false := by rfl) :
    FE X (.Call (.Attribute o "append" apos) [e] [] cpos) (fMut gAppend fo fr) := f_mut m_append PySem.F.plainAttrs_list PySem.F.slot_list_append PySem.F.type_list_append mt_append ho ha hbase hfew hline hs hplain
theorem f_popAt (ho : FE X o fo) (ha : FA X [e] fr)
    (hbase : attributeBase o "pop" X.env (eval o X.env) = eval o X.env := by rfl)
    (hfew : ((backTo cpos (starEach [e] X.env)).all (fun x => !x.1) && (backToKw cpos (keywordEach [] X.env)).all (fun x => x.1.isSome)
      && decide ([e].length + ([] : List Keyword).length + (if ([] : List Keyword).isEmpty then 0 else 1) < 30)) = true := by rfl)
    (hline : (apos.endLine == cpos.line) = true := by rfl) (hs : starEach [e] X.env = (false, eval e X.env) :: starEach [] X.env := by rfl) (hplain : (backTo cpos (starEach [] X.env)).any (·.1) = false := by rfl) :
    FE X (.Call (.Attribute o "pop" apos) [e] [] cpos) (fMut gPopAt fo fr) := f_mut m_popAt PySem.F.plainAttrs_list PySem.F.slot_list_pop PySem.F.type_list_pop mt_popAt ho ha hbase hfew hline hs hplain
end
theorem call_tuple_of2 {X : Cx} : CallR X (.type "tuple") (fun xs H Q => ∃ p ys, xs = [.ref p] ∧ ((SqL X.K H p ys ∧ NewT H ys Q) ∨ (SqT X.K H p ys ∧ Q (.ref p) H))) := callT_tuple
theorem primes_mk {K : PySem.W.Frag} {h : Heap} {mg : Str → Option Value} {ad n : Nat} {h2 h3 h5 h6 h7 h10 h11 h13 h14 h15 : Int} {t2 t3 t5 t6 t7 t10 t11 t13 t14 t15 u20 u30 u50 u60 u61 u70 u100 u101 u110 u130 u140 u141 u150 u151 : Tok} {b2 b3 b5 b6 b7 b10 b11 b13 b14 b15 : Addr} {n2 n3 n5 n6 n7 n10 n11 n13 n14 n15 : Nat} {s2 s3 s5 s6 s7 s10 s11 s13 s14 s15 : Array (Option Value)} (X : K.In h) (G : h.Ns mainGlobals mg) (a : PySem.W.nsIn K mainGlobals "PRIMES" = some (some (.ref ad)))
    (l : K.lookup ad = some ⟨.type "dict", none, .dict #[⟨h2, .int 2 t2, .ref b2⟩, ⟨h3, .int 3 t3, .ref b3⟩, ⟨h5, .int 5 t5, .ref b5⟩, ⟨h6, .int 6 t6, .ref b6⟩, ⟨h7, .int 7 t7, .ref b7⟩, ⟨h10, .int 10 t10, .ref b10⟩, ⟨h11, .int 11 t11, .ref b11⟩, ⟨h13, .int 13 t13, .ref b13⟩, ⟨h14, .int 14 t14, .ref b14⟩, ⟨h15, .int 15 t15, .ref b15⟩] n, #[]⟩) (e : h2 = hashInt 2 ∧ h3 = hashInt 3 ∧ h5 = hashInt 5 ∧ h6 = hashInt 6 ∧ h7 = hashInt 7 ∧ h10 = hashInt 10 ∧ h11 = hashInt 11 ∧ h13 = hashInt 13 ∧ h14 = hashInt 14 ∧ h15 = hashInt 15 ∧ (ad == sysModules) = false)
    (l2 : K.lookup b2 = some ⟨.type "tuple", none, .seq #[.int 2 u20] n2, s2⟩) (l3 : K.lookup b3 = some ⟨.type "tuple", none, .seq #[.int 3 u30] n3, s3⟩) (l5 : K.lookup b5 = some ⟨.type "tuple", none, .seq #[.int 5 u50] n5, s5⟩) (l6 : K.lookup b6 = some ⟨.type "tuple", none, .seq #[.int 2 u60, .int 3 u61] n6, s6⟩) (l7 : K.lookup b7 = some ⟨.type "tuple", none, .seq #[.int 7 u70] n7, s7⟩) (l10 : K.lookup b10 = some ⟨.type "tuple", none, .seq #[.int 2 u100, .int 5 u101] n10, s10⟩) (l11 : K.lookup b11 = some ⟨.type "tuple", none, .seq #[.int 11 u110] n11, s11⟩) (l13 : K.lookup b13 = some ⟨.type "tuple", none, .seq #[.int 13 u130] n13, s13⟩) (l14 : K.lookup b14 = some ⟨.type "tuple", none, .seq #[.int 2 u140, .int 7 u141] n14, s14⟩) (l15 : K.lookup b15 = some ⟨.type "tuple", none, .seq #[.int 3 u150, .int 5 u151] n15, s15⟩) : KTup K mg "PRIMES" [(2, [2]), (3, [3]), (5, [5]), (6, [2, 3]), (7, [7]), (10, [2, 5]), (11, [11]), (13, [13]), (14, [2, 7]), (15, [3, 5])] := by
  obtain ⟨e2, e3, e5, e6, e7, e10, e11, e13, e14, e15, eo⟩ := e
  exact ⟨⟨ad, _, n, PySem.W.mg_of X G a, l, (.cons e2 l2 ⟨rfl, rfl⟩ rfl (by simp) (.cons _ _ .nil) (.cons e3 l3 ⟨rfl, rfl⟩ rfl (by simp) (.cons _ _ .nil) (.cons e5 l5 ⟨rfl, rfl⟩ rfl (by simp) (.cons _ _ .nil) (.cons e6 l6 ⟨rfl, rfl⟩ rfl (by simp) (.cons _ _ (.cons _ _ .nil)) (.cons e7 l7 ⟨rfl, rfl⟩ rfl (by simp) (.cons _ _ .nil) (.cons e10 l10 ⟨rfl, rfl⟩ rfl (by simp) (.cons _ _ (.cons _ _ .nil)) (.cons e11 l11 ⟨rfl, rfl⟩ rfl (by simp) (.cons _ _ .nil) (.cons e13 l13 ⟨rfl, rfl⟩ rfl (by simp) (.cons _ _ .nil) (.cons e14 l14 ⟨rfl, rfl⟩ rfl (by simp) (.cons _ _ (.cons _ _ .nil)) (.cons e15 l15 ⟨rfl, rfl⟩ rfl (by simp) (.cons _ _ (.cons _ _ .nil)) .nil)))))))))), by decide, eo⟩⟩
end FL

namespace DL
open PySem PySem.Spec PyProof.Rows L2
section
variable {X : Cx} {pos : Pos} {a b c : Expr}
def setV : List Nat → List DV → DSt → DSt
  | i :: is, v :: vs, δ => setV is vs (δ.set i (some v))
  | _, _, δ => δ
/-- a, b, .. = x, y, .. (plain locals) -/
def sParN (is : List Nat) (ta : DTA) : DTS := fun D δ μ => ta δ μ fun ds μ1 => ds.length = is.length ∧ D.nx (setV is ds δ) μ1
theorem s_parN3 {i j l : Nat} {x y z : Str} {tA : DTA} {px py pz pt : Pos} {kt k2 pt2} (hc : X.calm = true) (hN : X.N.Nodup) (hi : X.N[i]? = some x) (hj : X.N[j]? = some y) (hl : X.N[l]? = some z) (hij : i ≠ j) (hil : i ≠ l) (hjl : j ≠ l)
    (hx : X.env.scope.names.lookup x = some .local) (hy : X.env.scope.names.lookup y = some .local) (hz : X.env.scope.names.lookup z = some .local) (ha : DA X [a, b, c] tA)
    (hw : swappedStores [.Tuple [.Name x px, .Name y py, .Name z pz] kt pt] (.Tuple [a, b, c] k2 pt2) X.env = pure (some [x, y, z]))
    (hs : swapsWithSole [.Tuple [.Name x px, .Name y py, .Name z pz] kt pt] (.Tuple [a, b, c] k2 pt2) pos.line X.env = pure false := by rfl) :
    DS X (.Assign [.Tuple [.Name x px, .Name y py, .Name z pz] kt pt] (.Tuple [a, b, c] k2 pt2) pos) (sParN [i, j, l] tA) := ps_imp (ps_par3 hc hN hi hj hl hij hil hjl hx hy hz ha hw hs) fun D σ H ⟨δ, μ, Dd, rs, rm, q, w⟩ =>
  upA_use rs rm q fun ds μ1 vs H1 e1 m1 r1 ⟨hl, q1⟩ => by
    match ds, hl with
    | [x, y, z], _ =>
      cases r1 with
      | cons r t => cases t with
        | cons r' t => cases t with
          | cons r2 t =>
            cases t
            exact ⟨_, _, _, rfl, w.nx _ μ1 _ H1 e1 m1 ((((rs.mono e1).set r i).set r' j).set r2 l) q1⟩
end
end DL
namespace FL
open PySem PySem.Spec PyProof.Rows L2 DL
section
variable {δ δ1 : DSt} {μ μ1 : Mu} {ε ε1 : FSt}
/-- a new container's slot -/
theorem Tr.setO (t : Tr δ μ ε δ1 μ1 ε1) {i : Nat} {q : Addr} {c : Cell} (h0 : μ q = none) (h1 : μ1 q = some c) (hn : ¬ Adr δ1 ε1 q) (hb : isBb ε1 i = false) : Tr δ μ ε (δ1.set i (some (.cell q))) μ1 (ε1.set i (some (.c c))) := by
  have hl := t.mt.len
  refine ⟨⟨by simp [hl], fun j y h => ?_, fun j d h => ?_, fun j k p hj hk g1 g2 => ?_⟩, t.fr, fun j d h => ?_, fun j d h => ?_, fun p h => ?_, by simp [t.ln]⟩
  · by_cases e : i = j
    · subst e
      obtain ⟨a, b⟩ := get_set h
      cases a
    · rw [List.getElem?_set_ne e] at h ⊢
      exact t.mt.dat j y h
  · by_cases e : i = j
    · subst e
      obtain ⟨a, b⟩ := getC_same h
      rcases a with a | a
      · cases a
        exact ⟨q, by rw [List.getElem?_set_self (by omega)], h1⟩
      · cases a
    · rw [getC_ne e] at h
      rw [List.getElem?_set_ne e]
      exact t.mt.cel j d h
  · by_cases e : i = j
    · subst e
      by_cases e2 : i = k
      · exact e2
      · obtain ⟨d, hc⟩ := isC_some hj
        obtain ⟨a, b⟩ := getC_same hc
        rw [List.getElem?_set_self (by omega)] at g1
        cases g1
        rw [List.getElem?_set_ne e2] at g2
        unfold isC at hk
        rw [getC_ne e2] at hk
        exact (hn ⟨k, hk, g2⟩).elim
    · by_cases e2 : i = k
      · subst e2
        obtain ⟨d, hc⟩ := isC_some hk
        obtain ⟨a, b⟩ := getC_same hc
        rw [List.getElem?_set_self (by omega)] at g2
        cases g2
        rw [List.getElem?_set_ne e] at g1
        unfold isC at hj
        rw [getC_ne e] at hj
        exact (hn ⟨j, hj, g1⟩).elim
      · unfold isC at hj hk
        rw [getC_ne e] at hj
        rw [getC_ne e2] at hk
        rw [List.getElem?_set_ne e] at g1
        rw [List.getElem?_set_ne e2] at g2
        exact t.mt.apart j k p hj hk g1 g2
  · obtain ⟨⟨c1, g1⟩, g2⟩ := t.bo j d h
    have e : i ≠ j := fun e => by subst e; exact isBb_false hb g1
    rw [List.getElem?_set_ne e, List.getElem?_set_ne e]
    exact ⟨⟨c1, g1⟩, g2⟩
  · by_cases e : i = j
    · subst e
      obtain ⟨a, b⟩ := get_set h
      cases a
    · rw [List.getElem?_set_ne e] at h
      exact t.bn j d h
  · obtain ⟨j, d, g1, g2⟩ := h
    by_cases e : i = j
    · subst e
      obtain ⟨a, b⟩ := get_set g1
      rw [List.getElem?_set_self (by omega)] at g2
      cases g2
      exact .inr h0
    · rw [List.getElem?_set_ne e] at g1 g2
      exact t.nw p ⟨j, d, g1, g2⟩
/-- new containers stand apart -/
def FarO (v : DV) : List FR → List DV → Prop
  | .own _ :: rs, u :: vs => v ≠ u ∧ FarO v rs vs
  | .val _ :: rs, _ :: vs => FarO v rs vs
  | .ref _ :: rs, _ :: vs => FarO v rs vs
  | _, _ => True
def SepO : List FR → List DV → Prop
  | .own _ :: rs, v :: vs => FarO v rs vs ∧ SepO rs vs
  | .val _ :: rs, _ :: vs => SepO rs vs
  | .ref _ :: rs, _ :: vs => SepO rs vs
  | _, _ => True
def upFB (f : FTA) : DTA := fun δ μ Q => ∃ ε, Mt δ μ ε ∧ fit (fun rs vs μ' ε' => PySem.Paired (fun r v => RF δ μ ε' μ' r v) rs vs ∧ SepO rs vs) δ μ ε Q (f ε)
abbrev FAB (X : Cx) (es : List Expr) (f : FTA) : Prop := DA X es (upFB f)
theorem far_of {p : Addr} {c : Cell} {μ2 : Mu} {ε2 : FSt} (hp : μ1 p = some c) : ∀ {rs : List FR} {vs : List DV}, PySem.Paired (fun r v => RF δ μ1 ε2 μ2 r v) rs vs → FarO (.cell p) rs vs
  | _, _, .nil => trivial
  | .own _ :: _, _ :: _, .cons h t => by
    refine ⟨fun e => ?_, far_of hp t⟩
    obtain ⟨q, e1, _, e3⟩ := h
    rw [← e] at e1
    cases e1
    rw [hp] at e3
    cases e3
  | .val _ :: rs, _ :: _, .cons h t => by
    have := far_of hp t
    exact this
  | .ref _ :: rs, _ :: _, .cons h t => by
    have := far_of hp t
    exact this
theorem useB {f : FTA} {α β : Type} {g : List FR → FSt → R α} {P : α → β → Mu → FSt → Prop} {Q : β → Mu → Prop} {Q' : List DV → Mu → Prop} (m : Mt δ μ ε) (h : fit P δ μ ε Q ((f ε).bind g))
    (k : ∀ rs ε1 vs μ1, f ε = .ok rs ε1 → TrE δ μ ε μ1 ε1 → PySem.Paired (fun r v => RF δ μ ε1 μ1 r v) rs vs → SepO rs vs → fit P δ μ ε Q (g rs ε1) → Q' vs μ1) : upFB f δ μ Q' := by
  refine ⟨ε, m, ?_⟩
  cases e : f ε with
  | no => rw [e] at h; exact h.elim
  | ex _ _ => rw [e] at h; exact h.elim
  | ok r ε1 =>
    rw [e] at h
    exact fun v μ1 t ⟨p, s⟩ => k r ε1 v μ1 e t p s h
end
section
variable {X : Cx} {pos : Pos} {a b c e : Expr} {fe fa : FT} {es : List Expr} {fr : FTA}
theorem fb_nil : FAB X [] faNil := a_imp a_nil fun δ μ Q ⟨ε, m, h⟩ => h _ _ (.refl m) ⟨.nil, trivial⟩
theorem fb_cons (ha : FE X e fe) (hr : FAB X es fr) (hs : starEach (e :: es) X.env = (false, eval e X.env) :: starEach es X.env := by rfl) : FAB X (e :: es) (faCons fe fr) := a_imp (a_cons ha hr hs) fun δ μ Q ⟨ε, m, h⟩ =>
  use1 m h fun r ε1 v μ1 e t rf h1 => useB (P := fun rs vs μ' ε' => PySem.Paired (fun r v => RF δ μ ε' μ' r v) rs vs ∧ SepO rs vs) t.mt (fit_step t h1 fun _ _ _ _ _ p => p) fun rs ε2 vs μ2 e2 t2 rf2 sp h2 => by
    refine h2 _ _ t2 ⟨.cons (RF.keep t m t2 rf) (L2.Paired.mapP rf2 fun _ _ p => RF.back m t t2 p), ?_⟩
    cases r with
    | val _ => exact sp
    | ref _ => exact sp
    | own c =>
      obtain ⟨p, rfl, h3, h4⟩ := rf
      exact ⟨far_of h3 rf2, sp⟩
def setAllR : List Nat → List FR → FSt → Option FSt
  | i :: is, r :: rs, ε => if isBb ε i = true then none else (frV r).bind fun x => setAllR is rs (ε.set i (some x))
  | _, _, ε => some ε
def fsParN (is : List Nat) (fr : FTA) : FS := fun ε => (fr ε).bind fun rs ε1 => if rs.length = is.length then match setAllR is rs ε1 with
  | some ε2 => .ok .nx ε2
  | none => .no else .no
theorem setAllR_tr {δ : DSt} {μ μ1 : Mu} {ε : FSt} (m : Mt δ μ ε) : ∀ {is : List Nat} {rs : List FR} {vs : List DV} {δ1 : DSt} {ε1 ε2 εr : FSt}, Tr δ μ ε δ1 μ1 ε1 → PySem.Paired (fun r v => RF δ μ εr μ1 r v) rs vs → SepO rs vs →
    (∀ p, Adr δ1 ε1 p → FarO (.cell p) rs vs) → setAllR is rs ε1 = some ε2 → Tr δ μ ε (setV is vs δ1) μ1 ε2
  | [], _, _, _, _, _, _, t, _, _, _, h => by cases h; exact t
  | _ :: _, [], _, _, _, _, _, t, rf, _, _, h => by cases rf; cases h; exact t
  | i :: is, r :: rs, v :: vs, δ1, ε1, ε2, εr, t, .cons r1 r2, sp, far, h => by
    unfold setAllR at h
    split at h
    · cases h
    · next hb =>
      have hb : isBb ε1 i = false := by simpa using hb
      cases r with
      | ref _ => cases h
      | val x =>
        cases (show v = .d x from r1)
        have t1 := t.trans m (Tr.setD t.mt (x := x) hb)
        show Tr δ μ ε (setV is vs (δ1.set i (some (.d x)))) μ1 ε2
        refine setAllR_tr m t1 r2 sp (fun p hp => far p ?_) h
        obtain ⟨j, g1, g2⟩ := hp
        by_cases e : i = j
        · subst e
          obtain ⟨d, hd⟩ := isC_some g1
          obtain ⟨a, b⟩ := getC_same hd
          rcases a with a | a <;> cases a
        · unfold isC at g1
          rw [getC_ne e] at g1
          rw [List.getElem?_set_ne e] at g2
          exact ⟨j, g1, g2⟩
      | own c =>
        obtain ⟨q, rfl, h1, h0⟩ := r1
        have hn : ¬ Adr δ1 ε1 q := fun z => (far q z).1 rfl
        show Tr δ μ ε (setV is vs (δ1.set i (some (.cell q)))) μ1 ε2
        refine setAllR_tr m (t.setO h0 h1 hn hb) r2 sp.2 (fun p hp => ?_) h
        obtain ⟨j, g1, g2⟩ := hp
        by_cases e : i = j
        · subst e
          have hl := t.mt.len
          obtain ⟨d, hd⟩ := isC_some g1
          obtain ⟨a, b⟩ := getC_same hd
          rw [List.getElem?_set_self (by omega)] at g2
          cases g2
          exact sp.1
        · unfold isC at g1
          rw [getC_ne e] at g1
          rw [List.getElem?_set_ne e] at g2
          exact (far p ⟨j, g1, g2⟩).2
theorem fsParN_use {is : List Nat} {D : DEnds} {δ : DSt} {μ : Mu} (h : ∃ ε, Mt δ μ ε ∧ fitS D δ μ ε (fsParN is fr ε)) : sParN is (upFB fr) D δ μ := by
  obtain ⟨ε, m, h⟩ := h
  refine ⟨ε, m, ?_⟩
  unfold fsParN at h
  cases e : fr ε with
  | no => rw [e] at h; exact h.elim
  | ex _ _ => rw [e] at h; exact h.elim
  | ok rs ε1 =>
    rw [e] at h
    refine fun vs μ1 t ⟨p, s⟩ => ?_
    simp only [R.bind_ok] at h
    split at h
    · next hl =>
      split at h
      · next ε2 e2 =>
        refine ⟨by rw [← hl]; exact (PySem.Paired.length p).symm, ?_⟩
        refine h _ _ (setAllR_tr m t.tr p s (fun a ha => ?_) e2)
        obtain ⟨d, hd⟩ := m.adr (t.kd.adr.mpr ha)
        exact far_of hd p
      · exact h.elim
    · exact h.elim
theorem fs_parN3 {i j l : Nat} {x y z : Str} {px py pz pt : Pos} {kt k2 pt2} (hc : X.calm = true) (hN : X.N.Nodup) (hi : X.N[i]? = some x) (hj : X.N[j]? = some y) (hl : X.N[l]? = some z) (hij : i ≠ j) (hil : i ≠ l) (hjl : j ≠ l)
    (hx : X.env.scope.names.lookup x = some .local) (hy : X.env.scope.names.lookup y = some .local) (hz : X.env.scope.names.lookup z = some .local) (ha : FAB X [a, b, c] fr)
    (hw : swappedStores [.Tuple [.Name x px, .Name y py, .Name z pz] kt pt] (.Tuple [a, b, c] k2 pt2) X.env = pure (some [x, y, z]))
    (hs : swapsWithSole [.Tuple [.Name x px, .Name y py, .Name z pz] kt pt] (.Tuple [a, b, c] k2 pt2) pos.line X.env = pure false := by rfl) :
    FSt1 X (.Assign [.Tuple [.Name x px, .Name y py, .Name z pz] kt pt] (.Tuple [a, b, c] k2 pt2) pos) (fsParN [i, j, l] fr) := s_imp (s_parN3 hc hN hi hj hl hij hil hjl hx hy hz ha hw hs) fun D δ μ h => fsParN_use h
end
end FL

namespace FL
open PySem PySem.Spec PyProof.Rows L2 DL
section
variable {X : Cx} {pos : Pos} {tg a b c e : Expr} {fr : FTA}
end
def call1O (F : Fn) : FR → FSt → R FR
  | .own c, ε => match F [.b c] with
    | .ok (.val x) [_] => .ok (.val x) ε
    | .ok (.own c') [_] => .ok (.own c') ε
    | _ => .no
  | _, _ => .no
def fCall1O (F : Fn) (fa : FT) : FT := fun ε => (fa ε).bind (call1O F)
theorem call1O_core {δ : DSt} {μ μ1 : Mu} {ε ε1 : FSt} {F : Fn} {r : FR} {v : DV} {Q : DV → Mu → Prop} (m : Mt δ μ ε) (t : TrE δ μ ε μ1 ε1) (rf : RF δ μ ε1 μ1 r v) (h : fit (fun r v μ' ε' => RF δ μ ε' μ' r v) δ μ ε Q (call1O F r ε1)) : spF F 1 [v] μ1 Q := by
  cases r with
  | val _ => exact h.elim
  | ref _ => exact h.elim
  | own c =>
    obtain ⟨p, rfl, h1, h0⟩ := rf
    refine ⟨rfl, [.b c], .cons ⟨p, rfl, h1⟩ .nil, fun i j q e1 e2 => ?_, ?_⟩
    · cases i with
      | succ i => simp at e1
      | zero => cases j with
        | succ j => simp at e2
        | zero => rfl
    · unfold call1O at h
      have go : ∀ {bs : List Cell} {r' : FR} {u : DV} {μ' : Mu}, Out μ1 [.cell p] bs μ' r' u → TrE δ μ ε μ' ε1 := fun {bs r' u μ'} o => by
        refine t.swap (fun q hq => ?_) fun b d hb hn => ?_
        · obtain ⟨d, hd⟩ := t.mt.adr hq
          rw [hd]
          refine o.fr q d hd fun i e => ?_
          cases i with
          | succ i => simp at e
          | zero =>
            simp at e
            subst e
            obtain ⟨d', hd'⟩ := m.adr (t.kd.adr.mpr hq)
            rw [h0] at hd'; cases hd'
        · refine o.fr b d (t.fr b d hb hn) fun i e => ?_
          cases i with
          | succ i => simp at e
          | zero =>
            simp at e
            subst e
            rw [h0] at hb; cases hb
      dsimp only at h
      split at h
      · next x b e =>
        rw [e]
        intro u μ' o
        exact h _ _ (go o) o.rs
      · next c' b e =>
        rw [e]
        intro u μ' o
        obtain ⟨q, k1, k2, k3⟩ := o.rs
        exact h _ _ (go o) ⟨q, k1, k2, t.fresh m k3⟩
      · exact h.elim
section
variable {X : Cx} {k : Nat} {ps : List Str} {F : Fn} {x : Str} {p pos : Pos} {e : Expr} {fa : FT} {st : Stmt}
theorem f_call1O (C : Cal X.prog X.w X.K X.mg X.base k x st ps (spF F 1)) (hr : RoomG k X.A) (hg : Gl X x) (hb : ∀ f fd, Fun X.K x x st f fd → Binds X.K fd ps []) (ha : FE X e fa)
    (hdb : (x == ("__debug__" : Str)) = false := by decide) (hs : starEach [e] X.env = (false, eval e X.env) :: starEach [] X.env := by rfl) (hpl : (backTo pos (starEach [] X.env)).any (·.1) = false := by rfl) :
    FE X (.Call (.Name x p) [e] [] pos) (fCall1O F fa) := d_imp (d_callC C hr hg hb (fa_cons ha fa_nil hs) hdb hs hpl) fun δ μ Q ⟨ε, m, h⟩ => by
  have h2 : fit (fun r v μ' ε' => RF δ μ ε' μ' r v) δ μ ε Q ((faCons fa faNil ε).bind fun rs ε1 => match rs with
      | [r] => call1O F r ε1
      | _ => .no) := by
    unfold fCall1O at h
    unfold faCons faNil
    cases e : fa ε with
    | no => rw [e] at h; exact h
    | ex _ _ => rw [e] at h; exact h
    | ok r ε1 => rw [e] at h; exact h
  exact useA m h2 fun rs ε1 vs μ1 e t rf h1 => by
    split at h1
    · next r =>
      cases rf with
      | cons a b => cases b; exact call1O_core m t a h1
    · exact h1.elim
end
end FL

namespace FL
open PySem PySem.Spec PyProof.Rows L2 DL
mutual
/-- no list and no dict within -/
def flatT : PyData → Bool
  | .none => true
  | .bool _ => true
  | .int _ => true
  | .str _ => true
  | .tuple xs => flatTs xs
  | _ => false
def flatTs : List PyData → Bool
  | [] => true
  | x :: xs => flatT x && flatTs xs
end
def frzV : Option FV → Option FV
  | some (.c c) => some (.d (cellD c))
  | some (.b c) => some (.d (cellD c))
  | v => v
def frzAll (ε : FSt) : FSt := ε.map frzV
def fView (f : FT) : FT := fun ε => match f (frzAll ε) with
  | .ok (.val x) _ => if flatT x = true then .ok (.val x) ε else .no
  | _ => .no
mutual
theorem Da.flat {K : PySem.W.Frag} {H H' : Hp} (hs : ∀ a o xs, H a = some (.frz o (.tup xs)) → H' a = some (.frz o (.tup xs))) : ∀ {v : V} {d : PyData}, Da K H v d → flatT d = true → Da K H' v d
  | _, _, .non, _ => .non
  | _, _, .bl b, _ => .bl b
  | _, _, .int i, _ => .int i
  | _, _, .str x, _ => .str x
  | _, _, .lst h a, f => by simp [flatT] at f
  | _, _, .tup h a, f => .tup (by
      rcases h with ⟨o, h1, h2⟩ | h
      · exact .inl ⟨o, hs _ _ _ h1, h2⟩
      · exact .inr h) (DaAll.flat hs a (by simpa [flatT] using f))
  | _, _, .dct h a, f => by simp [flatT] at f
theorem DaAll.flat {K : PySem.W.Frag} {H H' : Hp} (hs : ∀ a o xs, H a = some (.frz o (.tup xs)) → H' a = some (.frz o (.tup xs))) : ∀ {vs : List V} {ds : List PyData}, DaAll K H vs ds → flatTs ds = true → DaAll K H' vs ds
  | _, _, .nil, _ => .nil
  | _, _, .cons h t, f => by
    simp only [flatTs, Bool.and_eq_true] at f
    exact .cons (Da.flat hs h f.1) (DaAll.flat hs t f.2)
end
end FL

namespace FL
open PySem PySem.Spec PyProof.Rows L2 DL
theorem tuple_mul1W (l : Addr) (items : Array Value) (n : Nat) (dd : Option Addr) (sl : Array (Option Value)) (u : Tok) (c1 : (items.isEmpty || (1 : Int) == 1) = true) :
    Meets (Builtin.«tuple.__mul__» ⟨[.ref l, .int 1 u], []⟩) (fun _ R s => s.heap.get? l = some { cls := .type "tuple", dict := dd, data := .seq items n, slots := sl } ∧ R (.ok (.ret (Value.ref l))) s) :=
  .of_wp fun prog w A R s h => by
    obtain ⟨hp, g, d, tk, os⟩ := s
    obtain ⟨hl, h⟩ := h
    have f1 := AutoSeq1.idx_int
    wp_walk using wpAny_loadPart' hl
    repeat (first
      | (refine wpAny_ite_false (decide_eq_false (by decide)) ?_; wp_walk using wpAny_loadPart' hl)
      | (refine wpAny_ite_true (decide_eq_true (by rw [c1])) ?_; wp_walk using wpAny_loadPart' hl))
    exact ⟨_, rfl, h⟩
theorem tuple_mul0W (l : Addr) (items : Array Value) (n : Nat) (dd : Option Addr) (sl : Array (Option Value)) (u : Tok) (c1 : (items.isEmpty || (0 : Int) == 1) = false) (hsz : (#[] : Array Value).size ≤ sizeLine) :
    Meets (Builtin.«tuple.__mul__» ⟨[.ref l, .int 0 u], []⟩) (fun _ R s => s.heap.get? l = some { cls := .type "tuple", dict := dd, data := .seq items n, slots := sl } ∧
      R (.ok (.ret (Value.ref s.heap.objs.size))) { s with heap := s.heap.push { cls := Value.type "tuple", data := Data.seq #[] }, toks := s.toks }) :=
  .of_wp fun prog w A R s h => by
    obtain ⟨hp, g, d, tk, os⟩ := s
    obtain ⟨hl, h⟩ := h
    have f1 := AutoSeq1.idx_int
    wp_walk using wpAny_loadPart' hl
    repeat (first
      | (refine wpAny_ite_false (decide_eq_false (by decide)) ?_; wp_walk using wpAny_loadPart' hl)
      | (refine wpAny_ite_false (decide_eq_false (by rw [c1]; exact Bool.false_ne_true)) ?_; wp_walk using wpAny_loadPart' hl)
      | (refine wpAny_ite_true (decide_eq_true (by rfl)) ?_; wp_walk using wpAny_loadPart' hl)
      | (refine wpAny_ite_false (decide_eq_false (Nat.not_lt.mpr hsz)) ?_; wp_walk using wpAny_loadPart' hl))
    exact ⟨_, rfl, h⟩
def rRepT1 (K : PySem.W.Frag) : R2 := fun x y H Q => ∃ l xs, x = .ref l ∧ SqT K H l xs ∧ ((y = .int 1 ∧ Q (.ref l) H) ∨ (y = .int 0 ∧ xs ≠ [] ∧ NewT H [] Q))
section
variable {X : Cx} {pos : Pos} {a b : Expr} {fa fb : FT}
theorem op_repT1 : OpR X (binaryOp .Mult) (rRepT1 X.K) := by
  intro pins s σ H x y v u Q I rx ry h
  obtain ⟨l, xs, rfl, hT, h⟩ := h
  cases rx
  obtain ⟨its, r, ⟨⟨cls, dd, data, sl⟩, ho, hc, n, hd⟩, hs⟩ := I.tuple hT
  simp only at hc hd
  subst hc hd
  rcases h with ⟨rfl, q⟩ | ⟨rfl, hne, q⟩
  · obtain ⟨t, rfl⟩ := ry
    refine wpAny_binaryOp_repeat_ref (T := "tuple") (U := "int") (by decide) ⟨_, ho, rfl⟩ (fun s' => typeIs_int s' 1 t) noFill_tuple_mul F.fills_int_mul F.slot_int_rmul repeat_tuple F.slot_int_index.lookup
      (call_meets F.slot_int_rmul (typeIs_int s 1 t) F.entry_int_rmul (F.args_int_rmul_2 _ _) (int_rmul_tuple 1 t l its.toArray n dd sl)
        ⟨ho, rfl, ⟨_, ho, rfl⟩, call_meets F.slot_tuple_mul ⟨_, ho, rfl⟩ F.entry_tuple_mul (F.args_tuple_mul_2 _ _) (tuple_mul1W l its.toArray n dd sl t (by rw [Bool.or_comm]; rfl)) ⟨ho, ?_⟩⟩)
    exact ⟨.ref l, H, I, rfl, q⟩
  · obtain ⟨t, rfl⟩ := ry
    have hn : its ≠ [] := fun e => hne (by
      have hle : its.length = xs.length := r.length.symm
      rw [e] at hle
      exact List.eq_nil_of_length_eq_zero hle.symm)
    have hi : its.toArray.isEmpty = false := by
      cases its with
      | nil => exact absurd rfl hn
      | cons a b => rfl
    refine wpAny_binaryOp_repeat_ref (T := "tuple") (U := "int") (by decide) ⟨_, ho, rfl⟩ (fun s' => typeIs_int s' 0 t) noFill_tuple_mul F.fills_int_mul F.slot_int_rmul repeat_tuple F.slot_int_index.lookup
      (call_meets F.slot_int_rmul (typeIs_int s 0 t) F.entry_int_rmul (F.args_int_rmul_2 _ _) (int_rmul_tuple 0 t l its.toArray n dd sl)
        ⟨ho, rfl, ⟨_, ho, rfl⟩, call_meets F.slot_tuple_mul ⟨_, ho, rfl⟩ F.entry_tuple_mul (F.args_tuple_mul_2 _ _) (tuple_mul0W l its.toArray n dd sl t (by rw [hi]; rfl) (by rw [sizeLine_eq]; decide)) ⟨ho, ?_⟩⟩)
    exact lay_tup (its := []) I (by decide) .nil q
def rRepT2 (K : PySem.W.Frag) : R2 := fun x y H Q => ∃ l k xs, x = .ref l ∧ y = .int k ∧ SqT K H l xs ∧ xs ≠ [] ∧ 2 ≤ k ∧ k ≤ 1000 ∧ xs.length ≤ 1000 ∧ xs.length * k.toNat ≤ 900000 ∧ NewT H (List.replicate k.toNat xs).flatten Q
theorem op_repT2 : OpR X (binaryOp .Mult) (rRepT2 X.K) := by
  intro pins s σ H x y v u Q I rx ry h
  obtain ⟨l, k, xs, rfl, rfl, hT, hne, h1, h2, hz, hz2, q⟩ := h
  cases rx
  obtain ⟨t, rfl⟩ := ry
  obtain ⟨its, r, ⟨⟨cls, dd, data, sl⟩, ho, hc, n, hd⟩, hs⟩ := I.tuple hT
  simp only at hc hd
  subst hc hd
  have hle : its.length = xs.length := r.length.symm
  have hn : its ≠ [] := fun e => hne (by
    rw [e] at hle
    exact List.eq_nil_of_length_eq_zero hle.symm)
  have hi : its.toArray.isEmpty = false := by
    cases its with
    | nil => exact absurd rfl hn
    | cons a b => rfl
  have hsz0 : its.toArray.size = xs.length := by rw [List.size_toArray, hle]
  have hm : ((its.toArray.size : Nat) : Int) * k ≤ 1000000 := by
    rw [hsz0]
    have a1 : ((xs.length : Nat) : Int) * k ≤ 1000 * k := Int.mul_le_mul_of_nonneg_right (by omega) (by omega)
    omega
  have flen : (List.replicate k.toNat its).flatten.length ≤ sizeLine := by
    rw [PyProof.Rows.lm_len_rep_flat, hle, sizeLine_eq]
    have a1 : k.toNat * xs.length ≤ 1000 * 1000 := Nat.mul_le_mul (by omega) hz
    omega
  have c0 : (decide (k < -(2 ^ 63)) || decide (k ≥ 2 ^ 63)) = false := by
    rw [decide_eq_false (by omega), decide_eq_false (by omega)] <;> rfl
  have c1 : (its.toArray.isEmpty || k == 1) = false := by
    rw [hi, Bool.false_or]
    exact beq_eq_false_iff_ne.mpr (by omega)
  have c2 : (decide (k ≤ 0) || its.toArray.isEmpty) = false := by
    rw [hi, Bool.or_false]
    exact decide_eq_false (by omega)
  have c4 : Builtin.Tuple.tupleTooMany (((its.toArray.size : Nat) : Int) * k) = false := by
    unfold Builtin.Tuple.tupleTooMany
    rw [sizeLine_eq]
    exact decide_eq_false (by omega)
  refine wpAny_binaryOp_repeat_ref (T := "tuple") (U := "int") (by decide) ⟨_, ho, rfl⟩ (fun s' => typeIs_int s' k t) noFill_tuple_mul F.fills_int_mul F.slot_int_rmul repeat_tuple F.slot_int_index.lookup
    (call_meets F.slot_int_rmul (typeIs_int s k t) F.entry_int_rmul (F.args_int_rmul_2 _ _) (int_rmul_tuple k t l its.toArray n dd sl)
      ⟨ho, rfl, ⟨_, ho, rfl⟩, call_meets F.slot_tuple_mul ⟨_, ho, rfl⟩ F.entry_tuple_mul (F.args_tuple_mul_2 _ _) (tuple_mulW l its.toArray n dd sl k t c0 c1 c2 (by omega) c4 (by rw [size_rep, List.size_toArray]; exact flen)) ⟨ho, ?_⟩⟩)
  rw [size_rep]
  exact lay_tup I (by rw [PyProof.Rows.lm_len_rep_flat, Nat.mul_comm]; exact Nat.le_trans hz2 (by decide)) (r.rep k.toNat) q
noncomputable def gMulT : PyData → PyData → Option PyData
  | .tuple xs, .int k => req (xs ≠ [] ∧ 0 ≤ k ∧ k ≤ 1000 ∧ xs.length ≤ 900) (some (.tuple (List.replicate k.toNat xs).flatten))
  | _, _ => none
theorem p_mulT {K : PySem.W.Frag} : Up2 K (rdP2 gMulT) (fun x y H Q => rRepT2 K x y H Q ∨ rRepT1 K x y H Q) := fun x y μ Qd v u H Q m rx ry ⟨a, b, z, ea, eb, ez, q⟩ w => by
  unfold gMulT at ez
  split at ez
  · next xs k =>
    obtain ⟨⟨hn, h1, h2, h3⟩, e⟩ := req_some ez
    cases e
    obtain ⟨rfl, p, vs, rfl, s, t⟩ := look_tup rx ea
    have l1 := t.length
    rw [look_int ry eb]
    by_cases hk : k = 1
    · subst hk
      refine .inr ⟨p, vs, rfl, same_seqT unhid s, .inl ⟨rfl, ?_⟩⟩
      have e1 : (List.replicate (1 : Int).toNat xs).flatten = xs := by simp
      rw [e1] at q
      exact w (.d (.tuple xs)) μ _ H (.refl _ _) m (.tup s t) q
    by_cases hk0 : k = 0
    · subst hk0
      refine .inr ⟨p, vs, rfl, same_seqT unhid s, .inr ⟨rfl, fun z => hn ?_, ?_⟩⟩
      · subst z
        cases t; rfl
      · have e1 : (List.replicate (0 : Int).toNat xs).flatten = [] := by simp
        rw [e1] at q
        exact wk_tup w m .nil q
    · refine .inl ⟨p, k, vs, rfl, rfl, same_seqT unhid s, fun z => hn ?_, by omega, h2, by omega, ?_, wk_tup w m (da_rep t _) q⟩
      · subst z
        cases t; rfl
      · have : vs.length * k.toNat ≤ 900 * 1000 := Nat.mul_le_mul (by omega) (by omega)
        omega
  · cases ez
theorem f_mulT (ha : FE X a fa) (hb : FE X b fb) : FE X (.BinOp a .Mult b pos) (fOp gMulT fa fb) := d_imp (d_op (op_repT2.or op_repT1) p_mulT ha hb) up_fOp
end
end FL
namespace FL
open PySem PySem.Spec PyProof.Rows L2 DL
section
variable {X : Cx}
end
end FL

namespace FL
open PySem PySem.Spec PyProof.Rows L2 DL
section
variable {X : Cx} {pos : Pos} {e : Expr} {fe : FT}
end
end FL

namespace FL
open PySem PySem.Spec PyProof.Rows L2 DL
section
variable {X : Cx} {pos : Pos} {e : Expr} {te : DT} {fe : FT}
end
end FL
namespace FL
open PySem PySem.Spec PyProof.Rows L2 DL
section
variable {X : Cx} {pos : Pos} {a b : Expr} {fa fb : FT}
end
section
variable {X : Cx}
end
end FL
namespace FL
open PySem PySem.Spec PyProof.Rows L2 DL
section
variable {X : Cx} {pos apos cpos : Pos} {e o : Expr} {es : List Expr} {fo : FT} {fr : FTA}
end
end FL

namespace FL
open PySem PySem.Spec PyProof.Rows L2 DL
section
variable {X : Cx} {tg e : Expr} {td : TE} {te : DT} {fe : FT} {K : PySem.W.Frag}
end
end FL

namespace FL
open PySem PySem.Spec PyProof.Rows L2 DL
abbrev Tg2 := List (Nat ⊕ List Nat)
def ix2 : Tg2 → List Nat
  | [] => []
  | .inl i :: l => i :: ix2 l
  | .inr is :: l => is ++ ix2 l
def set2 : Tg2 → List PyData → DSt → DSt
  | .inl i :: l, d :: ds, δ => set2 l ds (δ.set i (some (.d d)))
  | .inr is :: l, .tuple xs :: ds, δ => set2 l ds (setAll is xs δ)
  | _, _, δ => δ
def fit2 : Tg2 → List PyData → Prop
  | [], [] => True
  | .inl _ :: l, _ :: ds => fit2 l ds
  | .inr is :: l, .tuple xs :: ds => xs.length = is.length ∧ fit2 l ds
  | _, _ => False
theorem fit2_len : ∀ {l : Tg2} {xs : List PyData}, fit2 l xs → xs.length = l.length
  | [], [], _ => rfl
  | .inl _ :: l, _ :: ds, h => by simp [fit2_len (l := l) (xs := ds) h]
  | .inr is :: l, .tuple xs :: ds, h => by simp [fit2_len (l := l) (xs := ds) h.2]
  | [], _ :: _, h => h.elim
  | .inl _ :: _, [], h => h.elim
  | .inr _ :: _, [], h => h.elim
  | .inr _ :: _, .none :: _, h => h.elim
  | .inr _ :: _, .bool _ :: _, h => h.elim
  | .inr _ :: _, .int _ :: _, h => h.elim
  | .inr _ :: _, .str _ :: _, h => h.elim
  | .inr _ :: _, .list _ :: _, h => h.elim
  | .inr _ :: _, .dict _ :: _, h => h.elim
def gdT2 (l : Tg2) : DTG := fun d δ μ Q => match d with
  | .d (.tuple xs) => fit2 l xs ∧ Q (set2 l xs δ) μ
  | _ => False
def gN2 (K : PySem.W.Frag) : Tg2 → TGs
  | [] => gNil
  | .inl i :: l => gCons (gName i) (gN2 K l)
  | .inr is :: l => gCons (gTup K is.length (gNames is)) (gN2 K l)
theorem gN2_use {vs' : List Nat} {K : PySem.W.Frag} {μ : Mu} {H : Hp} : ∀ {l : Tg2} {vs : List V} {xs : List PyData} {σ : L2.St} {δ : DSt} {Q : L2.St → Hp → Prop}, (∀ i ∈ ix2 l, i ∈ vs') → DaAll K (hid μ H) vs xs → fit2 l xs → RS K μ H σ δ →
    (∀ σ', RS K μ H σ' (set2 l xs δ) → wipe σ' vs' = wipe σ vs' → Q σ' H) → gN2 K l vs σ H Q
  | [], _, [], _, _, _, _, r, _, rs, q => by
    cases r
    exact ⟨rfl, q _ rs rfl⟩
  | .inl i :: l, _, d :: ds, σ, δ, Q, hi, r, hf, rs, q => by
    cases r with
    | @cons v vs _ _ a t =>
      exact ⟨v, vs, rfl, gN2_use (l := l) (fun j hj => hi j (List.mem_cons_of_mem _ hj)) t hf (rs.set (d := .d d) a i) fun σ' rs' e => q σ' rs' (by rw [e, wipe_set (hi i List.mem_cons_self)])⟩
  | .inr is :: l, _, .tuple ys :: ds, σ, δ, Q, hi, r, hf, rs, q => by
    cases r with
    | @cons v vs _ _ a t =>
      cases a with
      | @tup p us _ s u =>
        refine ⟨.ref p, vs, rfl, p, us, rfl, same_seqT unhid s, by rw [u.length, hf.1], ?_⟩
        refine gNames_use2 (vs' := vs') (fun j hj => hi j (List.mem_append_left _ hj)) u hf.1 rs fun σ1 rs1 e1 => ?_
        exact gN2_use (l := l) (fun j hj => hi j (List.mem_append_right _ hj)) t hf.2 rs1 fun σ' rs' e => q σ' rs' (by rw [e, e1])
  | [], _, _ :: _, _, _, _, _, _, h, _, _ => h.elim
  | .inl _ :: _, _, [], _, _, _, _, _, h, _, _ => h.elim
  | .inr _ :: _, _, [], _, _, _, _, _, h, _, _ => h.elim
  | .inr _ :: _, _, .none :: _, _, _, _, _, _, h, _, _ => h.elim
  | .inr _ :: _, _, .bool _ :: _, _, _, _, _, _, h, _, _ => h.elim
  | .inr _ :: _, _, .int _ :: _, _, _, _, _, _, h, _, _ => h.elim
  | .inr _ :: _, _, .str _ :: _, _, _, _, _, _, h, _, _ => h.elim
  | .inr _ :: _, _, .list _ :: _, _, _, _, _, _, h, _, _ => h.elim
  | .inr _ :: _, _, .dict _ :: _, _, _, _, _, _, h, _, _ => h.elim
section
variable {X : Cx} {pos : Pos}
theorem pgs_n2 {i : Nat} {l : Tg2} {x : Str} {es : List Expr} {p : Pos} (h1 : PG X (.Name x p) (gName i)) (h2 : PGs X es (gN2 X.K l))
    (hs : (assignEach (.Name x p :: es) X.env).map (·.2) = assign (.Name x p) X.env :: (assignEach es X.env).map (·.2) := by rfl) : PGs X (.Name x p :: es) (gN2 X.K (.inl i :: l)) := pgs_cons h1 h2 hs
theorem pgs_t2 {is : List Nat} {l : Tg2} {es' es : List Expr} {k : Nat} {p : Pos} (h1 : PG X (.Tuple es' k p) (gTup X.K is.length (gNames is))) (h2 : PGs X es (gN2 X.K l))
    (hs : (assignEach (.Tuple es' k p :: es) X.env).map (·.2) = assign (.Tuple es' k p) X.env :: (assignEach es X.env).map (·.2) := by rfl) : PGs X (.Tuple es' k p :: es) (gN2 X.K (.inr is :: l)) := pgs_cons h1 h2 hs
theorem g_tup2 {bb : Bool} {es : List Expr} {k : Nat} {l : Tg2} (hc : X.calm = true) (h : PGs X es (gN2 X.K l))
    (hn : (assignEach es X.env).length = l.length := by rfl) (hst : (assignEach es X.env).findIdx? (·.1) = none := by rfl) : DG bb X (.Tuple es k pos) (gdT2 l) :=
  pg_imp (pg_tup hc h hn hst) fun v σ H Q ⟨δ, μ, d, Qd, rs, rm, r, q, w⟩ => by
    unfold gdT2 at q
    split at q
    · next xs =>
      obtain ⟨a, vs, rfl, s, t⟩ := DaI.tup (DaB.i (show DaB bb X.K (hid μ H) v (.tuple xs) from r))
      exact ⟨a, vs, rfl, same_seqW unhid s, by rw [t.length, fit2_len q.1], gN2_use (vs' := ix2 l) (fun _ h => h) t q.1 rs fun σ' rs' _ => w _ μ σ' H (.refl _ _) rm rs' q.2⟩
    · exact q.elim
end
def setF2 : Tg2 → List PyData → FSt → Option FSt
  | [], [], ε => some ε
  | .inl i :: l, x :: xs, ε => if isBb ε i = true then none else setF2 l xs (ε.set i (some (.d x)))
  | .inr is :: l, .tuple ys :: xs, ε => if ys.length = is.length then (setAllF is ys ε).bind (setF2 l xs) else none
  | _, _, _ => none
def tgT2 (l : Tg2) : GF := fun d ε => match d with
  | .tuple xs => setF2 l xs ε
  | _ => none
theorem setF2_tr : ∀ {l : Tg2} {xs : List PyData} {δ : DSt} {μ : Mu} {ε ε' : FSt}, Mt δ μ ε → setF2 l xs ε = some ε' → fit2 l xs ∧ Tr δ μ ε (set2 l xs δ) μ ε'
  | [], [], _, _, _, _, m, h => by cases h; exact ⟨trivial, .refl m⟩
  | .inl i :: l, x :: xs, δ, μ, ε, ε', m, h => by
    unfold setF2 at h
    split at h
    · cases h
    · next hb =>
      have t := Tr.setD (x := x) m (i := i) (by simpa using hb)
      obtain ⟨h1, h2⟩ := setF2_tr (l := l) t.mt h
      exact ⟨h1, t.trans m h2⟩
  | .inr is :: l, .tuple ys :: xs, δ, μ, ε, ε', m, h => by
    unfold setF2 at h
    split at h
    · next hl =>
      simp only [Option.bind_eq_some_iff] at h
      obtain ⟨ε1, h1, h2⟩ := h
      have t := setAllF_tr m h1
      obtain ⟨h3, h4⟩ := setF2_tr (l := l) t.mt h2
      exact ⟨⟨hl, h3⟩, t.trans m h4⟩
    · cases h
  | [], _ :: _, _, _, _, _, _, h => by cases h
  | .inl _ :: _, [], _, _, _, _, _, h => by cases h
  | .inr _ :: _, [], _, _, _, _, _, h => by cases h
  | .inr _ :: _, .none :: _, _, _, _, _, _, h => by cases h
  | .inr _ :: _, .bool _ :: _, _, _, _, _, _, h => by cases h
  | .inr _ :: _, .int _ :: _, _, _, _, _, _, h => by cases h
  | .inr _ :: _, .str _ :: _, _, _, _, _, _, h => by cases h
  | .inr _ :: _, .list _ :: _, _, _, _, _, _, h => by cases h
  | .inr _ :: _, .dict _ :: _, _, _, _, _, _, h => by cases h
theorem tgd_tup2 {l : Tg2} : TGd (gdT2 l) (tgT2 l) := ⟨fun {d δ μ ε ε'} m h => by
  unfold tgT2 at h
  split at h
  · next xs =>
    obtain ⟨h1, h2⟩ := setF2_tr m h
    exact ⟨_, h2, fun K k => ⟨h1, k⟩⟩
  · cases h⟩
theorem ap_tgT2 {l : Tg2} {xs : List PyData} {ε : FSt} : tgT2 l (.tuple xs) ε = setF2 l xs ε := rfl
theorem ap_set20 {ε : FSt} : setF2 [] [] ε = some ε := rfl
theorem ap_set2n {i : Nat} {l : Tg2} {x : PyData} {xs : List PyData} {ε : FSt} : setF2 (.inl i :: l) (x :: xs) ε = if isBb ε i = true then none else setF2 l xs (ε.set i (some (.d x))) := rfl
theorem ap_set2t {is : List Nat} {l : Tg2} {ys xs : List PyData} {ε : FSt} : setF2 (.inr is :: l) (.tuple ys :: xs) ε = if ys.length = is.length then (setAllF is ys ε).bind (setF2 l xs) else none := rfl
end FL

namespace FL
open PySem PySem.Spec PyProof.Rows L2 DL
def gdP (p : Addr) (xs : List PyData) (gd : DTG) : DTG := fun d δ μ Q => μ p = some (.lst xs) ∧ gd d δ μ Q
theorem enum_at {K : PySem.W.Frag} {μ : Mu} {H : Hp} {p : Addr} {ds : List PyData} (m : RM K μ H) (hp : μ p = some (.lst ds)) (i : Nat) :
    (∀ d, (enumD 0 ds)[i]? = some d → (Ite K p).go i H ∧ ∀ x H', (Ite K p).yld i H x H' → Ext μ H μ H' ∧ RM K μ H' ∧ DaB false K (hid μ H') x d) ∧ ((enumD 0 ds)[i]? = none → (Ite K p).stop i H) := by
  obtain ⟨vs, h1, t⟩ := m p _ hp
  have s' : SqL K H p vs := .of h1
  rw [enumD_get]
  refine ⟨fun d hd => ?_, fun hd => ⟨vs, s', ?_⟩⟩
  · rw [Option.map_eq_some_iff] at hd
    obtain ⟨y, hy, rfl⟩ := hd
    obtain ⟨v, h1, h2⟩ := t.get hy
    refine ⟨⟨vs, v, s', h1⟩, ?_⟩
    rintro x H2 ⟨T, x', rfl, hT, rfl, e2⟩
    have e3 := e2 vs s'
    rw [h1] at e3
    cases e3
    refine ⟨ext_new hT, m.new hT, Or.inr ⟨T, _, _, rfl, rfl, .inl (.inl (hid_new m hT)), (.cons ?_ (.cons (h2.mono (ext_new hT)) .nil))⟩⟩
    rw [Nat.zero_add]
    exact .int _
  · rw [t.length]
    rw [Option.map_eq_none_iff] at hd
    exact List.getElem?_eq_none_iff.mp hd
def upX (K : PySem.W.Frag) (tA : DTA) : TI := fun σ H R => ∃ δ μ, ∃ Qd : Addr → List PyData → Mu → Prop, RS K μ H σ δ ∧ RM K μ H ∧ tA δ μ (fun ds μ1 => ∃ p xs, ds = [.cell p] ∧ μ1 p = some (.lst xs) ∧ Qd p xs μ1) ∧
  ∀ p xs μ' H', Ext μ H μ' H' → RM K μ' H' → μ' p = some (.lst xs) → Qd p xs μ' → R (Ite K p) H'
section
variable {X : Cx} {pos : Pos} {elt tg iter e : Expr} {ifs : List Expr} {scope : Scope} {own : List (Str × Nat)} {g : TG} {gd : DTG} {tt : DTT} {te : DT} {vs : List Nat}
theorem i_enumX {tA : DTA} {p tpos : Pos} {elts : List Expr} {kk : Nat} (hg : Gl X "enumerate") (hm : X.mg "enumerate" = none) (ha : DA X [e] tA) (hs : starEach [e] X.env = [(false, eval e X.env)] := by rfl) : PI X (.Tuple elts kk tpos) (.Call (.Name "enumerate" p) [e] [] pos) (upX X.K tA) :=
  pi_imp (pi_enum hg hm ha hs) fun σ H R ⟨δ, μ, Qd, rs, rm, q, w⟩ => upA_use rs rm q fun ds μ1 vs H1 e1 m1 r1 ⟨p, xs, hd, hp, hq⟩ => by
    subst hd
    cases r1 with
    | @cons v _ us _ r t =>
      cases t
      cases (show v = .ref p from r)
      obtain ⟨vs, h1, h2⟩ := m1 p _ hp
      exact ⟨p, vs, rfl, .of h1, w p xs μ1 H1 e1 m1 hp hq⟩
theorem lc_upX {K : PySem.W.Frag} (G : CompG false K (own.map (·.2)) g gd) {fin : List PyData → Mu → Prop} {δ : DSt} {μ : Mu} {H : Hp} {σ : L2.St} {Q : VK} {p : Addr} {ds : List PyData} {D : Addr} (rs : RS K μ H σ δ) (rm : RM K μ H) (hD : H D = none)
    (h : lcGo (gdP p ds gd) tt te (wipeD δ (own.map (·.2))) D (fun acc μ' => μ' p = some (.lst ds) ∧ fin acc μ') (enumD 0 ds) [] (put μ D (.lst [])))
    (hf : ∀ acc μ' H', Ext μ H μ' H' → RM K μ' H' → μ' D = some (.lst acc) → fin acc μ' → Q (.ref D) H') :
    ∃ W : Nat → Nat → Hp → Prop, (∃ m, W 0 m (upd H D (.lst []))) ∧ ∀ i m H, W i m H → ((Ite K p).stop i H ∧ Q (.ref D) H) ∨ ((Ite K p).go i H ∧ ∃ Nx : Hp → Prop, (∀ H', Nx H' → ∃ m', m' < m ∧ W (i + 1) m' H') ∧ ∀ x H', (Ite K p).yld i H x H' → g x (wipe σ (own.map (·.2))) H' fun σ2 H2 => wipe σ2 (own.map (·.2)) = wipe σ (own.map (·.2)) ∧ upT K tt σ2 H2 fun b H3 =>
      if b = true then up K te σ2 H3 fun y H4 => ∃ acc, H4 D = some (.lst acc) ∧ acc.length < sizeLine ∧ Nx (upd H4 D (.lst (acc ++ [y]))) else Nx H3) := by
  refine ⟨fun i m H1 => ∃ μ1 acc, i ≤ (enumD 0 ds).length ∧ m = (enumD 0 ds).length - i ∧ Ext μ H μ1 H1 ∧ RM K μ1 H1 ∧ μ1 D = some (.lst acc) ∧ lcGo (gdP p ds gd) tt te (wipeD δ (own.map (·.2))) D (fun acc μ' => μ' p = some (.lst ds) ∧ fin acc μ') ((enumD 0 ds).drop i) acc μ1,
    ⟨(enumD 0 ds).length, put μ D (.lst []), [], Nat.zero_le _, by omega, ext_cell hD, rm.cell hD ⟨[], upd_same, .nil⟩, put_same, by simpa using h⟩, ?_⟩
  rintro i m H1 ⟨μ1, acc, hi, rfl, e1, m1, hD1, h1⟩
  cases hd : (enumD 0 ds)[i]? with
  | none =>
    have hle : (enumD 0 ds).length ≤ i := List.getElem?_eq_none_iff.mp hd
    rw [List.drop_eq_nil_of_le hle] at h1
    exact .inl ⟨(enum_at m1 h1.1 i).2 hd, hf acc μ1 H1 e1 m1 hD1 h1.2⟩
  | some d =>
    have hlt : i < (enumD 0 ds).length := (List.getElem?_eq_some_iff.mp hd).1
    have hdr : (enumD 0 ds).drop i = d :: (enumD 0 ds).drop (i + 1) := by
      rw [List.drop_eq_getElem_cons hlt]
      congr 1
      exact (List.getElem?_eq_some_iff.mp hd).2
    rw [hdr] at h1
    obtain ⟨hp1, h1⟩ := h1
    obtain ⟨go, yl⟩ := (enum_at m1 hp1 i).1 d hd
    refine .inr ⟨go, fun H' => ∃ μ' acc', Ext μ H μ' H' ∧ RM K μ' H' ∧ μ' D = some (.lst acc') ∧ lcGo (gdP p ds gd) tt te (wipeD δ (own.map (·.2))) D (fun acc μ' => μ' p = some (.lst ds) ∧ fin acc μ') ((enumD 0 ds).drop (i + 1)) acc' μ', fun H' ⟨μ', acc', x1, x2, x3, x4⟩ => ⟨(enumD 0 ds).length - (i + 1), by omega, μ', acc', by omega, rfl, x1, x2, x3, x4⟩, fun x H2 hy => ?_⟩
    obtain ⟨e2, m2, r2⟩ := yl x H2 hy
    have e12 := e1.trans e2
    have rs2 : RS K μ1 H2 (wipe σ (own.map (·.2))) (wipeD δ (own.map (·.2))) := (rs.mono e12).wipe _
    refine G.use (d := .d d) rs2 m2 r2 h1 fun σ2 δ2 rs3 hw h3 => ⟨hw, ?_⟩
    refine upT_use rs3 m2 h3 fun b μ3 H3 e3 m3 h4 => ?_
    cases b with
    | false =>
      rw [if_neg Bool.false_ne_true] at h4 ⊢
      exact ⟨μ3, acc, e12.trans e3, m3, h4.1, h4.2⟩
    | true =>
      rw [if_pos rfl] at h4 ⊢
      refine up_use (rs3.mono e3) m3 h4 fun y μ4 v H4 e4 m4 r4 h5 => ?_
      split at h5
      · next z =>
        obtain ⟨h6, h7, h8⟩ := h5
        obtain ⟨vs, g1, g2⟩ := m4 D _ h6
        refine ⟨vs, g1, by rw [g2.length]; exact Nat.lt_of_lt_of_le h7 (by decide), put μ4 D (.lst (acc ++ [z])), acc ++ [z], (e12.trans (e3.trans e4)).trans (ext_write h6), m4.write h6 ⟨_, upd_same, ?_⟩, put_same, h8⟩
        exact (g2.append (.cons r4 .nil)).mono (ext_write h6)
      · exact h5.elim
def sLcX (i : Nat) (tA : DTA) (gd : DTG) (tt : DTT) (te : DT) (vs : List Nat) : DTS := fun D δ μ => tA δ μ fun ds μ1 => ∃ p xs, ds = [.cell p] ∧ μ1 p = some (.lst xs) ∧ ∀ L, μ1 L = none →
  lcGo (gdP p xs gd) tt te (wipeD δ vs) L (fun acc μ' => μ' p = some (.lst xs) ∧ D.nx (δ.set i (some (.d (.list acc)))) (del μ' L)) (enumD 0 xs) [] (put μ1 L (.lst []))
theorem s_setLcX {tA : DTA} {i : Nat} {y : Str} {py spos p tpos ipos : Pos} {elts : List Expr} {kk : Nat} (hc : X.calm = true) (hN : X.N.Nodup) (hy : X.N[i]? = some y) (hyl : X.env.scope.names.lookup y = some .local)
    (hsw : swapsWith (.ListComp elt [⟨.Tuple elts kk tpos, .Call (.Name "enumerate" p) [e] [] ipos, ifs, 0⟩] scope pos) (some (.Name y py)) spos.line X.env = pure true)
    (hge : Gl X "enumerate") (hme : X.mg "enumerate" = none) (ha : DA X [e] tA) (hse : starEach [e] X.env = [(false, eval e X.env)]) (ok : BlkOk X.N X.env.scope scope own) (G : CompG false X.K vs g gd)
    (hg : ∀ (s : Shared) (H : Hp) (C : Addr) (cl : List (Str × Addr)) (fp : List Addr), PG (X.blk s H scope (compEnvC scope cl C X.env) fp) (.Tuple elts kk tpos) g)
    (ht : ∀ (s : Shared) (H : Hp) (C : Addr) (cl : List (Str × Addr)) (fp : List Addr), DTs (X.blk s H scope (compEnvC scope cl C X.env) fp) ifs tt)
    (he : ∀ (s : Shared) (H : Hp) (C : Addr) (cl : List (Str × Addr)) (fp : List Addr), DE (X.blk s H scope (compEnvC scope cl C X.env) fp) elt te)
    (hv : own.map (·.2) = vs) (hs : ∀ (x : Value), foldedSetIterable (.Call (.Name "enumerate" p) [e] [] ipos) X.env x = pure x) :
    DS X (.Assign [.Name y py] (.ListComp elt [⟨.Tuple elts kk tpos, .Call (.Name "enumerate" p) [e] [] ipos, ifs, 0⟩] scope pos) spos) (sLcX i tA gd tt te vs) := by
  subst hv
  exact ps_imp (ps_setLc hc hN hy hyl hsw (i_enumX hge hme ha hse) ok hg ht he hs) fun D' σ H ⟨δ, μ, Dd, rs, rm, q, w⟩ => ⟨δ, μ, _, rs, rm, q, fun p xs μ1 H1 e1 m1 hp q1 L hL => by
    refine lc_upX (fin := fun acc μ' => Dd.nx (δ.set i (some (.d (.list acc)))) (del μ' L)) (Q := fun v H' => D'.nx (σ.set i (some v)) H') G (rs.mono e1) m1 hL (q1 L (m1.free hL)) fun acc μ' H' e2 m2 hd qq => ?_
    have e3 := e1.trans (e2.trans (ext_freeze (p := L)))
    exact w.nx _ (del μ' L) _ H' e3 m2.freeze ((rs.mono e3).set (d := .d (.list acc)) (freeze_lst m2 hd) i) qq⟩
end
section
variable {X : Cx} {pos : Pos} {elt e : Expr} {ifs : List Expr} {scope : Scope} {own : List (Str × Nat)} {g : TG} {gd : DTG} {gf : GF} {tt : FTT} {fe : FT} {fr : FTA} {vs : List Nat}
open Classical in
noncomputable def gfX (j : Nat) (xs : List PyData) (gf : GF) : GF := fun d ε => if getC ε j = some (.lst xs) then gf d ε else none
theorem lcGo_upX (T : TGc vs gd gf) {δ : DSt} {μ : Mu} {ε : FSt} (m : Mt δ μ ε) {D : Addr} (hD : μ D = none) {j : Nat} {p : Addr} {xs : List PyData} (hj : δ[j]? = some (some (.cell p))) {fin : List PyData → Mu → Prop} : ∀ (ds acc : List PyData) {μc : Mu} {εc : FSt}, TrE δ μ ε μc εc → μc D = some (.lst acc) →
    (∃ acc' ε', fLcGo (gfX j xs gf) tt fe vs ds acc εc = .ok acc' ε' ∧ getC ε' j = some (.lst xs) ∧ ∀ μ', TrE δ μ ε μ' ε' → μ' D = some (.lst acc') → fin acc' μ') → lcGo (gdP p xs gd) (upFT tt) (upF fe) (wipeD δ vs) D (fun acc μ' => μ' p = some (.lst xs) ∧ fin acc μ') ds acc μc
  | [], acc, μc, εc, t, hd, ⟨acc', ε', e, hx, h⟩ => by
    cases e
    obtain ⟨q, h1, h2⟩ := t.mt.cel j _ hx
    rw [hj] at h1; cases h1
    exact ⟨h2, h _ t hd⟩
  | d :: ds, acc, μc, εc, t, hd, ⟨acc', ε', e, hx, h⟩ => by
    unfold fLcGo at e
    unfold lcGo
    cases e1 : gfX j xs gf d (wipeF εc vs) with
    | none => simp only [e1] at e; cases e
    | some ε1 =>
      simp only [e1] at e
      unfold gfX at e1
      split at e1
      · next hc =>
        obtain ⟨q, h1, h2⟩ := (t.mt.wipe vs).cel j _ hc
        rw [wipeD_get] at h1
        split at h1
        · cases h1
        · rw [hj] at h1; cases h1
          refine ⟨h2, ?_⟩
          obtain ⟨δ2, m2, o, hk⟩ := T.ok t.mt e1
          have nD : ¬ Adr δ2 ε1 D := fun ⟨j, h1, h2⟩ => by
            have hj : j ∉ vs := fun z => o.ins j z h1
            rw [(o.out j hj).1] at h2
            have : isC εc j := by
              have e : getC ε1 j = getC εc j := by unfold getC; rw [(o.out j hj).2]
              unfold isC at h1 ⊢
              rw [← e]; exact h1
            obtain ⟨c, hc⟩ := m.adr (t.kd.adr.mpr ⟨j, this, h2⟩)
            rw [hD] at hc; cases hc
          refine hk _ ⟨ε1, m2, ?_⟩
          cases e2 : tt ε1 with
          | no => rw [e2] at e; cases e
          | ex _ _ => rw [e2] at e; cases e
          | ok b ε2 =>
            rw [e2, R.bind_ok] at e
            intro b' μ3 t3 eb
            subst eb
            cases b' with
            | false =>
              rw [if_neg Bool.false_ne_true] at e ⊢
              exact ⟨t3.fr D _ hd nD, lcGo_upX T m hD hj ds acc (o.back t t3) (t3.fr D _ hd nD) ⟨acc', ε', e, hx, h⟩⟩
            | true =>
              rw [if_pos rfl] at e ⊢
              refine ⟨ε2, t3.mt, ?_⟩
              cases e4 : fe ε2 with
              | no => rw [e4] at e; cases e
              | ex _ _ => rw [e4] at e; cases e
              | ok y ε3 =>
                rw [e4, R.bind_ok] at e
                intro v μ4 t4 rf
                have t34 := t3.trans t4
                have h4 := t34.fr D _ hd nD
                cases y with
                | ref i => cases e
                | own c => cases e
                | val x =>
                  cases (show v = .d x from rf)
                  have e : (if acc.length < 1000000 then fLcGo (gfX j xs gf) tt fe vs ds (acc ++ [x]) (restF εc ε3 vs) else .no) = .ok acc' ε' := e
                  split at e
                  · next hl =>
                    exact ⟨h4, hl, lcGo_upX T m hD hj ds (acc ++ [x]) ((o.back t t34).over m hD) put_same ⟨acc', ε', e, hx, h⟩⟩
                  · cases e
      · cases e1
open Classical in
noncomputable def fsLcX (i : Nat) (fr : FTA) (gf : GF) (tt : FTT) (fe : FT) (vs : List Nat) : FS := fun ε => (fr ε).bind fun as ε1 => match as with
  | [.ref j] => match getC ε1 j with
    | some (.lst xs) => (fLcGo (gfX j xs gf) tt fe vs (enumD 0 xs) [] ε1).bind fun acc ε2 => if getC ε2 j = some (.lst xs) then setR i (.val (.list acc)) ε2 else .no
    | _ => .no
  | _ => .no
theorem fs_setLcX {i : Nat} {y : Str} {py spos p tpos ipos : Pos} {elts : List Expr} {kk : Nat} (hc : X.calm = true) (hN : X.N.Nodup) (hy : X.N[i]? = some y) (hyl : X.env.scope.names.lookup y = some .local)
    (hsw : swapsWith (.ListComp elt [⟨.Tuple elts kk tpos, .Call (.Name "enumerate" p) [e] [] ipos, ifs, 0⟩] scope pos) (some (.Name y py)) spos.line X.env = pure true)
    (hge : Gl X "enumerate") (hme : X.mg "enumerate" = none) (ha : FA X [e] fr) (ok : BlkOk X.N X.env.scope scope own) (G : CompG false X.K vs g gd) (T : TGc vs gd gf)
    (hg : ∀ (s : Shared) (H : Hp) (C : Addr) (cl : List (Str × Addr)) (fp : List Addr), PG (X.blk s H scope (compEnvC scope cl C X.env) fp) (.Tuple elts kk tpos) g)
    (ht : ∀ (s : Shared) (H : Hp) (C : Addr) (cl : List (Str × Addr)) (fp : List Addr), DTs (X.blk s H scope (compEnvC scope cl C X.env) fp) ifs (upFT tt))
    (he : ∀ (s : Shared) (H : Hp) (C : Addr) (cl : List (Str × Addr)) (fp : List Addr), FE (X.blk s H scope (compEnvC scope cl C X.env) fp) elt fe)
    (hv : own.map (·.2) = vs := by rfl) (hse : starEach [e] X.env = [(false, eval e X.env)] := by rfl) (hs : ∀ (x : Value), foldedSetIterable (.Call (.Name "enumerate" p) [e] [] ipos) X.env x = pure x := by intro _; rfl) :
    FSt1 X (.Assign [.Name y py] (.ListComp elt [⟨.Tuple elts kk tpos, .Call (.Name "enumerate" p) [e] [] ipos, ifs, 0⟩] scope pos) spos) (fsLcX i fr gf tt fe vs) :=
  s_imp (s_setLcX hc hN hy hyl hsw hge hme ha hse ok G hg ht he hv hs) fun D δ μ ⟨ε, m, h⟩ => by
    refine ⟨ε, m, ?_⟩
    have h : fitS D δ μ ε (fsLcX i fr gf tt fe vs ε) := h
    unfold fsLcX at h
    cases e1 : fr ε with
    | no => rw [e1] at h; exact h.elim
    | ex _ _ => rw [e1] at h; exact h.elim
    | ok as ε1 =>
      rw [e1, R.bind_ok] at h
      intro ws μ1 t rf
      cases rf with
      | nil => exact h.elim
      | @cons r v rs us rf rt =>
        cases rt with
        | cons _ _ => cases r <;> exact h.elim
        | nil =>
          cases r with
          | val _ => exact h.elim
          | own _ => exact h.elim
          | ref j =>
            obtain ⟨_, p, rfl, hj⟩ := rf
            cases hc0 : getC ε1 j with
            | none => simp only [hc0] at h; exact h.elim
            | some c0 =>
              cases c0 with
              | dct _ => simp only [hc0] at h; exact h.elim
              | lst xs =>
                simp only [hc0] at h
                obtain ⟨q, h1, h2⟩ := t.mt.cel j _ hc0
                rw [hj] at h1; cases h1
                refine ⟨p, xs, rfl, h2, fun L hL => ?_⟩
                have h0 : μ L = none := t.fresh m hL
                cases e2 : fLcGo (gfX j xs gf) tt fe vs (enumD 0 xs) [] ε1 with
                | no => rw [e2] at h; exact h.elim
                | ex _ _ => rw [e2] at h; exact h.elim
                | ok acc ε2 =>
                  rw [e2, R.bind_ok] at h
                  split at h
                  · next hx =>
                    exact lcGo_upX T m h0 hj (enumD 0 xs) [] (t.over m h0) put_same ⟨acc, ε2, e2, hx, fun μ' t' hd => setR_fit m (t'.drop m h0) (r := .val (.list acc)) (v := .d (.list acc)) rfl h⟩
                  · exact h.elim
open Classical in
theorem ap_lcX {i : Nat} {ε : FSt} : fsLcX i fr gf tt fe vs ε = (fr ε).bind fun as ε1 => match as with
  | [.ref j] => match getC ε1 j with
    | some (.lst xs) => (fLcGo (gfX j xs gf) tt fe vs (enumD 0 xs) [] ε1).bind fun acc ε2 => if getC ε2 j = some (.lst xs) then setR i (.val (.list acc)) ε2 else .no
    | _ => .no
  | _ => .no := rfl
theorem ap_gfX {j : Nat} {xs : List PyData} {d : PyData} {ε : FSt} (h : getC ε j = some (.lst xs)) : gfX j xs gf d ε = gf d ε := if_pos h
end
end FL

namespace FL
open PySem PySem.Spec PyProof.Rows L2 DL
section
variable {ε : FSt} {fa fb fc fe fo fi ff : FT} {fr : FTA} {t u : FTT} {f g : FS} {wi : FTI} {gf : GF}
theorem ap_var {i : Nat} : fVar i ε = match ε[i]? with
  | some (some (.d x)) => .ok (.val x) ε
  | some (some (.c _)) => .ok (.ref i) ε
  | some (some (.b _)) => .ok (.ref i) ε
  | _ => .no := rfl
theorem ap_c {x : PyData} : fC x ε = .ok (.val x) ε := rfl
theorem ap_un {g} : fUn g fa ε = (fa ε).bind fun x ε1 => ofO ε1 ((see ε1 x).bind g) := rfl
theorem ap_unV {g} : fUnV g fa ε = (fa ε).bind fun x ε1 => ofO ε1 ((seeV x).bind g) := rfl
theorem ap_op {g} : fOp g fa fb ε = (fa ε).bind fun x ε1 => (fb ε1).bind fun y ε2 => ofO ε2 ((see ε2 x).bind fun a => (see ε2 y).bind fun b => g a b) := rfl
theorem ap_opO {g} : fOpO g fa fb ε = (fa ε).bind fun x ε1 => (fb ε1).bind fun y ε2 => ofOL ε2 ((see ε2 x).bind fun a => (see ε2 y).bind fun b => g a b) := rfl
theorem ap_fn {g} : fFn g fr ε = (fr ε).bind fun xs ε1 => ofO ε1 ((sees ε1 xs).bind g) := rfl
theorem ap_nil : faNil ε = .ok [] ε := rfl
theorem ap_cons : faCons fa fr ε = (fa ε).bind fun x ε1 => (fr ε1).bind fun xs ε2 => .ok (x :: xs) ε2 := rfl
theorem ap_tr : fTr fe ε = (fe ε).bind fun x ε1 => ofB ε1 ((see ε1 x).bind gT) := rfl
theorem ap_b : fB fe ε = (fe ε).bind fun x ε1 => match x with
  | .val (.bool b) => .ok b ε1
  | _ => .no := rfl
theorem ap_tand : ftAnd t u ε = (t ε).bind fun b ε1 => if b = true then u ε1 else .ok false ε1 := rfl
theorem ap_tor : ftOr t u ε = (t ε).bind fun b ε1 => if b = true then .ok true ε1 else u ε1 := rfl
theorem ap_tnot : ftNot t ε = (t ε).bind fun b ε1 => .ok (!b) ε1 := rfl
theorem ap_and : fAndV fa fb ε = (fa ε).bind fun x ε1 => match (see ε1 x).bind gT with
  | some true => fb ε1
  | some false => .ok x ε1
  | none => .no := rfl
theorem ap_or : fOrV fa fb ε = (fa ε).bind fun x ε1 => match (see ε1 x).bind gT with
  | some true => .ok x ε1
  | some false => fb ε1
  | none => .no := rfl
theorem ap_not : fNotV fa ε = (fa ε).bind fun x ε1 => match (see ε1 x).bind gT with
  | some k => .ok (.val (.bool (!k))) ε1
  | none => .no := rfl
theorem ap_if : fIf t fa fb ε = (t ε).bind fun b ε1 => if b = true then fa ε1 else fb ε1 := rfl
theorem ap_chain {g g'} : fChain g g' fa fb fc ε = (fa ε).bind fun x ε1 => (fb ε1).bind fun y ε2 => match (see ε2 x).bind fun a => (see ε2 y).bind fun b => g a b with
  | some (.bool true) => (fc ε2).bind fun w ε3 => ofO ε3 ((see ε3 y).bind fun a => (see ε3 w).bind fun b => g' a b)
  | some (.bool false) => .ok (.val (.bool false)) ε2
  | _ => .no := rfl
theorem ap_tup : fTup fr ε = (fr ε).bind fun rs ε1 => ofO ε1 ((vals rs).bind fun xs => req (xs.length ≤ 1000) (some (.tuple xs))) := rfl
theorem ap_lst : fLst fr ε = (fr ε).bind fun rs ε1 => ofO ε1 ((vals rs).bind fun xs => req (xs.length ≤ 1000) (some (.list xs))) := rfl
theorem ap_lstO : fLstO fr ε = (fr ε).bind fun rs ε1 => ofOL ε1 ((vals rs).bind fun xs => req (xs.length ≤ 1000) (some (.list xs))) := rfl
theorem ap_dictO : fDictO ε = .ok (.own (.dct [])) ε := rfl
theorem ap_frz : frz fa ε = (fa ε).bind fun r ε1 => match r with
  | .own c => .ok (.val (cellD c)) ε1
  | .val x => .ok (.val x) ε1
  | .ref _ => .no := rfl
theorem ap_sl {fl fh} : fSl fe fl fh ε = (fe ε).bind fun x ε1 => (fl ε1).bind fun l ε2 => (fh ε2).bind fun u ε3 => ofO ε3 ((see ε3 x).bind (gCut l u)) := rfl
theorem ap_no : fNo ε = .ok none ε := rfl
theorem ap_part : fPart fe ε = (fe ε).bind fun x ε1 => match see ε1 x with
  | some (.int i) => .ok (some i) ε1
  | _ => .no := rfl
theorem ap_mut {g : GM} : fMut g fo fr ε = (fo ε).bind fun o ε1 => match o with
  | .ref i => (fr ε1).bind fun as ε2 => match getC ε1 i, getC ε2 i, vals as with
    | some (.lst _), some (.lst xs), some ys => match g xs ys with
      | some (z, xs') => .ok (.val z) (setC ε2 i (.lst xs'))
      | none => .no
    | _, _, _ => .no
  | _ => .no := rfl
theorem ap_call {F : Fn} : fCall F fr ε = (fr ε).bind (callR F) := rfl
theorem ap_callK {F : Fn} {p : {α : Type} → List α → List α} : fCallK F p fr ε = (fr ε).bind fun rs ε1 => callR F (p rs) ε1 := rfl
theorem ap_get : fGet fo fi ff ε = (fo ε).bind fun x ε1 => match (see ε1 x).bind kvsOf with
  | none => .no
  | some _ => (fi ε1).bind fun y ε2 => (ff ε2).bind fun z ε3 => match (see ε3 x).bind kvsOf, (see ε3 y).bind keyOf, seeV z with
    | some kvs, some k, some c => .ok (.val ((valD kvs k).getD c)) ε3
    | _, _, _ => .no := rfl
theorem ap_dict : fDict fe ε = (fe ε).bind fun r ε1 => match (seeV r).bind gDictO with
  | some c => .ok (.own c) ε1
  | none => .no := rfl
theorem ap_isi {T} : fIsi T fe ε = (fe ε).bind fun x ε1 => ofO ε1 ((seeV x).bind fun d => some (.bool ((kitB (kindOf d) T).getD false))) := rfl
theorem ap_rep : fRep fa fb ε = (fa ε).bind fun x ε1 => (fb ε1).bind fun y ε2 => repR (lstOf ε2 x) (see ε2 y) ε2 := rfl
theorem ap_listO : fListO fe ε = (fe ε).bind fun r ε1 => match (seeV r).bind itemsOf with
  | some xs => .ok (.own (.lst xs)) ε1
  | none => .no := rfl
theorem ap_seq : fiSeq fe ε = (fe ε).bind fun r ε1 => match (seeV r).bind itemsOf with
  | some xs => .ok xs ε1
  | none => .no := rfl
theorem ap_iargs {g} : fiArgs g fr ε = (fr ε).bind fun as ε1 => match (vals as).bind g with
  | some xs => .ok xs ε1
  | none => .no := rfl
theorem ap_lc {vs} : fLc wi gf t fe vs ε = (wi ε).bind fun ds ε1 => (fLcGo gf t fe vs ds [] ε1).bind fun acc ε2 => .ok (.val (.list acc)) ε2 := rfl
theorem ap_lcO {vs} : fLcO wi gf t fe vs ε = (wi ε).bind fun ds ε1 => (fLcGo gf t fe vs ds [] ε1).bind fun acc ε2 => .ok (.own (.lst acc)) ε2 := rfl
theorem ap_yes : fYes ε = .ok true ε := rfl
theorem ap_sq : fsSeq f g ε = (f ε).bind fun fl ε1 => match fl with
  | .nx => g ε1
  | fl => .ok fl ε1 := rfl
theorem ap_ret : fsRet fe ε = (fe ε).bind fun r ε1 => .ok (.rt r) ε1 := rfl
theorem ap_drop : fsDrop fe ε = (fe ε).bind fun _ ε1 => .ok .nx ε1 := rfl
theorem ap_sif : fsIf t f g ε = (t ε).bind fun b ε1 => if b = true then f ε1 else g ε1 := rfl
theorem ap_nx : fsNext ε = .ok .nx ε := rfl
theorem ap_bk : fsBrk ε = .ok .bk ε := rfl
theorem ap_ct : fsCnt ε = .ok .ct ε := rfl
theorem ap_asg {i} : fsAsg i fe ε = (fe ε).bind (setR i) := rfl
theorem ap_setR {i : Nat} {r : FR} : setR i r ε = match isBb ε i, frV r with
  | false, some x => .ok .nx (ε.set i (some x))
  | _, _ => .no := rfl
theorem ap_sfrz {i : Nat} : fsFrz i ε = match ε[i]? with
  | some (some (.c c)) => .ok .nx (ε.set i (some (.d (cellD c))))
  | some (some (.d _)) => .ok .nx ε
  | _ => .no := rfl
theorem ap_setI : fsSetI fo fi fe ε = (fe ε).bind fun r ε1 => (fo ε1).bind fun o ε2 => (fi ε2).bind fun k ε3 => setI o (see ε3 k) r ε3 := rfl
theorem ap_setK : fsSetK fo fi fe ε = (fe ε).bind fun r ε1 => (fo ε1).bind fun o ε2 => (fi ε2).bind fun k ε3 => setK o (see ε3 k) r ε3 := rfl
theorem ap_for : fsFor wi gf f ε = (wi ε).bind fun ds ε1 => fsGo gf f ds ε1 := rfl
theorem ap_par {i j} : fsPar i j fr ε = (fr ε).bind fun rs ε1 => match rs with
  | [x, y] => setR2 i j x y ε1
  | _ => .no := rfl
theorem ap_asgT {is} : fsAsgT is fe ε = (fe ε).bind fun r ε1 => match (seeV r).bind fun d => tgT is d ε1 with
  | some ε2 => .ok .nx ε2
  | none => .no := rfl
theorem ap_run {n : Nat} {vs : List FV} : runF n f vs = fin vs (f (startF n vs)) := rfl
theorem ap_see {x} : see ε (.val x) = some x := rfl
theorem ap_seeo {c} : see ε (.own c) = some (cellD c) := rfl
theorem ap_seer {i} : see ε (.ref i) = (getC ε i).map cellD := rfl
theorem ap_getC {i : Nat} : getC ε i = match ε[i]? with
  | some (some (.c c)) => some c
  | some (some (.b c)) => some c
  | _ => none := rfl
theorem ap_setC {i : Nat} {c : Cell} : setC ε i c = match ε[i]? with
  | some (some (.c _)) => ε.set i (some (.c c))
  | some (some (.b _)) => ε.set i (some (.b c))
  | _ => ε := rfl
theorem ap_sees0 : sees ε [] = some [] := rfl
theorem ap_sees1 {x : FR} {r : List FR} : sees ε (x :: r) = (see ε x).bind fun a => (sees ε r).map (a :: ·) := rfl
theorem ap_tgN {i d} : tgN i d ε = if isBb ε i = true then none else some (ε.set i (some (.d d))) := rfl
theorem ap_tgT {is d} : tgT is d ε = match d with
  | .tuple xs => if xs.length = is.length then setAllF is xs ε else none
  | _ => none := rfl
end
/-- borrowed -/
def bb : Option FV → Bool
  | some (.b _) => true
  | _ => false
theorem ap_bb0 {x : Option FV} {ε : FSt} : isBb (x :: ε) 0 = bb x := by
  cases x with
  | none => rfl
  | some v => cases v <;> rfl
theorem ap_bbs {x : Option FV} {ε : FSt} {i : Nat} : isBb (x :: ε) (i + 1) = isBb ε i := by
  unfold isBb; rw [List.getElem?_cons_succ]
theorem ap_bbn : bb none = false := rfl
theorem ap_bbd {x : PyData} : bb (some (.d x)) = false := rfl
theorem ap_bbc {x : Cell} : bb (some (.c x)) = false := rfl
theorem ap_bbb {x : Cell} : bb (some (.b x)) = true := rfl
theorem fin_val {vs : List FV} {x : PyData} {ε : FSt} : fin vs (.ok (.rt (.val x)) ε) = match bors vs ε with
    | some bs => .ok (.val x) bs
    | none => .no := rfl
theorem fin_own {vs : List FV} {c : Cell} {ε : FSt} : fin vs (.ok (.rt (.own c)) ε) = match bors vs ε with
    | some bs => .ok (.own c) bs
    | none => .no := rfl
theorem fin_ref {vs : List FV} {i : Nat} {ε : FSt} : fin vs (.ok (.rt (.ref i)) ε) = match ε[i]?, bors vs ε with
    | some (some (.c c)), some bs => .ok (.own c) bs
    | _, _ => .no := rfl
theorem fin_nx {vs : List FV} {ε : FSt} : fin vs (.ok .nx ε) = match bors vs ε with
    | some bs => .ok (.val .none) bs
    | none => .no := rfl
theorem bors_nil {ε : FSt} : bors [] ε = some [] := rfl
theorem bors_d {x : PyData} {vs : List FV} {o} {ε : FSt} : bors (.d x :: vs) (o :: ε) = bors vs ε := rfl
theorem bors_b {x c : Cell} {vs : List FV} {ε : FSt} : bors (.b x :: vs) (some (.b c) :: ε) = (bors vs ε).map (c :: ·) := rfl
/-- a def's answer: data, nothing borrowed -/
abbrev tell (x : PyData) : FO := .ok (.val x) []
section
variable {i j : Int} {a b : PyData} {xs ys : List PyData} {l u : Option Int}
theorem ap_glt : gLt (.int i) (.int j) = some (.bool (decide (i < j))) := rfl
theorem ap_gle : gLe (.int i) (.int j) = some (.bool (decide (i ≤ j))) := rfl
theorem ap_ggt : gGt (.int i) (.int j) = some (.bool (decide (j < i))) := rfl
theorem ap_gge : gGe (.int i) (.int j) = some (.bool (decide (j ≤ i))) := rfl
theorem ap_gsub : FL.gSub (.int i) (.int j) = some (.int (i - j)) := rfl
theorem ap_gadd : FL.gAdd (.int i) (.int j) = some (.int (i + j)) := rfl
theorem ap_gneg : gNeg (.int i) = some (.int (-i)) := rfl
theorem ap_gix : gIx a (.int i) = (itemsOf a).bind fun xs => atI xs i := rfl
theorem ap_cutl : gCut l u (.list xs) = some (.list (DL.cutD xs l u)) := rfl
theorem ap_cutt : gCut l u (.tuple xs) = some (.tuple (DL.cutD xs l u)) := rfl
theorem ap_gtup : gTuple [a] = (itemsOf a).map .tuple := rfl
theorem ap_glist : gList [a] = (itemsOf a).map .list := rfl
theorem ap_glen : gLen [a] = (itemsOf a).map fun xs => .int xs.length := rfl
theorem ap_gint : gInt [.int i] = some (.int i) := rfl
theorem ap_gintb {k : Bool} : gInt [.bool k] = some (.int (if k then 1 else 0)) := rfl
theorem ap_gabs : gAbs [.int i] = some (.int (if i < 0 then -i else i)) := rfl
theorem ap_gmax : gMax2 [.int i, .int j] = some (.int (if j > i then j else i)) := rfl
theorem ap_gmin : gMin2 [.int i, .int j] = some (.int (if j < i then j else i)) := rfl
theorem ap_isN : gIsN a .none = some (.bool (isNone a)) := rfl
theorem ap_notN : gNotN a .none = some (.bool (!isNone a)) := rfl
theorem ap_geq : gEq a b = (eqP a b).map .bool := rfl
theorem ap_gne : gNe a b = (eqP a b).map fun z => .bool (!z) := rfl
theorem ap_eqi : eqP (.int i) (.int j) = some (decide (i = j)) := rfl
theorem ap_eqb {i j : Bool} : eqP (.bool i) (.bool j) = some (decide (i = j)) := rfl
theorem ap_eqs {i j : Str} : eqP (.str i) (.str j) = some (decide (i = j)) := rfl
theorem ap_iol : itemsOf (.list xs) = some xs := rfl
theorem ap_iot : itemsOf (.tuple xs) = some xs := rfl
theorem ap_gtn : gT .none = some false := rfl
theorem ap_gtb {k : Bool} : gT (.bool k) = some k := rfl
theorem ap_gti : gT (.int i) = some (i != 0) := rfl
theorem ap_gtl : gT (.list xs) = some (!xs.isEmpty) := rfl
theorem ap_gtt : gT (.tuple xs) = some (!xs.isEmpty) := rfl
theorem ap_isn0 : isNone .none = true := rfl
theorem ap_isni : isNone (.int i) = false := rfl
theorem ap_isnl : isNone (.list xs) = false := rfl
theorem ap_isnt : isNone (.tuple xs) = false := rfl
theorem ap_cellL : cellD (.lst xs) = .list xs := rfl
theorem ap_revl : gRev (.list xs) = some (.list xs.reverse) := rfl
theorem ap_revt : gRev (.tuple xs) = some (.tuple xs.reverse) := rfl
theorem ap_enum : gEnum [.list xs] = some (enumD 0 xs) := rfl
theorem ap_zipl : gZip [.list xs, .list ys] = some (zipD xs ys) := rfl
theorem ap_zipt : gZip [.tuple xs, .tuple ys] = some (zipD xs ys) := rfl
end
def runT (gf : GF) (fB : FS) (d : PyData) : FS := fun ε => match gf d ε with
  | none => .no
  | some ε1 => fB ε1
theorem go_nx {gf : GF} {fB : FS} {d : PyData} {ds : List PyData} {ε ε2 : FSt} (h : runT gf fB d ε = .ok .nx ε2) : fsGo gf fB (d :: ds) ε = fsGo gf fB ds ε2 := by
  unfold runT at h
  rw [fsGo]
  cases e : gf d ε with
  | none => simp only [e] at h; cases h
  | some ε1 => simp only [e] at h ⊢; simp only [h, R.bind_ok]
theorem go_rt {gf : GF} {fB : FS} {d : PyData} {ds : List PyData} {ε ε2 : FSt} {r : FR} (h : runT gf fB d ε = .ok (.rt r) ε2) : fsGo gf fB (d :: ds) ε = .ok (.rt r) ε2 := by
  unfold runT at h
  rw [fsGo]
  cases e : gf d ε with
  | none => simp only [e] at h; cases h
  | some ε1 => simp only [e] at h ⊢; simp only [h, R.bind_ok]
theorem ap_runT {gf : GF} {fB : FS} {d : PyData} {ε : FSt} : runT gf fB d ε = match gf d ε with
  | none => .no
  | some ε1 => fB ε1 := rfl
theorem lc_pure {gf : GF} {tt : FTT} {fe : FT} {vs : List Nat} {ε : FSt} {f : PyData → PyData} {p : PyData → Bool} : ∀ (ds acc : List PyData), acc.length + ds.length ≤ 1000000 →
    (∀ d ∈ ds, ∃ ε1, gf d (wipeF ε vs) = some ε1 ∧ restF ε ε1 vs = ε ∧ tt ε1 = .ok (p d) ε1 ∧ (p d = true → fe ε1 = .ok (.val (f d)) ε1)) → fLcGo gf tt fe vs ds acc ε = .ok (acc ++ (ds.filter p).map f) ε
  | [], acc, hl, h => by simp [fLcGo]
  | d :: ds, acc, hl, h => by
    obtain ⟨ε1, h1, h2, h3, h4⟩ := h d List.mem_cons_self
    have ih := fun acc hl => lc_pure ds acc hl fun e he => h e (List.mem_cons_of_mem _ he)
    unfold fLcGo
    simp only [List.length_cons] at hl
    simp only [h1, h3, R.bind_ok]
    cases hp : p d with
    | false => simp only [hp, Bool.false_eq_true, if_false, h2, List.filter_cons_of_neg, not_false_eq_true]; exact ih acc (by omega)
    | true =>
      simp only [hp, if_true, h4 hp, R.bind_ok, h2, List.filter_cons_of_pos, List.map_cons]
      rw [if_pos (by omega), ih (acc ++ [f d]) (by simp; omega)]
      simp
theorem lc_all {gf : GF} {fe : FT} {vs : List Nat} {ε : FSt} (f : PyData → PyData) {ds : List PyData} (hl : ds.length ≤ 1000000)
    (h : ∀ d ∈ ds, ∃ ε1, gf d (wipeF ε vs) = some ε1 ∧ restF ε ε1 vs = ε ∧ fe ε1 = .ok (.val (f d)) ε1) : fLcGo gf fYes fe vs ds [] ε = .ok (ds.map f) ε := by
  rw [lc_pure (f := f) (p := fun _ => true) ds [] (by simpa using hl) (fun d hd => by obtain ⟨ε1, a, b, c⟩ := h d hd; exact ⟨ε1, a, b, rfl, fun _ => c⟩), List.filter_eq_self.mpr (by simp)]
  rfl
theorem lc_some {gf : GF} {tt : FTT} {fe : FT} {vs : List Nat} {ε : FSt} (f : PyData → PyData) (p : PyData → Bool) {ds : List PyData} (hl : ds.length ≤ 1000000)
    (h : ∀ d ∈ ds, ∃ ε1, gf d (wipeF ε vs) = some ε1 ∧ restF ε ε1 vs = ε ∧ tt ε1 = .ok (p d) ε1 ∧ (p d = true → fe ε1 = .ok (.val (f d)) ε1)) : fLcGo gf tt fe vs ds [] ε = .ok ((ds.filter p).map f) ε := by
  rw [lc_pure (f := f) (p := p) ds [] (by simpa using hl) h]; simp
end FL

namespace FL
open PySem PySem.Spec PyProof.Rows L2 DL
section
variable {ε : FSt} {fr : FTA} {r : FR} {rs : List FR}
theorem ap_parN {is} : fsParN is fr ε = (fr ε).bind fun rs ε1 => if rs.length = is.length then match setAllR is rs ε1 with
  | some ε2 => .ok .nx ε2
  | none => .no else .no := rfl
theorem ap_sar0 : setAllR [] [] ε = some ε := rfl
theorem ap_sar1 {i : Nat} {is : List Nat} : setAllR (i :: is) (r :: rs) ε = if isBb ε i = true then none else (frV r).bind fun x => setAllR is rs (ε.set i (some x)) := rfl
theorem ap_frv {d : PyData} : frV (.val d) = some (.d d) := rfl
theorem ap_fro {c : Cell} : frV (.own c) = some (.c c) := rfl
theorem ap_call1 {F : Fn} {fa : FT} : fCall1O F fa ε = (fa ε).bind (call1O F) := rfl
theorem ap_c1o {F : Fn} {c : Cell} : call1O F (.own c) ε = match F [.b c] with
  | .ok (.val x) [_] => .ok (.val x) ε
  | .ok (.own c') [_] => .ok (.own c') ε
  | _ => .no := rfl
theorem ap_view {f : FT} : fView f ε = match f (frzAll ε) with
  | .ok (.val x) _ => if flatT x = true then .ok (.val x) ε else .no
  | _ => .no := rfl
theorem ap_frza0 : frzAll [] = [] := rfl
theorem ap_frza {v : Option FV} : frzAll (v :: ε) = frzV v :: frzAll ε := rfl
theorem ap_frzc {c : Cell} : frzV (some (.c c)) = some (.d (cellD c)) := rfl
theorem ap_frzb {c : Cell} : frzV (some (.b c)) = some (.d (cellD c)) := rfl
theorem ap_frzd {d : PyData} : frzV (some (.d d)) = some (.d d) := rfl
theorem ap_frzn : frzV none = none := rfl
end
end FL

namespace FL
open PySem PySem.Spec PyProof.Rows L2 DL
section
variable {X : Cx} {pos : Pos} {a b : Expr} {fa fb : FT}
def gNotB : PyData → PyData → Option PyData
  | .bool x, .bool y => some (.bool (!decide (x = y)))
  | _, _ => none
theorem p_notB {K : PySem.W.Frag} : Up2 K (rdP2 gNotB) (fun x y H Q => ∃ a b, x = .bl a ∧ y = .bl b ∧ Q (.bl (!decide (a = b))) H) := fun x y μ Qd v u H Q m rx ry ⟨a, b, z, ea, eb, ez, q⟩ w => by
  unfold gNotB at ez
  split at ez
  · next i j =>
    cases ez
    exact ⟨i, j, look_bool rx ea, look_bool ry eb, w (.d (.bool _)) μ _ H (.refl _ _) m (Da.bl _) q⟩
  · cases ez
theorem fc_notB (ha : FE X a fa) (hb : FE X b fb) : FC X (.Compare a [.IsNot] [b] pos) (fB (fOp gNotB fa fb)) := fc_cmp op_isnot_bl p_notB (nomark _) ha hb
theorem ap_notB {x y : Bool} : gNotB (.bool x) (.bool y) = some (.bool (!decide (x = y))) := rfl
end
end FL

namespace FL
open PySem PySem.Spec PyProof.Rows L2 DL
def enOb (it : Addr) : Obj := { cls := .type "enumerate", data := .fields #[.none, .bool false, .ref it, rawInt 0, .none, .none] }
section
variable {P : Program} {w : World}
theorem new_enum1 {v : Value} {ob : Obj} {Hs : Heap → Prop} (B : Begins v ob Hs) :
    Meets (Builtin.«enumerate.__new__» ⟨[.type "enumerate", v], []⟩) (fun _ R s => Hs s.heap ∧ R (.ok (.ret (.ref (s.heap.push ob).objs.size))) { s with heap := (s.heap.push ob).push (enOb s.heap.objs.size) }) :=
  .of_wp fun P w A R s hs => by
    rcases s with ⟨hp, gs, dr, tk, os⟩
    obtain ⟨pre, post⟩ := hs
    have isub := sub_enumerate
    have start : ∀ {B' : Around} {E Q : Value → Shared → Prop}, Q (.ref hp.objs.size) ⟨hp.push ob, gs, dr, tk, os⟩ → wpAny (model P w) B' (pyIter v) Q E ⟨hp, gs, dr, tk, os⟩ := fun k => B.iter P w _ _ _ _ pre k
    unfold enOb at post
    wp_walk using start
    refine wpAny_stack_any fun fr => wpAny_pure ?_
    split
    · rename_i cl _ _ _ _ _
      cases (cl == Value.type "enumerate") <;> (wp_walk using start; exact ⟨_, rfl, post⟩)
    · wp_walk using start
      exact ⟨_, rfl, post⟩
theorem call_enum1 {A : Around} {E Q : Value → Shared → Prop} {s : Shared} {v : Value} {ob : Obj} {Hs : Heap → Prop} (B : Begins v ob Hs) (pre : Hs s.heap)
    (k : ∀ h2, IsEnum h2 (s.heap.objs.size + 1) s.heap.objs.size 0 .none → h2.get? s.heap.objs.size = some ob → (∀ b o, s.heap.get? b = some o → h2.get? b = some o) → Q (.ref (s.heap.objs.size + 1)) { s with heap := h2 }) :
    wpAny (model P w) A (call (.type "enumerate") [v]) Q E s := by
  have z : (s.heap.push ob).objs.size = s.heap.objs.size + 1 := Heap.size_push ..
  have top := Heap.get?_push_size (s.heap.push ob) (o := enOb s.heap.objs.size) rfl
  rw [z] at top
  refine callType_new F.called_enumerate (by decide) (F.typeCall_enumerate_1 v) (F.newCall_enumerate_1 v) (fun ty => F.args_object_init_2 ty v) F.entry_enumerate_new (new_enum1 B) ⟨pre, ?_⟩
  show _ ∧ _
  rw [z]
  exact ⟨⟨_, top, rfl⟩, k _ top (Heap.get?_push_of_some _ (Heap.get?_push_size _ B.free)) fun b o e => Heap.get?_push_of_some _ (Heap.get?_push_of_some _ e)⟩
end
/-- the tuple at a, each item in a new pair with its place -/
def Iet (K : PySem.W.Frag) (a : Addr) : It where
  go := fun i H => ∃ (xs : List V) (x : V), SqT K H a xs ∧ xs[i]? = some x
  yld := fun i H v H2 => ∃ T x, v = .ref T ∧ H T = none ∧ H2 = upd H T (.tup [.int (i : Nat), x]) ∧ ∀ xs, SqT K H a xs → xs[i]? = some x
  stop := fun i H => ∃ xs : List V, SqT K H a xs ∧ xs.length ≤ i
def enAt (a e it : Addr) : Nat → Heap → Prop := fun i h => (∃ old, IsEnum h e it ((i : Nat) : Int) old) ∧ h.IsTupleIter it a i ∧ e ≠ it ∧ a ≠ it ∧ e ≠ a
theorem turn_et {P : Program} {w : World} {K : PySem.W.Frag} {elts : List Expr} {kk : Nat} {tpos : Pos} (a e it : Addr) : Turn P w K (.Tuple elts kk tpos) (Iet K a) [e, it] e (enAt a e it) where
  mem := List.mem_cons_self
  obj := fun i h st b hb => by
    obtain ⟨⟨old, he⟩, ⟨o, ho, _, hd⟩, _⟩ := st
    rcases List.mem_cons.mp hb with rfl | hb
    · exact ⟨_, he, fun v z => nomatch z⟩
    · rw [List.mem_singleton.mp hb]
      exact ⟨o, ho, fun v z => by rw [hd] at z; cases z⟩
  keep := fun i h h2 st k => by
    obtain ⟨⟨old, he⟩, hi, ns⟩ := st
    exact ⟨⟨old, k e List.mem_cons_self _ he⟩, hi.at fun o z => k it (List.mem_cons_of_mem _ List.mem_cons_self) o z, ns⟩
  item := by
    intro X eP ew eK calm i pins s σ H E I hf st gv
    subst eP ew eK
    obtain ⟨⟨old, he⟩, hi, n1, n2, n3⟩ := st
    obtain ⟨xs, x, hq, hx⟩ := gv
    obtain ⟨its, rv, tp, _⟩ := I.tuple hq
    obtain ⟨u, hu, ru⟩ := rv.get hx
    have eh : X.A.in1.handled = none := I.ok.hd calm
    have D := Draws.tuple (prog := X.prog) (w := X.w) eh it a n2 its.toArray
    have lt : i < its.toArray.size := by
      have := (List.getElem?_eq_some_iff.mp hu).1
      simpa using this
    have le := Heap.lt_size he
    have li : it < s.heap.objs.size := by
      obtain ⟨_, z, _⟩ := hi
      exact Heap.lt_size z
    refine wpAny_pyNext_enum_itemC D he ⟨hi, tp⟩ lt n1 (by simp [n1, n3]) fun u2 h2 tk hP2 out st2 hT _ kp => ?_
    have : u2 = u := by
      have h3 : its[i]? = some u2 := by simpa using hP2
      rw [hu] at h3
      exact (Option.some.inj h3).symm
    subst this
    refine ⟨_, rfl, wpAny_letOwnedTupleGo_enum (s := { s with heap := h2, toks := tk + 1 }) out fun h3 he3 sb => ?_⟩
    have cell : h3.get? s.heap.objs.size = some { cls := .type "tuple", data := .seq #[.int i tk, u2] } := (sb.2 _ (Nat.ne_of_gt le)).trans hT
    have fresh : ObjOk X.prog X.w (upd H s.heap.objs.size (.tup [.int (i : Nat), x])) h3 s.heap.objs.size (.tup [.int (i : Nat), x]) :=
      ⟨by show 2 ≤ sizeLine; decide, [.int i tk, u2], .cons ⟨_, rfl⟩ (.cons ru .nil), ⟨_, cell, rfl, _, rfl⟩⟩
    have J := I.turnedNew (t' := tk + 1) (ch := [e, it]) (fun b ob hb z => (sb.2 b fun y => hb (y ▸ List.mem_cons_self)).trans (kp b ob (fun y => hb (y ▸ List.mem_cons_self)) (fun y => hb (y ▸ List.mem_cons_of_mem _ List.mem_cons_self)) z)) hf (Nat.le_refl _) fresh
    refine ⟨.ref s.heap.objs.size, _, J, rfl, ⟨_, x, rfl, I.hok.fresh (Nat.le_refl _), rfl, fun ys hy => by rw [I.tuple_inj hy hq]; exact hx⟩, ⟨⟨u2, ?_⟩, st2.1.at fun o z => (sb.2 it (Ne.symm n1)).trans z, n1, n2, n3⟩, fun b hb => ?_⟩
    · have up : ((i + 1 : Nat) : Int) = (i : Int) + 1 := Int.natCast_succ i
      rw [up]
      exact he3
    · have lb : b < s.heap.objs.size := by
        rcases List.mem_cons.mp hb with rfl | hb
        · exact le
        · rw [List.mem_singleton.mp hb]; exact li
      rw [upd_ne (Nat.ne_of_lt lb)]
      exact (hf b hb).1
  done := by
    intro X eP ew eK calm i pins s σ H E I hf st gv
    subst eP ew eK
    obtain ⟨⟨old, he⟩, hi, n1, n2, n3⟩ := st
    obtain ⟨xs, hq, hx⟩ := gv
    obtain ⟨its, rv, tp, _⟩ := I.tuple hq
    have no : its.toArray[i]? = none := by
      have := rv.length
      simp only [List.getElem?_toArray, List.getElem?_eq_none_iff]
      omega
    have eh : X.A.in1.handled = none := I.ok.hd calm
    have D : Draws X.prog X.w X.A.in1 it [it, a] i (fun _ _ => True) (fun j h => j = i ∧ h.IsTupleIter it a i ∧ h.IsTuple a its.toArray) :=
      { live := fun _ _ st => by
          obtain ⟨_, ⟨o, ho, _⟩, _⟩ := st
          exact ⟨o, ho⟩
        frame := fun _ _ _ st k => ⟨st.1, st.2.1.at fun o z => k it List.mem_cons_self o z, st.2.2.at fun o z => k a (List.mem_cons_of_mem _ List.mem_cons_self) o z⟩
        item := fun j _ _ _ l st _ => absurd st.1 (Nat.ne_of_lt l)
        done := fun _ _ _ st k => wpAny_nextOf_tuple_end eh st.2.1 st.2.2 no k }
    obtain ⟨g0, g1, _, g3, g4, g5⟩ := hf it (List.mem_cons_of_mem _ List.mem_cons_self)
    exact wpAny_pyNext_enum_endD D he ⟨rfl, hi, tp⟩ fun h2 xb => ⟨rfl, I.turned (t' := s.toks) (fun b o hb z => xb b o hb z) g0 g1 g3 g4 g5⟩
  self := fun A i s Q E st k => by
    obtain ⟨⟨_, he⟩, _⟩ := st
    exact wpAny_pyIter_enum he k
section
variable {X : Cx} {e : Expr} {fr : FTA}
def iEt (K : PySem.W.Frag) (ta : TA) : TI := fun σ H R => ta σ H fun vs H1 => ∃ a xs, vs = [.ref a] ∧ SqT K H1 a xs ∧ R (Iet K a) H1
theorem pi_et {ta : TA} {p pos tpos : Pos} {elts : List Expr} {kk : Nat} (hg : Gl X "enumerate") (hm : X.mg "enumerate" = none) (ha : PA X [e] ta) (hs : starEach [e] X.env = [(false, eval e X.env)]) :
    PI X (.Tuple elts kk tpos) (.Call (.Name "enumerate" p) [e] [] pos) (iEt X.K ta) where
  run := fun pins s σ H R I h => by
    refine Call_ (ld_blt I hg hm boot_enumerate (PyProof.Rows.callWith_type1 (thn (ha.run pos pins s σ H _ I h) fun us s1 got => ?_) hs rfl))
    obtain ⟨vs, H1, I1, r1, a, xs, rfl, hq, q⟩ := got
    cases r1 with
    | cons r rr =>
      cases rr
      cases r
      obtain ⟨its, rv, tp, _⟩ := I1.tuple hq
      have la : a < s1.heap.objs.size := by
        obtain ⟨_, z, _⟩ := tp
        exact Heap.lt_size z
      refine call_enum1 (begins_tuple a its.toArray) tp fun h2 en ob kp => wpAny_pyIter_enum en ?_
      refine ⟨s1.heap.objs.size + 1, [s1.heap.objs.size + 1, s1.heap.objs.size], _, _, H1, rfl, I1.kept (t' := s1.toks) kp, turn_et a (s1.heap.objs.size + 1) s1.heap.objs.size, ⟨⟨.none, en⟩, ⟨_, ob, rfl, rfl⟩, Nat.succ_ne_self _, Nat.ne_of_lt la, (Nat.ne_of_lt (Nat.lt_succ_of_lt la)).symm⟩, fun b hb => ?_, q⟩
      have up : s1.heap.objs.size ≤ b := by
        rcases List.mem_cons.mp hb with rfl | hb
        · exact Nat.le_succ _
        · rw [List.mem_singleton.mp hb]; exact Nat.le_refl _
      exact I1.fpOk up (I1.hok.fresh up)
theorem walk_et {K : PySem.W.Frag} {μ : Mu} {H : Hp} {p : Addr} {vs : List V} {ds : List PyData} (s : SqT K (hid μ H) p vs) (t : DaAll K (hid μ H) vs ds) : Walk false K μ H (Iet K p) (enumD 0 ds) := fun i μ' H' e m => by
  have s' : SqT K H' p vs := same_seqW unhid (same_seqW e s)
  rw [enumD_get]
  refine ⟨fun d hd => ?_, fun hd => ⟨vs, s', ?_⟩⟩
  · obtain ⟨y, hy, rfl⟩ := Option.map_eq_some_iff.mp hd
    obtain ⟨v, h1, h2⟩ := t.get hy
    refine ⟨⟨vs, v, s', h1⟩, ?_⟩
    rintro x H2 ⟨T, x', rfl, hT, rfl, e2⟩
    have e3 := e2 vs s'
    rw [h1] at e3
    cases e3
    refine ⟨ext_new hT, m.new hT, .inr ⟨T, _, _, rfl, rfl, .inl (.inl (hid_new m hT)), .cons ?_ (.cons ((h2.mono e).mono (ext_new hT)) .nil)⟩⟩
    rw [Nat.zero_add]
    exact .int _
  · rw [t.length]
    exact List.getElem?_eq_none_iff.mp (Option.map_eq_none_iff.mp hd)
def gEnumT : List PyData → Option (List PyData)
  | [.tuple xs] => some (enumD 0 xs)
  | _ => none
def dwEt (ta : DTA) : DTI := fun δ μ Q => ta δ μ fun ds μ1 => ∃ as xs, allD ds = some as ∧ gEnumT as = some xs ∧ Q xs μ1
theorem i_et {tA : DTA} {p tpos : Pos} {elts : List Expr} {kk : Nat} {pos : Pos} (hg : Gl X "enumerate") (hm : X.mg "enumerate" = none) (ha : DA X [e] tA) (hs : starEach [e] X.env = [(false, eval e X.env)] := by rfl) : DI false X (.Tuple elts kk tpos) (.Call (.Name "enumerate" p) [e] [] pos) (dwEt tA) :=
  pi_imp (pi_et hg hm ha hs) fun σ H R ⟨δ, μ, Qd, rs, rm, q, w⟩ => upA_use rs rm q fun ds μ1 vs H1 e1 m1 r1 ⟨as, zs, h1, h2, q1⟩ => by
    unfold gEnumT at h2
    split at h2
    · next xs =>
      cases h2
      obtain rfl := allD1 h1
      cases r1 with
      | cons r t =>
        cases t
        cases (show Da X.K (hid μ1 H1) _ (.tuple xs) from r) with
        | @tup p vs _ s t => exact ⟨p, vs, rfl, same_seqT unhid s, w _ μ1 H1 _ e1 m1 (walk_et s.t t) q1⟩
    · cases h2
theorem fi_enumT {p tpos : Pos} {elts : List Expr} {kk : Nat} {pos : Pos} (hg : Gl X "enumerate") (hm : X.mg "enumerate" = none) (ha : FA X [e] fr) (hs : starEach [e] X.env = [(false, eval e X.env)] := by rfl) : FI false X (.Tuple elts kk tpos) (.Call (.Name "enumerate" p) [e] [] pos) (fiArgs gEnumT fr) :=
  di_imp (i_et hg hm ha hs) (useI (r := fun ds μ1 Q => ∃ as xs, allD ds = some as ∧ gEnumT as = some xs ∧ Q xs μ1) fun ds as xs μ Q h1 h2 q => ⟨as, xs, h1, h2, q⟩)
end
end FL

namespace FL
open PySem PySem.Spec PyProof.Rows L2 DL
section
variable {P : Program} {w : World} {A : Around}
/-- a list's iterator, wherever it stands: it draws no more, or it does -/
theorem drawL {it l : Addr} {i : Nat} {h : Heap} {items : Array Value} (eh : A.handled = none) (ne : l ≠ it) (a : h.IsListIter it l i) (b : h.IsList l items) :
    ∃ n Pv St, Draws P w A it [it, l] n Pv St ∧ St i h ∧ i ≤ n ∧ (items[i]? = none → i = n) := by
  by_cases c : i < items.size
  · exact ⟨_, _, _, Draws.list eh it l ne items, ⟨a, b⟩, by omega, fun z => by rw [Array.getElem?_eq_none_iff] at z; omega⟩
  · have no : items[i]? = none := Array.getElem?_eq_none_iff.mpr (by omega)
    refine ⟨i, fun _ _ => True, fun j h => j = i ∧ h.IsListIter it l i ∧ h.IsList l items, ?_, ⟨rfl, a, b⟩, Nat.le_refl _, fun _ => rfl⟩
    exact { live := fun _ _ st => by
              obtain ⟨_, ⟨o, ho, _⟩, _⟩ := st
              exact ⟨o, ho⟩
            frame := fun _ _ _ st k => ⟨st.1, st.2.1.at fun o z => k it List.mem_cons_self o z, st.2.2.at fun o z => k l (List.mem_cons_of_mem _ List.mem_cons_self) o z⟩
            item := fun j _ _ _ lt st _ => absurd st.1 (Nat.ne_of_lt lt)
            done := fun _ _ _ st k => wpAny_nextOf_list_end eh st.2.1 st.2.2 no k }
theorem drawT {it l : Addr} {i : Nat} {h : Heap} {items : Array Value} (eh : A.handled = none) (ne : l ≠ it) (a : h.IsTupleIter it l i) (b : h.IsTuple l items) :
    ∃ n Pv St, Draws P w A it [it, l] n Pv St ∧ St i h ∧ i ≤ n ∧ (items[i]? = none → i = n) := by
  by_cases c : i < items.size
  · exact ⟨_, _, _, Draws.tuple eh it l ne items, ⟨a, b⟩, by omega, fun z => by rw [Array.getElem?_eq_none_iff] at z; omega⟩
  · have no : items[i]? = none := Array.getElem?_eq_none_iff.mpr (by omega)
    refine ⟨i, fun _ _ => True, fun j h => j = i ∧ h.IsTupleIter it l i ∧ h.IsTuple l items, ?_, ⟨rfl, a, b⟩, Nat.le_refl _, fun _ => rfl⟩
    exact { live := fun _ _ st => by
              obtain ⟨_, ⟨o, ho, _⟩, _⟩ := st
              exact ⟨o, ho⟩
            frame := fun _ _ _ st k => ⟨st.1, st.2.1.at fun o z => k it List.mem_cons_self o z, st.2.2.at fun o z => k l (List.mem_cons_of_mem _ List.mem_cons_self) o z⟩
            item := fun j _ _ _ lt st _ => absurd st.1 (Nat.ne_of_lt lt)
            done := fun _ _ _ st k => wpAny_nextOf_tuple_end eh st.2.1 st.2.2 no k }
end
/-- the list at a and the tuple at b, in new pairs -/
def Ilt (K : PySem.W.Frag) (a b : Addr) : It where
  go := fun i H => ∃ (xs ys : List V) (x y : V), SqL K H a xs ∧ SqT K H b ys ∧ xs[i]? = some x ∧ ys[i]? = some y
  yld := fun i H v H2 => ∃ T x y, v = .ref T ∧ H T = none ∧ H2 = upd H T (.tup [x, y]) ∧ (∀ xs, SqL K H a xs → xs[i]? = some x) ∧ ∀ ys, SqT K H b ys → ys[i]? = some y
  stop := fun i H => ∃ xs ys : List V, SqL K H a xs ∧ SqT K H b ys ∧ (xs.length ≤ i ∨ ys.length ≤ i)
theorem turn_lt {P : Program} {w : World} {K : PySem.W.Frag} {elts : List Expr} {kk : Nat} {tpos : Pos} {a b z TI TO i1 i2 : Addr} (S : ZipSep2 z TI TO i1 i2 [i1, a] [i2, b]) (n1 : a ≠ i1) (n2 : b ≠ i2) :
    Turn P w K (.Tuple elts kk tpos) (Ilt K a b) [z, TI, TO, i1, i2] z (fun i h => IsZip h z TI TO .none ∧ IsPair h TI (.ref i1) (.ref i2) ∧ (∃ x y, IsPair h TO x y) ∧ h.IsListIter i1 a i ∧ h.IsTupleIter i2 b i) where
  mem := List.mem_cons_self
  obj := fun i h st c hc => by
    obtain ⟨gz, gI, ⟨x, y, gO⟩, ⟨o1, e1, _, d1⟩, ⟨o2, e2, _, d2⟩⟩ := st
    simp only [List.mem_cons, List.not_mem_nil, or_false] at hc
    rcases hc with rfl | rfl | rfl | rfl | rfl
    · exact ⟨_, gz, fun v q => nomatch q⟩
    · exact ⟨_, gI, fun v q => nomatch q⟩
    · exact ⟨_, gO, fun v q => nomatch q⟩
    · exact ⟨o1, e1, fun v q => by rw [d1] at q; cases q⟩
    · exact ⟨o2, e2, fun v q => by rw [d2] at q; cases q⟩
  keep := fun i h h2 st k => by
    obtain ⟨gz, gI, ⟨x, y, gO⟩, c1, c2⟩ := st
    exact ⟨k z (by simp) _ gz, k TI (by simp) _ gI, ⟨x, y, k TO (by simp) _ gO⟩, c1.at fun o q => k i1 (by simp) o q, c2.at fun o q => k i2 (by simp) o q⟩
  item := by
    intro X eP ew eK calm i pins s σ H E I free st gv
    subst eP ew eK
    obtain ⟨gz, gI, ⟨x0, y0, gO⟩, c1, c2⟩ := st
    obtain ⟨xs, ys, x, y, qx, qy, hx, hy⟩ := gv
    obtain ⟨its, rv, p1, _⟩ := I.list qx
    obtain ⟨jts, sv, p2, _⟩ := I.tuple qy
    obtain ⟨u, hu, ru⟩ := rv.get hx
    obtain ⟨t, ht, rt⟩ := sv.get hy
    have eh : X.A.in1.handled = none := I.ok.hd calm
    have D1 := Draws.list (prog := X.prog) (w := X.w) eh i1 a n1 its.toArray
    have D2 := Draws.tuple (prog := X.prog) (w := X.w) eh i2 b n2 jts.toArray
    have l1 : i < its.toArray.size := by simpa using (List.getElem?_eq_some_iff.mp hu).1
    have l2 : i < jts.toArray.size := by simpa using (List.getElem?_eq_some_iff.mp ht).1
    have below : ∀ {c o}, s.heap.get? c = some o → c < s.heap.objs.size := fun e => Heap.lt_size e
    refine wpAny_pyNext_zipD2_item S D1 D2 gz gI gO ⟨c1, p1.isList⟩ ⟨c2, p2⟩ l1 l2 fun u2 t2 h2 tk hu2 ht2 kz kO k1 k2 kT _ kp => ?_
    have eu : u2 = u := by
      have e3 : its[i]? = some u2 := by simpa using hu2
      rw [hu] at e3
      exact (Option.some.inj e3).symm
    have et : t2 = t := by
      have e3 : jts[i]? = some t2 := by simpa using ht2
      rw [ht] at e3
      exact (Option.some.inj e3).symm
    subst eu et
    refine ⟨_, rfl, wpAny_letOwnedTupleGo_zip (s := { s with heap := h2, toks := tk }) kz fun h3 z3 sb => ?_⟩
    have cell : h3.get? s.heap.objs.size = some { cls := .type "tuple", data := .seq #[u2, t2] } := (sb.2 _ (Nat.ne_of_gt (below gz))).trans kT
    have fresh : ObjOk X.prog X.w (upd H s.heap.objs.size (.tup [x, y])) h3 s.heap.objs.size (.tup [x, y]) :=
      ⟨by show 2 ≤ sizeLine; decide, [u2, t2], .cons ru (.cons rt .nil), ⟨_, cell, rfl, _, rfl⟩⟩
    have J := I.turnedNew (t' := tk) (ch := [z, TI, TO, i1, i2]) (fun c o hb q => (sb.2 c fun y => hb (by simp [y])).trans (kp c o (fun y => hb (by simp [y])) (fun y => hb (by simp [y])) (fun y => hb (by simp [y])) (fun y => hb (by simp [y])) q)) free (Nat.le_refl _) fresh
    refine ⟨.ref s.heap.objs.size, _, J, rfl, ⟨_, x, y, rfl, I.hok.fresh (Nat.le_refl _), rfl, fun l hl => by rw [I.list_inj hl qx]; exact hx, fun l hl => by rw [I.tuple_inj hl qy]; exact hy⟩, ⟨z3, ?_, ⟨u2, t2, ?_⟩, ?_, ?_⟩, fun c hc => ?_⟩
    · exact (sb.2 _ S.TIz).trans (kp _ _ S.TIz S.TITO S.TIi1 S.TIi2 gI)
    · exact (sb.2 _ S.TOz).trans kO
    · exact k1.1.at fun o q => (sb.2 _ S.zi1.symm).trans q
    · exact k2.1.at fun o q => (sb.2 _ S.zi2.symm).trans q
    · have lt : c < s.heap.objs.size := by
        have hc2 := hc
        simp only [List.mem_cons, List.not_mem_nil, or_false] at hc2
        rcases hc2 with rfl | rfl | rfl | rfl | rfl
        · exact below gz
        · exact below gI
        · exact below gO
        · obtain ⟨_, e1, _⟩ := c1; exact below e1
        · obtain ⟨_, e2, _⟩ := c2; exact below e2
      rw [upd_ne (Nat.ne_of_lt lt)]
      exact (free c hc).1
  done := by
    intro X eP ew eK calm i pins s σ H E I free st gv
    subst eP ew eK
    obtain ⟨gz, gI, ⟨x0, y0, gO⟩, c1, c2⟩ := st
    obtain ⟨xs, ys, qx, qy, over⟩ := gv
    obtain ⟨its, rv, p1, _⟩ := I.list qx
    obtain ⟨jts, sv, p2, _⟩ := I.tuple qy
    have eh : X.A.in1.handled = none := I.ok.hd calm
    obtain ⟨m1, P1, St1, D1, t1, b1, f1⟩ := drawL (P := X.prog) (w := X.w) eh n1 c1 p1.isList
    obtain ⟨m2, P2, St2, D2, t2, b2, f2⟩ := drawT (P := X.prog) (w := X.w) eh n2 c2 (show s.heap.IsTuple b jts.toArray from p2)
    have l1 := rv.length
    have l2 := sv.length
    have fin : i = m1 ∨ i = m2 := by
      rcases over with o | o
      · exact .inl (f1 (by simp; omega))
      · exact .inr (f2 (by simp; omega))
    exact wpAny_pyNext_zipD2_end S D1 D2 gz gI gO t1 t2 b1 b2 fin fun h2 tk kp => ⟨rfl, I.turnedL (t' := tk) (ch := [z, TI, TO, i1, i2]) (fun c o hb q =>
      kp c o (fun y => hb (by simp [y])) (fun y => hb (by simp [y])) (fun y => hb (by simp [y])) (fun y => hb (by simp [y])) q) free⟩
  self := fun A i s Q E st k => wpAny_pyIter_zip st.1 k
section
variable {X : Cx} {e e2 : Expr} {fr : FTA}
def iLt (K : PySem.W.Frag) (ta : TA) : TI := fun σ H R => ta σ H fun vs H1 => ∃ a b xs ys, vs = [.ref a, .ref b] ∧ SqL K H1 a xs ∧ SqT K H1 b ys ∧ R (Ilt K a b) H1
theorem pi_lt {ta : TA} {p pos tpos : Pos} {elts : List Expr} {kk : Nat} (hg : Gl X "zip") (hm : X.mg "zip" = none) (ha : PA X [e, e2] ta)
    (hs : starEach [e, e2] X.env = (false, eval e X.env) :: starEach [e2] X.env) (hpl : (backTo pos (starEach [e2] X.env)).any (·.1) = false) :
    PI X (.Tuple elts kk tpos) (.Call (.Name "zip" p) [e, e2] [] pos) (iLt X.K ta) where
  run := fun pins s σ H R I h => by
    refine Call_ (ld_blt I hg hm PyProof.Rows.boot_zip (PyProof.Rows.callWith_type1 (thn (ha.run pos pins s σ H _ I h) fun us s1 got => ?_) hs hpl))
    obtain ⟨vs, H1, I1, r1, a, b, xs, ys, rfl, qx, qy, q⟩ := got
    cases r1 with
    | cons r rr =>
      cases rr with
      | cons r2 rr =>
        cases rr
        cases r
        cases r2
        obtain ⟨its, rv, p1, _⟩ := I1.list qx
        obtain ⟨jts, sv, p2, _⟩ := I1.tuple qy
        have la : a < s1.heap.objs.size := p1.lt
        have lb : b < s1.heap.objs.size := by
          obtain ⟨_, o, _⟩ := id p2
          exact Heap.lt_size o
        refine zip_begins2 (begins_list a its.toArray) (begins_tuple b jts.toArray) p1.isList p2 fun h2 gz gI gO g1 g2 _ kp => wpAny_pyIter_zip gz ?_
        refine ⟨s1.heap.objs.size + 4, [s1.heap.objs.size + 4, s1.heap.objs.size + 2, s1.heap.objs.size + 3, s1.heap.objs.size, s1.heap.objs.size + 1], _, _, H1, rfl, I1.kept (t' := s1.toks) kp, turn_lt (a := a) (b := b) ?_ (Nat.ne_of_lt la) (Nat.ne_of_lt (Nat.lt_succ_of_lt lb)), ⟨gz, gI, ⟨_, _, gO⟩, ⟨_, g1, rfl, rfl⟩, ⟨_, g2, rfl, rfl⟩⟩, fun c hc => ?_, q⟩
        · generalize s1.heap.objs.size = N at la lb
          have hN : ∀ k : Nat, N + k ≠ a ∧ N + k ≠ b := fun k => ⟨(Nat.ne_of_lt (Nat.lt_of_lt_of_le la (Nat.le_add_right N k))).symm, (Nat.ne_of_lt (Nat.lt_of_lt_of_le lb (Nat.le_add_right N k))).symm⟩
          have hN0 := hN 0
          have d : ∀ {j k : Nat}, j ≠ k → N + j ≠ N + k := fun h e => h (Nat.add_left_cancel e)
          exact { TIz := d (by decide), TOz := d (by decide), TITO := d (by decide), TIi1 := d (k := 0) (by decide), mem1 := List.mem_cons_self, mem2 := List.mem_cons_self, TIi2 := d (by decide)
                  zf1 := fun h => by
                    rcases List.mem_cons.mp h with h | h
                    · exact d (k := 0) (by decide) h
                    · exact (hN 4).1 (List.mem_singleton.mp h)
                  Tf1 := fun h => by
                    rcases List.mem_cons.mp h with h | h
                    · exact d (k := 0) (by decide) h
                    · exact (hN 3).1 (List.mem_singleton.mp h)
                  zf2 := fun h => by
                    rcases List.mem_cons.mp h with h | h
                    · exact d (by decide) h
                    · exact (hN 4).2 (List.mem_singleton.mp h)
                  Tf2 := fun h => by
                    rcases List.mem_cons.mp h with h | h
                    · exact d (by decide) h
                    · exact (hN 3).2 (List.mem_singleton.mp h)
                  sep1_2 := fun h => by
                    rcases List.mem_cons.mp h with h | h
                    · exact d (j := 0) (by decide) h
                    · exact hN0.2 (List.mem_singleton.mp h)
                  sep2_1 := fun h => by
                    rcases List.mem_cons.mp h with h | h
                    · exact d (k := 0) (by decide) h
                    · exact (hN 1).1 (List.mem_singleton.mp h) }
        · have up : s1.heap.objs.size ≤ c := by
            simp only [List.mem_cons, List.not_mem_nil, or_false] at hc
            rcases hc with rfl | rfl | rfl | rfl | rfl <;> first | exact Nat.le_refl _ | exact Nat.le_add_right _ _
          exact I1.fpOk up (I1.hok.fresh up)
theorem walk_lt {K : PySem.W.Frag} {μ : Mu} {H : Hp} {p r : Addr} {vs ws : List V} {ds es : List PyData} (s : SqL K (hid μ H) p vs) (t : DaAll K (hid μ H) vs ds) (s2 : SqT K (hid μ H) r ws) (t2 : DaAll K (hid μ H) ws es) : Walk false K μ H (Ilt K p r) (zipD ds es) := fun i μ' H' e m => by
  have a1 : SqL K H' p vs := unhid.seq (e.seq s)
  have a2 : SqT K H' r ws := same_seqW unhid (same_seqW e s2)
  refine ⟨fun d hd => ?_, fun hd => ⟨vs, ws, a1, a2, ?_⟩⟩
  · obtain ⟨x, y, hx, hy, rfl⟩ := zipD_get _ _ _ _ hd
    obtain ⟨v, h1, h2⟩ := t.get hx
    obtain ⟨u, h3, h4⟩ := t2.get hy
    refine ⟨⟨vs, ws, v, u, a1, a2, h1, h3⟩, ?_⟩
    rintro z H2 ⟨T, x', y', rfl, hT, rfl, e2, e3⟩
    have e4 := e2 vs a1
    have e5 := e3 ws a2
    rw [h1] at e4
    rw [h3] at e5
    cases e4
    cases e5
    exact ⟨ext_new hT, m.new hT, .inr ⟨T, [v, u], [x, y], rfl, rfl, .inl (.inl (hid_new m hT)), .cons ((h2.mono e).mono (ext_new hT)) (.cons ((h4.mono e).mono (ext_new hT)) .nil)⟩⟩
  · rw [t.length, t2.length]
    exact zipD_none _ _ _ hd
def gZipLT : List PyData → Option (List PyData)
  | [.list xs, .tuple ys] => some (zipD xs ys)
  | _ => none
def dwLt (ta : DTA) : DTI := fun δ μ Q => ta δ μ fun ds μ1 => ∃ as xs, allD ds = some as ∧ gZipLT as = some xs ∧ Q xs μ1
theorem i_lt {tA : DTA} {p tpos : Pos} {elts : List Expr} {kk : Nat} {pos : Pos} (hg : Gl X "zip") (hm : X.mg "zip" = none) (ha : DA X [e, e2] tA) (hs : starEach [e, e2] X.env = (false, eval e X.env) :: starEach [e2] X.env := by rfl) (hpl : (backTo pos (starEach [e2] X.env)).any (·.1) = false := by rfl) :
    DI false X (.Tuple elts kk tpos) (.Call (.Name "zip" p) [e, e2] [] pos) (dwLt tA) :=
  pi_imp (pi_lt hg hm ha hs hpl) fun σ H R ⟨δ, μ, Qd, rs, rm, q, w⟩ => upA_use rs rm q fun ds μ1 vs H1 e1 m1 r1 ⟨as, zs, h1, h2, q1⟩ => by
    unfold gZipLT at h2
    split at h2
    · next xs ys =>
      cases h2
      obtain rfl := allD2 h1
      cases r1 with
      | cons r t =>
        cases t with
        | cons r' t =>
          cases t
          cases (show Da X.K (hid μ1 H1) _ (.list xs) from r) with
          | @lst p vs _ s t =>
            cases (show Da X.K (hid μ1 H1) _ (.tuple ys) from r') with
            | @tup p' vs' _ s' t' => exact ⟨p, p', vs, vs', rfl, unhid.seq s, same_seqT unhid s', w _ μ1 H1 _ e1 m1 (walk_lt s t s'.t t') q1⟩
    · cases h2
theorem fi_zipLT {p tpos : Pos} {elts : List Expr} {kk : Nat} {pos : Pos} (hg : Gl X "zip") (hm : X.mg "zip" = none) (ha : FA X [e, e2] fr) (hs : starEach [e, e2] X.env = (false, eval e X.env) :: starEach [e2] X.env := by rfl) (hpl : (backTo pos (starEach [e2] X.env)).any (·.1) = false := by rfl) :
    FI false X (.Tuple elts kk tpos) (.Call (.Name "zip" p) [e, e2] [] pos) (fiArgs gZipLT fr) :=
  di_imp (i_lt hg hm ha hs hpl) (useI (r := fun ds μ1 Q => ∃ as xs, allD ds = some as ∧ gZipLT as = some xs ∧ Q xs μ1) fun ds as xs μ Q h1 h2 q => ⟨as, xs, h1, h2, q⟩)
end
end FL

namespace NA
open PySem PySem.Spec PyProof.Rows L2 DL FL
noncomputable def fb_is_number : FS := (fsRet (fAndV (fIsi "int" (fVar 0)) (fNotV (fIsi "bool" (fVar 0)))))
noncomputable def F_is_number : Fn := runF 1 fb_is_number
noncomputable def fb_is_within : FS := (fsRet (fAndV (fCall F_is_number (faCons (fVar 0) faNil)) (fChain gLe gLe (fVar 1) (fVar 0) (fVar 2))))
noncomputable def F_is_within : Fn := runF 3 fb_is_within
noncomputable def fb_is_two : FS := (fsRet (fAndV (fIsi "tuple" (fVar 0)) (fOp gEq (fFn gLen (faCons (fVar 0) faNil)) (fC (.int 2)))))
noncomputable def F_is_two : Fn := runF 1 fb_is_two
noncomputable def fb_is_modulus : FS := (fsRet (fAndV (fCall F_is_number (faCons (fVar 0) faNil)) (fUnV (gInK [2, 3, 5, 6, 7, 10, 11, 13, 14, 15]) (fVar 0))))
noncomputable def F_is_modulus : Fn := runF 1 fb_is_modulus
noncomputable def lb_sums_of_1 : FS := (fsSetK (fVar 2) (fVar 3) (fOp gAdd (fGet (fVar 2) (fVar 3) (fC (.int 0))) (fVar 4)))
noncomputable def fb__law_primes : FS := (fsRet (fLcO (fiSeq (fLst (faCons (fC (.int 2)) (faCons (fC (.int 3)) (faCons (fC (.int 5)) (faCons (fC (.int 7)) (faCons (fC (.int 11)) (faCons (fC (.int 13)) faNil)))))))) (tgN 1) (fB (fOp gEq (fOp gMod (fFn gInt (faCons (fVar 0) faNil)) (fVar 1)) (fC (.int 0)))) (fVar 1) [1]))
noncomputable def F__law_primes : Fn := runF 2 fb__law_primes
noncomputable def fb_primes_of : FS := (fsSeq (fsIf (ftNot (fTr (fCall F_is_modulus (faCons (fVar 0) faNil)))) fsNever fsNext)
    (fsRet (fListO (fUnV (gIxK [(2, [2]), (3, [3]), (5, [5]), (6, [2, 3]), (7, [7]), (10, [2, 5]), (11, [11]), (13, [13]), (14, [2, 7]), (15, [3, 5])]) (fVar 0)))))
noncomputable def F_primes_of : Fn := runF 1 fb_primes_of
noncomputable def fb_inverse : FS := (fsRet (fOp gIx (fLc (fiArgs gRange1 (faCons (fVar 1) faNil)) (tgN 2) (fB (fOp gEq (fOp gMod (fOp gMul (fVar 2) (fVar 0)) (fVar 1)) (fC (.int 1)))) (fVar 2) [2]) (fC (.int 0))))
noncomputable def F_inverse : Fn := runF 3 fb_inverse
noncomputable def fb__law_pot : FS := (fsSeq (fsAsg 2 (fOp gAdd (fOp gAdd (fOp gMul (fC (.int 43)) (fVar 1)) (fC (.int 19))) (fFn gLen (faCons (fVar 0) faNil))))
    (fsSeq (fsIf (fB (fOp gLt (fVar 1) (fFn gLen (faCons (fVar 0) faNil)))) (fsAsg 2 (fOp gIx (fVar 0) (fVar 1))) fsNext)
    (fsSeq (fsAsg 3 (fFn gSum (faCons (fLc (fiSeq (fVar 0)) (tgN 4) fYes (fOp gMod (fFn gInt (faCons (fVar 4) faNil)) (fOp gAdd (fOp gPow (fC (.int 10)) (fC (.int 24))) (fC (.int 7)))) [4]) faNil)))
    (fsSeq (fsAsg 5 (fOp gMod (fFn gInt (faCons (fOp gAdd (fOp gAdd (fOp gMul (fVar 2) (fC (.int 104729))) (fOp gMul (fVar 3) (fC (.int 1299709)))) (fOp gMul (fVar 1) (fC (.int 611953)))) faNil)) (fOp gAdd (fOp gPow (fC (.int 10)) (fC (.int 27))) (fC (.int 103)))))
    (fsRet (fLstO (faCons (fFn gMax2 (faCons (fC (.int 0)) (faCons (fOp gSub (fVar 2) (fOp gPow (fC (.int 10)) (fC (.int 18)))) faNil))) (faCons (fVar 5) (faCons (fC (.int 0)) faNil)))))))))
noncomputable def F__law_pot : Fn := runF 6 fb__law_pot
noncomputable def fb__law_draw : FS := (fsSeq (fsIf (fB (fOp gGt (fOp gIx (fVar 0) (fC (.int 0))) (fC (.int 0)))) (fsSeq (fsAsg 2 (fOp gMod (fFn gInt (faCons (fOp gIx (fVar 0) (fC (.int 0))) faNil)) (fVar 1)))
    (fsSeq (fsSetI (fVar 0) (fC (.int 0)) (fOp gFdiv (fOp gIx (fVar 0) (fC (.int 0))) (fVar 1)))
    (fsRet (fVar 2)))) fsNext)
    (fsSeq (fsSetI (fVar 0) (fC (.int 2)) (fOp gAdd (fOp gIx (fVar 0) (fC (.int 2))) (fC (.int 1))))
    (fsSeq (fsAsg 3 (fOp gMod (fFn gInt (faCons (fOp gPow (fOp gAdd (fOp gIx (fVar 0) (fC (.int 1))) (fOp gMul (fC (.int 86028121)) (fOp gIx (fVar 0) (fC (.int 2))))) (fC (.int 3))) faNil)) (fOp gAdd (fOp gPow (fC (.int 10)) (fC (.int 30))) (fC (.int 57)))))
    (fsRet (fOp gMod (fOp gFdiv (fOp gMod (fFn gInt (faCons (fOp gMul (fVar 3) (fOp gAdd (fVar 3) (fC (.int 2903)))) faNil)) (fOp gAdd (fOp gPow (fC (.int 10)) (fC (.int 28))) (fC (.int 331)))) (fC (.int 3571))) (fVar 1))))))
noncomputable def F__law_draw : Fn := runF 4 fb__law_draw
noncomputable def fb_cleared : FS := (fsSeq (fsIf (fB (fOp gEq (fOp gIx (fVar 0) (fVar 2)) (fC (.int 0)))) (fsRet (fVar 0)) fsNext)
    (fsRet (fLc (fiArgs gZip (faCons (fVar 0) (faCons (fVar 1) faNil))) (tgT [4, 5]) fYes (fOp gMod (fOp gSub (fVar 4) (fOp gMul (fOp gIx (fVar 0) (fVar 2)) (fVar 5))) (fVar 3)) [4, 5])))
noncomputable def F_cleared : Fn := runF 6 fb_cleared
noncomputable def fb_one_at : FS := (fsSeq (fsAsg 3 (fCall F_inverse (faCons (fOp gIx (fVar 0) (fVar 1)) (faCons (fVar 2) faNil))))
    (fsRet (fLcO (fiSeq (fVar 0)) (tgN 4) fYes (fOp gMod (fOp gMul (fVar 4) (fVar 3)) (fVar 2)) [4])))
noncomputable def F_one_at : Fn := runF 5 fb_one_at
noncomputable def fb_is_remainders : FS := (fsSeq (fsIf (ftOr (ftNot (fTr (fIsi "tuple" (fVar 0)))) (fB (fOp gNe (fFn gLen (faCons (fVar 0) faNil)) (fVar 1)))) (fsRet (fC (.bool false))) fsNext)
    (fsRet (fFn gAll (faCons (fLc (fiSeq (fVar 0)) (tgN 3) fYes (fCall F_is_within (faCons (fVar 3) (faCons (fC (.int 0)) (faCons (fOp gSub (fVar 2) (fC (.int 1))) faNil)))) [3]) faNil))))
noncomputable def F_is_remainders : Fn := runF 4 fb_is_remainders
noncomputable def fb_has_prime : FS := (fsRet (fAndV (fCall F_is_two (faCons (fVar 0) faNil)) (fAndV (fCall F_is_number (faCons (fOp gIx (fVar 0) (fC (.int 0))) faNil)) (fOp gIn (fOp gIx (fVar 0) (fC (.int 0))) (fUnV (gIxK [(2, [2]), (3, [3]), (5, [5]), (6, [2, 3]), (7, [7]), (10, [2, 5]), (11, [11]), (13, [13]), (14, [2, 7]), (15, [3, 5])]) (fVar 1))))))
noncomputable def F_has_prime : Fn := runF 2 fb_has_prime
noncomputable def lb_echelon_1 : FS := (fsSeq (fsLcX 7 (faCons (fVar 5) faNil) (tgT [8, 9]) (fTr (fOp gIx (fVar 9) (fVar 6))) (fVar 8) [8, 9])
    (fsIf (fTr (fVar 7)) (fsSeq (fsAsg 10 (frz (fCall F_one_at (faCons (fMut gPopAt (fVar 5) (faCons (fOp gIx (fVar 7) (fC (.int 0))) faNil)) (faCons (fVar 6) (faCons (fVar 2) faNil))))))
    (fsSeq (fsSeq (fsFrz 5) (fsAsg 5 (fLcO (fiSeq (fVar 5)) (tgN 9) fYes (fCall F_cleared (faCons (fVar 9) (faCons (fVar 10) (faCons (fVar 6) (faCons (fVar 2) faNil))))) [9])))
    (fsSeq (fsAsg 4 (fOp gAdd (fLc (fiSeq (fVar 4)) (tgN 9) fYes (fCall F_cleared (faCons (fVar 9) (faCons (fVar 10) (faCons (fVar 6) (faCons (fVar 2) faNil))))) [9]) (fLst (faCons (fVar 10) faNil))))
    (fsDrop (fMut gAppend (fVar 3) (faCons (fVar 6) faNil)))))) fsNext))
noncomputable def fb_echelon : FS := (fsSeq (fsParN [3, 4, 5] (faCons (fLstO faNil) (faCons (fLst faNil) (faCons (fListO (fVar 0)) faNil))))
    (fsSeq (fsFor (fiArgs gRange1 (faCons (fVar 1) faNil)) (tgN 6) lb_echelon_1)
    (fsSeq (fsFrz 3) (fsSeq (fsFrz 5) (fsRet (fTup (faCons (fVar 3) (faCons (fVar 4) (faCons (fVar 5) faNil)))))))))
noncomputable def F_echelon : Fn := runF 11 fb_echelon
noncomputable def fb_is_look : FS := (fsRet (fAndV (fCall F_is_two (faCons (fVar 0) faNil)) (fAndV (fCall F_is_remainders (faCons (fOp gIx (fVar 0) (fC (.int 0))) (faCons (fOp gAdd (fOp gMul (fC (.int 2)) (fVar 2)) (fC (.int 1))) (faCons (fVar 1) faNil)))) (fCall F_is_within (faCons (fOp gIx (fVar 0) (fC (.int 1))) (faCons (fC (.int 0)) (faCons (fOp gSub (fVar 1) (fC (.int 1))) faNil)))))))
noncomputable def F_is_look : Fn := runF 3 fb_is_look
noncomputable def fb_need_looks : FS := (fsSeq (fsAsg 3 (frz (fCall F_primes_of (faCons (fVar 0) faNil))))
    (fsSeq (fsIf (ftNot (fB (fChain gLe gLe (fC (.int 0)) (fVar 1) (fC (.int 3))))) fsNever fsNext)
    (fsSeq (fsIf (ftOr (ftNot (fTr (fIsi "tuple" (fVar 2)))) (ftNot (fTr (fFn gAll (faCons (fLc (fiSeq (fVar 2)) (tgN 4) fYes (fCall F_is_look (faCons (fVar 4) (faCons (fVar 0) (faCons (fVar 1) faNil)))) [4]) faNil))))) fsNever fsNext)
    (fsRet (fVar 3)))))
noncomputable def F_need_looks : Fn := runF 5 fb_need_looks
noncomputable def lb_solved_1 : FS := (fsDrop (fMut gAppend (fVar 3) (faCons (fOp gAdd (fLc (fiSeq (fOp gAdd (fVar 5) (fTup (faCons (fVar 6) faNil)))) (tgN 7) fYes (fOp gMod (fVar 7) (fVar 2)) [7]) (fLc (fiArgs gRange1 (faCons (fFn gLen (faCons (fVar 0) faNil)) faNil)) (tgN 8) fYes (fFn gInt (faCons (fOp gEq (fVar 4) (fVar 8)) faNil)) [8])) faNil)))
noncomputable def fb_solved : FS := (fsSeq (fsAsg 3 (fLstO faNil))
    (fsSeq (fsFor (fiArgs gEnumT (faCons (fVar 0) faNil)) (tgT2 [.inl 4, .inr [5, 6]]) lb_solved_1)
    (fsSeq (fsFrz 3) (fsRet (fCall F_echelon (faCons (fVar 3) (faCons (fVar 1) (faCons (fVar 2) faNil))))))))
noncomputable def F_solved : Fn := runF 9 fb_solved
noncomputable def lb_refusal_2 : FS := (fsIf (fTr (fOp gIx (fVar 6) (fVar 4))) (fsRet (fTup (faCons (fVar 5) (faCons (fFn gTuple (faCons (fSl (fVar 6) (fPart (fOp gAdd (fVar 4) (fC (.int 1)))) fNo) faNil)) faNil)))) fsNext)
noncomputable def lb_refusal_1 : FS := (fsFor (fiSeq (fOp gIx (fCall F_solved (faCons (fVar 2) (faCons (fVar 4) (faCons (fVar 5) faNil)))) (fC (.int 2)))) (tgN 6) lb_refusal_2)
noncomputable def fb_refusal : FS := (fsSeq (fsAsg 3 (fCall F_need_looks (faCons (fVar 0) (faCons (fVar 1) (faCons (fVar 2) faNil)))))
    (fsSeq (fsAsg 4 (fOp gAdd (fOp gMul (fC (.int 2)) (fVar 1)) (fC (.int 1))))
    (fsSeq (fsFor (fiSeq (fVar 3)) (tgN 5) lb_refusal_1)
    (fsRet (fC .none)))))
noncomputable def F_refusal : Fn := runF 7 fb_refusal
noncomputable def lb_refuses_1 : FS := (fsAsg 6 (fLc (fiArgs gZipLT (faCons (fVar 6) (faCons (fOp gAdd (fVar 8) (fTup (faCons (fVar 9) faNil))) faNil))) (tgT [10, 3]) fYes (fOp gAdd (fVar 10) (fOp gMul (fVar 7) (fVar 3))) [10, 3]))
noncomputable def fb_refuses : FS := (fsSeq (fsDrop (fCall F_need_looks (faCons (fVar 0) (faCons (fVar 1) (faCons (fVar 2) faNil)))))
    (fsSeq (fsIf (ftOr (ftNot (fTr (fCall F_has_prime (faCons (fVar 3) (faCons (fVar 0) faNil))))) (ftNot (fTr (fCall F_is_remainders (faCons (fOp gIx (fVar 3) (fC (.int 1))) (faCons (fFn gLen (faCons (fVar 2) faNil)) (faCons (fOp gIx (fVar 3) (fC (.int 0))) faNil))))))) (fsRet (fC (.bool false))) fsNext)
    (fsSeq (fsAsgT [4, 5] (fVar 3))
    (fsSeq (fsAsg 6 (frz (fRep (fLstO (faCons (fC (.int 0)) faNil)) (fOp gAdd (fOp gMul (fC (.int 2)) (fVar 1)) (fC (.int 2))))))
    (fsSeq (fsFor (fiArgs gZip (faCons (fVar 5) (faCons (fVar 2) faNil))) (tgT2 [.inl 7, .inr [8, 9]]) lb_refuses_1)
    (fsRet (fOp gEq (fLc (fiSeq (fVar 6)) (tgN 10) fYes (fOp gEq (fOp gMod (fVar 10) (fVar 4)) (fC (.int 0))) [10]) (fOp gAdd (frz (fRep (fLstO (faCons (fC (.bool true)) faNil)) (fOp gAdd (fOp gMul (fC (.int 2)) (fVar 1)) (fC (.int 1))))) (fLst (faCons (fC (.bool false)) faNil))))))))))
noncomputable def F_refuses : Fn := runF 11 fb_refuses
end NA

namespace NA
open PySem PySem.Spec PyProof.Rows L2 DL FL RF
local macro_rules | `(tactic| walk_at "fl") => `(tactic| simp only [ap_var, ap_c, ap_un, ap_unV, ap_op, ap_opO, ap_fn, ap_nil, ap_cons, ap_tr, ap_b, ap_tand, ap_tor, ap_tnot, ap_and, ap_or, ap_not, ap_if, ap_chain, ap_tup, ap_lst, ap_lstO, ap_dictO, ap_frz, ap_sl, ap_no, ap_part, ap_mut, ap_call, ap_callK, ap_get, ap_dict, ap_isi, ap_rep, ap_listO, ap_seq, ap_iargs, ap_lc, ap_lcO, ap_yes, ap_sq, ap_ret, ap_drop, ap_sif, ap_nx, ap_bk, ap_ct, ap_asg, ap_setR, ap_runT, ap_bb0, ap_bbs, ap_bbn, ap_bbd, ap_bbc, ap_bbb, ap_sfrz, ap_setI, ap_setK, ap_for, ap_par, ap_asgT, ap_run, ap_see, ap_seeo, ap_seer, ap_getC, ap_setC, ap_sees0, ap_sees1, ap_parN, ap_view, ap_frza0, ap_frza, ap_frzc, ap_frzb, ap_frzd, ap_frzn, ap_call1, ap_c1o, ap_sar0, ap_sar1, ap_frv, ap_fro, ap_tgN, ap_tgT, fin_val, fin_own, fin_ref, fin_nx, bors_nil, bors_d, bors_b, R.bind_ok, ofO_some, ofB_some, ofOL_list, seeV, frV, vals, setAllF, wipeF, restF, callR, refsOf, argVs, putBack, setR2, setI, setK, ap_glt, ap_gle, ap_ggt, ap_gge, ap_gsub, ap_gadd, ap_gneg, ap_gix, ap_cutl, ap_cutt, ap_gtup, ap_glist, ap_glen, ap_gint, ap_gintb, ap_gabs, ap_gmax, ap_gmin, ap_isN, ap_notN, ap_geq, ap_gne, ap_eqi, ap_eqb, ap_eqs, ap_iol, ap_iot, ap_gtn, ap_gtb, ap_gti, ap_gtl, ap_gtt, ap_isn0, ap_isni, ap_isnl, ap_isnt, ap_revl, ap_revt, ap_enum, ap_zipl, ap_zipt, intsOf_map, boolsOf_map, ap_cellL, startF, List.map_cons, List.map_nil, List.length_cons, List.length_nil, List.replicate_succ, List.replicate_zero, List.cons_append, List.nil_append, List.append_nil, List.getElem?_cons_zero, List.getElem?_cons_succ, List.getElem?_nil, List.set_cons_zero, List.set_cons_succ, List.set_nil, Option.map_some, Option.map_none, Option.bind_some, Option.bind_none, Nat.reduceSub, Nat.reduceAdd, if_true, if_false, Bool.false_eq_true, reduceIte, true_and, and_true, Nat.sub_zero, Nat.zero_add, reduceCtorEq, List.nodup_nil, List.nodup_cons, List.not_mem_nil, not_false_eq_true, and_self, Bool.not_true, Bool.not_false, Bool.not_not, decide_true, decide_false, Nat.reduceLeDiff, atI0, atI1, req_true])
abbrev Tm := RF.Tm
def mods : List Int := [2, 3, 5, 6, 7, 10, 11, 13, 14, 15]
def primesOf (m : Int) : List Int := [2, 3, 5, 7, 11, 13].filter fun p => decide (m % p = 0)
def pr (p : Int × Int) : PyData := .tuple [.int p.1, .int p.2]
def tm (a : Tm) : PyData := .tuple (a.map pr)
/-- rules and finite rows -/
def rule (m : Int) (a : Tm) : PyData := .tuple [.int m, tm a]
def iv (l : List Int) : List PyData := l.map .int
def isNum : PyData → Bool
  | .int _ => true
  | _ => false
def isWithin (a b : Int) : PyData → Bool
  | .int i => decide (a ≤ i) && decide (i ≤ b)
  | _ => false
def isTwo : PyData → Bool
  | .tuple xs => decide (xs.length = 2)
  | _ => false
def isI : PyData → Bool
  | .int _ => true
  | .bool _ => true
  | _ => false
def isB : PyData → Bool
  | .bool _ => true
  | _ => false
def isT : PyData → Bool
  | .tuple _ => true
  | _ => false
theorem kI : ∀ d, (kitB (kindOf d) "int").getD false = isI d
  | .none => (by decide +kernel : (kitB "NoneType" "int").getD false = false)
  | .bool _ => (by decide +kernel : (kitB "bool" "int").getD false = true)
  | .int _ => (by decide +kernel : (kitB "int" "int").getD false = true)
  | .str _ => (by decide +kernel : (kitB "str" "int").getD false = false)
  | .list _ => (by decide +kernel : (kitB "list" "int").getD false = false)
  | .tuple _ => (by decide +kernel : (kitB "tuple" "int").getD false = false)
  | .dict _ => (by decide +kernel : (kitB "dict" "int").getD false = false)
theorem kB : ∀ d, (kitB (kindOf d) "bool").getD false = isB d
  | .none => (by decide +kernel : (kitB "NoneType" "bool").getD false = false)
  | .bool _ => (by decide +kernel : (kitB "bool" "bool").getD false = true)
  | .int _ => (by decide +kernel : (kitB "int" "bool").getD false = false)
  | .str _ => (by decide +kernel : (kitB "str" "bool").getD false = false)
  | .list _ => (by decide +kernel : (kitB "list" "bool").getD false = false)
  | .tuple _ => (by decide +kernel : (kitB "tuple" "bool").getD false = false)
  | .dict _ => (by decide +kernel : (kitB "dict" "bool").getD false = false)
theorem kT : ∀ d, (kitB (kindOf d) "tuple").getD false = isT d
  | .none => (by decide +kernel : (kitB "NoneType" "tuple").getD false = false)
  | .bool _ => (by decide +kernel : (kitB "bool" "tuple").getD false = false)
  | .int _ => (by decide +kernel : (kitB "int" "tuple").getD false = false)
  | .str _ => (by decide +kernel : (kitB "str" "tuple").getD false = false)
  | .list _ => (by decide +kernel : (kitB "list" "tuple").getD false = false)
  | .tuple _ => (by decide +kernel : (kitB "tuple" "tuple").getD false = true)
  | .dict _ => (by decide +kernel : (kitB "dict" "tuple").getD false = false)
theorem e_is_number (v : PyData) : F_is_number [.d v] = tell (.bool (isNum v)) := by
  unfold F_is_number fb_is_number
  walk_at "fl"
  rw [kI, kB]
  cases v <;> rfl
theorem e_is_within (v : PyData) (a b : Int) : F_is_within [.d v, .d (.int a), .d (.int b)] = tell (.bool (isWithin a b v)) := by
  unfold F_is_within fb_is_within
  walk_at "fl"
  rw [e_is_number]
  walk_at "fl"
  cases v with
  | int i =>
    simp only [isNum, isWithin]
    walk_at "fl"
    by_cases h : a ≤ i <;> simp only [h, decide_true, decide_false, Bool.true_and, Bool.false_and] <;> walk_at "fl"
  | _ => rfl
theorem e_is_two (v : PyData) : F_is_two [.d v] = tell (.bool (isTwo v)) := by
  unfold F_is_two fb_is_two
  walk_at "fl"
  rw [kT]
  cases v with
  | tuple xs =>
    have e : decide ((xs.length : Int) = 2) = decide (xs.length = 2) := by rw [Bool.eq_iff_iff]; simp; omega
    simp only [isT, isTwo]
    walk_at "fl"
    rw [e]
  | _ => rfl
theorem zipD_len : ∀ xs ys : List PyData, (zipD xs ys).length ≤ xs.length
  | [], _ => by simp [zipD]
  | _ :: _, [] => by simp [zipD]
  | x :: xs, y :: ys => by simp [zipD, zipD_len xs ys]
theorem zip_mem : ∀ (xs ys : List PyData) (d : PyData), d ∈ zipD xs ys → ∃ x y, x ∈ xs ∧ y ∈ ys ∧ d = .tuple [x, y]
  | x :: xs, y :: ys, d, h => by
    rcases List.mem_cons.mp h with e | h
    · exact ⟨x, y, List.mem_cons_self, List.mem_cons_self, e⟩
    · obtain ⟨a, b, h1, h2, h3⟩ := zip_mem xs ys d h
      exact ⟨a, b, List.mem_cons_of_mem _ h1, List.mem_cons_of_mem _ h2, h3⟩
  | [], _, _, h => by simp [zipD] at h
  | _ :: _, [], _, h => by simp [zipD] at h
theorem iv_mem {l : List Int} {d : PyData} (h : d ∈ iv l) : ∃ i ∈ l, d = .int i := by
  obtain ⟨i, hi, e⟩ := List.mem_map.mp h
  exact ⟨i, hi, e.symm⟩
end NA

namespace NA
open PySem PySem.Spec PyProof.Rows L2 DL FL RF
local macro_rules | `(tactic| walk_at "fl") => `(tactic| simp only [ap_var, ap_c, ap_un, ap_unV, ap_op, ap_opO, ap_fn, ap_nil, ap_cons, ap_tr, ap_b, ap_tand, ap_tor, ap_tnot, ap_and, ap_or, ap_not, ap_if, ap_chain, ap_tup, ap_lst, ap_lstO, ap_dictO, ap_frz, ap_sl, ap_no, ap_part, ap_mut, ap_call, ap_callK, ap_get, ap_dict, ap_isi, ap_rep, ap_listO, ap_seq, ap_iargs, ap_lc, ap_lcO, ap_yes, ap_sq, ap_ret, ap_drop, ap_sif, ap_nx, ap_bk, ap_ct, ap_asg, ap_setR, ap_runT, ap_bb0, ap_bbs, ap_bbn, ap_bbd, ap_bbc, ap_bbb, ap_sfrz, ap_setI, ap_setK, ap_for, ap_par, ap_asgT, ap_run, ap_see, ap_seeo, ap_seer, ap_getC, ap_setC, ap_sees0, ap_sees1, ap_parN, ap_view, ap_frza0, ap_frza, ap_frzc, ap_frzb, ap_frzd, ap_frzn, ap_call1, ap_c1o, ap_sar0, ap_sar1, ap_frv, ap_fro, ap_tgN, ap_tgT, fin_val, fin_own, fin_ref, fin_nx, bors_nil, bors_d, bors_b, R.bind_ok, ofO_some, ofB_some, ofOL_list, seeV, frV, vals, setAllF, wipeF, restF, callR, refsOf, argVs, putBack, setR2, setI, setK, ap_glt, ap_gle, ap_ggt, ap_gge, ap_gsub, ap_gadd, ap_gneg, ap_gix, ap_cutl, ap_cutt, ap_gtup, ap_glist, ap_glen, ap_gint, ap_gintb, ap_gabs, ap_gmax, ap_gmin, ap_isN, ap_notN, ap_geq, ap_gne, ap_eqi, ap_eqb, ap_eqs, ap_iol, ap_iot, ap_gtn, ap_gtb, ap_gti, ap_gtl, ap_gtt, ap_isn0, ap_isni, ap_isnl, ap_isnt, ap_revl, ap_revt, ap_enum, ap_zipl, ap_zipt, intsOf_map, boolsOf_map, ap_cellL, startF, List.map_cons, List.map_nil, List.length_cons, List.length_nil, List.replicate_succ, List.replicate_zero, List.cons_append, List.nil_append, List.append_nil, List.getElem?_cons_zero, List.getElem?_cons_succ, List.getElem?_nil, List.set_cons_zero, List.set_cons_succ, List.set_nil, Option.map_some, Option.map_none, Option.bind_some, Option.bind_none, Nat.reduceSub, Nat.reduceAdd, if_true, if_false, Bool.false_eq_true, reduceIte, true_and, and_true, Nat.sub_zero, Nat.zero_add, reduceCtorEq, List.nodup_nil, List.nodup_cons, List.not_mem_nil, not_false_eq_true, and_self, Bool.not_true, Bool.not_false, Bool.not_not, decide_true, decide_false, Nat.reduceLeDiff, atI0, atI1, req_true])
/-- a rule, a finite row -/
structure Ok (m : Int) (a : Tm) : Prop where
  mo : m ∈ mods
  cn : Cn m a
  len : a.length ≤ 900000
theorem modsB {m : Int} (h : m ∈ mods) : 2 ≤ m ∧ m ≤ 15 := by
  simp only [mods, List.mem_cons, List.not_mem_nil, or_false] at h
  omega
theorem all_true (l : List PyData) : boolsOf (l.map fun _ => PyData.bool true) = some (l.map fun _ => true) := by
  have := boolsOf_map (l.map fun _ => true)
  rwa [List.map_map] at this
theorem gAll_true (l : List PyData) : gAll [.list (l.map fun _ => PyData.bool true)] = some (.bool true) := by
  simp only [gAll, all_true, Option.map_some]
  congr 2
  simp
theorem two_d {x y : PyData} : isTwo (.tuple [x, y]) = true := rfl
theorem e_is_modulus {m : Int} (h : m ∈ mods) : F_is_modulus [.d (.int m)] = tell (.bool true) := by
  unfold F_is_modulus fb_is_modulus
  repeat first | simp only [e_is_number, isNum, gInK] | walk_at "fl"
  have : m ∈ [2, 3, 5, 6, 7, 10, 11, 13, 14, 15] := h
  simp only [this]
  walk_at "fl"
/-- a round row -/
structure Rnd (m : Int) (vs : List Int) : Prop where
  mo : m ∈ mods
  ne : vs ≠ []
  rg : ∀ v ∈ vs, 0 ≤ v ∧ v < m
  len : vs.length ≤ 900000
theorem lkp_mods : ∀ m ∈ mods, lkp [(2, [2]), (3, [3]), (5, [5]), (6, [2, 3]), (7, [7]), (10, [2, 5]), (11, [11]), (13, [13]), (14, [2, 7]), (15, [3, 5])] m = some (primesOf m) := by decide
theorem e_primes_of {m : Int} (h : m ∈ mods) : F_primes_of [.d (.int m)] = .ok (.own (.lst (iv (primesOf m)))) [] := by
  unfold F_primes_of fb_primes_of
  repeat first | simp only [e_is_modulus h] | walk_at "fl"
  simp only [gIxK, lkp_mods m h]
  walk_at "fl"
  rfl
end NA

namespace NA
open PySem PySem.Spec PyProof.Rows L2 DL FL RF
local macro_rules | `(tactic| walk_at "fl") => `(tactic| simp only [ap_var, ap_c, ap_un, ap_unV, ap_op, ap_opO, ap_fn, ap_nil, ap_cons, ap_tr, ap_b, ap_tand, ap_tor, ap_tnot, ap_and, ap_or, ap_not, ap_if, ap_chain, ap_tup, ap_lst, ap_lstO, ap_dictO, ap_frz, ap_sl, ap_no, ap_part, ap_mut, ap_call, ap_callK, ap_get, ap_dict, ap_isi, ap_rep, ap_listO, ap_seq, ap_iargs, ap_lc, ap_lcO, ap_yes, ap_sq, ap_ret, ap_drop, ap_sif, ap_nx, ap_bk, ap_ct, ap_asg, ap_setR, ap_runT, ap_bb0, ap_bbs, ap_bbn, ap_bbd, ap_bbc, ap_bbb, ap_sfrz, ap_setI, ap_setK, ap_for, ap_par, ap_asgT, ap_run, ap_see, ap_seeo, ap_seer, ap_getC, ap_setC, ap_sees0, ap_sees1, ap_parN, ap_view, ap_frza0, ap_frza, ap_frzc, ap_frzb, ap_frzd, ap_frzn, ap_call1, ap_c1o, ap_sar0, ap_sar1, ap_frv, ap_fro, ap_tgN, ap_tgT, fin_val, fin_own, fin_ref, fin_nx, bors_nil, bors_d, bors_b, R.bind_ok, ofO_some, ofB_some, ofOL_list, seeV, frV, vals, setAllF, wipeF, restF, callR, refsOf, argVs, putBack, setR2, setI, setK, ap_glt, ap_gle, ap_ggt, ap_gge, ap_gsub, ap_gadd, ap_gneg, ap_gix, ap_cutl, ap_cutt, ap_gtup, ap_glist, ap_glen, ap_gint, ap_gintb, ap_gabs, ap_gmax, ap_gmin, ap_isN, ap_notN, ap_geq, ap_gne, ap_eqi, ap_eqb, ap_eqs, ap_iol, ap_iot, ap_gtn, ap_gtb, ap_gti, ap_gtl, ap_gtt, ap_isn0, ap_isni, ap_isnl, ap_isnt, ap_revl, ap_revt, ap_enum, ap_zipl, ap_zipt, intsOf_map, boolsOf_map, ap_cellL, startF, List.map_cons, List.map_nil, List.length_cons, List.length_nil, List.replicate_succ, List.replicate_zero, List.cons_append, List.nil_append, List.append_nil, List.getElem?_cons_zero, List.getElem?_cons_succ, List.getElem?_nil, List.set_cons_zero, List.set_cons_succ, List.set_nil, Option.map_some, Option.map_none, Option.bind_some, Option.bind_none, Nat.reduceSub, Nat.reduceAdd, if_true, if_false, Bool.false_eq_true, reduceIte, true_and, and_true, Nat.sub_zero, Nat.zero_add, reduceCtorEq, List.nodup_nil, List.nodup_cons, List.not_mem_nil, not_false_eq_true, and_self, Bool.not_true, Bool.not_false, Bool.not_not, decide_true, decide_false, Nat.reduceLeDiff, atI0, atI1, req_true])
/-- what is drawn from -/
def Pot (n : Nat) (c : Cell) : Prop := ∃ a b k : Int, c = .lst [.int a, .int b, .int k] ∧ 0 ≤ b ∧ b < 10 ^ 30 ∧ 0 ≤ k ∧ k ≤ n
theorem Pot.mono {n m : Nat} {c : Cell} (h : Pot n c) (hl : n ≤ m) : Pot m c := by
  obtain ⟨a, b, k, h0, h1, h2, h3, h4⟩ := h
  exact ⟨a, b, k, h0, h1, h2, h3, by omega⟩
theorem ix0 {a b c : PyData} : atI [a, b, c] 0 = some a := atI0
theorem ix1 {a b c : PyData} : atI [a, b, c] 1 = some b := atI1
theorem ix2 {a b c : PyData} : atI [a, b, c] 2 = some c := (show atI [a, b, c] ((2 : Nat) : Int) = some c from atI_nat rfl)
theorem jx0 {n : Nat} (h : n = 3) : ixN n 0 = some 0 := h ▸ (by decide : ixN 3 0 = some 0)
theorem jx2 {n : Nat} (h : n = 3) : ixN n 2 = some 2 := h ▸ (by decide : ixN 3 2 = some 2)
theorem pw (k : Nat) (h : k ≤ 1000) : CPowB 10 (k : Int) := powB (k := 4) (by omega) (by decide) (by omega)
theorem gI_pos {C : Int → Int → Prop} {g : Int → Int → PyData} {i j : Int} (h : C i j) : gI C g (.int i) (.int j) = some (g i j) := req_pos h
theorem g_mod {i j : Int} (h : 0 < j) : FL.gMod (.int i) (.int j) = some (.int (i % j)) := gI_pos (C := fun _ j => 0 < j) h
theorem g_fdiv {i j : Int} (h : CDivW i j) : FL.gFdiv (.int i) (.int j) = some (.int (i / j)) := gI_pos h
theorem g_pow {i j : Int} (h : CPowB i j) : FL.gPow (.int i) (.int j) = some (.int (i ^ j.toNat)) := gI_pos h
theorem g_mul {i j : Int} (h : Bits i j) : FL.gMul (.int i) (.int j) = some (.int (i * j)) := gI_pos h
theorem g_add {i j : Int} : FL.gAdd (.int i) (.int j) = some (.int (i + j)) := rfl
end NA

namespace NA
open PySem PySem.Spec PyProof.Rows L2 DL FL RF
local macro_rules | `(tactic| walk_at "fl") => `(tactic| simp only [ap_var, ap_c, ap_un, ap_unV, ap_op, ap_opO, ap_fn, ap_nil, ap_cons, ap_tr, ap_b, ap_tand, ap_tor, ap_tnot, ap_and, ap_or, ap_not, ap_if, ap_chain, ap_tup, ap_lst, ap_lstO, ap_dictO, ap_frz, ap_sl, ap_no, ap_part, ap_mut, ap_call, ap_callK, ap_get, ap_dict, ap_isi, ap_rep, ap_listO, ap_seq, ap_iargs, ap_lc, ap_lcO, ap_yes, ap_sq, ap_ret, ap_drop, ap_sif, ap_nx, ap_bk, ap_ct, ap_asg, ap_setR, ap_runT, ap_bb0, ap_bbs, ap_bbn, ap_bbd, ap_bbc, ap_bbb, ap_sfrz, ap_setI, ap_setK, ap_for, ap_par, ap_asgT, ap_run, ap_see, ap_seeo, ap_seer, ap_getC, ap_setC, ap_sees0, ap_sees1, ap_parN, ap_view, ap_frza0, ap_frza, ap_frzc, ap_frzb, ap_frzd, ap_frzn, ap_call1, ap_c1o, ap_sar0, ap_sar1, ap_frv, ap_fro, ap_tgN, ap_tgT, fin_val, fin_own, fin_ref, fin_nx, bors_nil, bors_d, bors_b, R.bind_ok, ofO_some, ofB_some, ofOL_list, seeV, frV, vals, setAllF, wipeF, restF, callR, refsOf, argVs, putBack, setR2, setI, setK, ap_glt, ap_gle, ap_ggt, ap_gge, ap_gsub, ap_gadd, ap_gneg, ap_gix, ap_cutl, ap_cutt, ap_gtup, ap_glist, ap_glen, ap_gint, ap_gintb, ap_gabs, ap_gmax, ap_gmin, ap_isN, ap_notN, ap_geq, ap_gne, ap_eqi, ap_eqb, ap_eqs, ap_iol, ap_iot, ap_gtn, ap_gtb, ap_gti, ap_gtl, ap_gtt, ap_isn0, ap_isni, ap_isnl, ap_isnt, ap_revl, ap_revt, ap_enum, ap_zipl, ap_zipt, intsOf_map, boolsOf_map, ap_cellL, startF, List.map_cons, List.map_nil, List.length_cons, List.length_nil, List.replicate_succ, List.replicate_zero, List.cons_append, List.nil_append, List.append_nil, List.getElem?_cons_zero, List.getElem?_cons_succ, List.getElem?_nil, List.set_cons_zero, List.set_cons_succ, List.set_nil, Option.map_some, Option.map_none, Option.bind_some, Option.bind_none, Nat.reduceSub, Nat.reduceAdd, if_true, if_false, Bool.false_eq_true, reduceIte, true_and, and_true, Nat.sub_zero, Nat.zero_add, reduceCtorEq, List.nodup_nil, List.nodup_cons, List.not_mem_nil, not_false_eq_true, and_self, Bool.not_true, Bool.not_false, Bool.not_not, decide_true, decide_false, Nat.reduceLeDiff, atI0, atI1, req_true])
/-- what is so of an answer -/
def Told (P : FR → List Cell → Prop) : FO → Prop
  | .ok r bs => P r bs
  | _ => False
theorem told_ex {P : FR → List Cell → Prop} {o : FO} (h : Told P o) : ∃ r bs, o = .ok r bs ∧ P r bs := by
  cases o with
  | ok r bs => exact ⟨r, bs, rfl, h⟩
  | no => exact h.elim
  | ex _ _ => exact h.elim
theorem lc_rel {gf : GF} {tt : FTT} {fe : FT} {vs : List Nat} (I : Nat → FSt → Prop) (P : PyData → PyData → Prop) (B N : Nat) : ∀ (ds acc : List PyData) (n : Nat) (ε : FSt), acc.length + ds.length ≤ 1000000 → n + B * ds.length ≤ N → I n ε →
    (∀ d ∈ ds, ∀ n ε, I n ε → n + B ≤ N → ∃ ε1 ε0 y ε2, gf d (wipeF ε vs) = some ε1 ∧ tt ε1 = .ok true ε0 ∧ fe ε0 = .ok (.val y) ε2 ∧ P d y ∧ I (n + B) (restF ε ε2 vs)) →
    ∃ ys ε', fLcGo gf tt fe vs ds acc ε = .ok (acc ++ ys) ε' ∧ Paired P ds ys ∧ I (n + B * ds.length) ε'
  | [], acc, n, ε, hl, hN, hi, h => ⟨[], ε, by simp [fLcGo], .nil, by simpa using hi⟩
  | d :: ds, acc, n, ε, hl, hN, hi, h => by
    simp only [List.length_cons] at hl hN
    have hB : B * (ds.length + 1) = B + B * ds.length := by rw [Nat.mul_add, Nat.mul_one, Nat.add_comm]
    obtain ⟨ε1, ε0, y, ε2, h1, h2, h3, h4, h5⟩ := h d List.mem_cons_self n ε hi (by omega)
    obtain ⟨ys, ε', e1, e2, e3⟩ := lc_rel I P B N ds (acc ++ [y]) (n + B) (restF ε ε2 vs) (by simp; omega) (by omega) h5 fun e he => h e (List.mem_cons_of_mem _ he)
    refine ⟨y :: ys, ε', ?_, .cons h4 e2, by rw [List.length_cons, hB, ← Nat.add_assoc]; exact e3⟩
    unfold fLcGo
    simp only [h1, h2, R.bind_ok, if_true, h3]
    rw [if_pos (by omega), e1]
    simp
theorem getI {xs : List PyData} {r : Int} (h0 : 0 ≤ r) (h1 : r < xs.length) : ∃ d, atI xs r = some d ∧ d ∈ xs := by
  obtain ⟨k, rfl⟩ := Int.eq_ofNat_of_zero_le h0
  have hk : k < xs.length := by omega
  exact ⟨xs[k], atI_nat (List.getElem?_eq_getElem hk), List.getElem_mem hk⟩
theorem enumD_len : ∀ (k : Nat) (xs : List PyData), (enumD k xs).length = xs.length
  | _, [] => rfl
  | k, x :: xs => by simp [enumD, enumD_len (k + 1) xs]
theorem enumD_mem : ∀ (k : Nat) (xs : List PyData) (d : PyData), d ∈ enumD k xs → ∃ (i : Nat) (x : PyData), k ≤ i ∧ i < k + xs.length ∧ xs[i - k]? = some x ∧ d = .tuple [.int i, x]
  | _, [], d, h => by simp [enumD] at h
  | k, x :: xs, d, h => by
    rcases List.mem_cons.mp h with e | h
    · exact ⟨k, x, Nat.le_refl _, by simp, by simp, e⟩
    · obtain ⟨i, y, h1, h2, h3, h4⟩ := enumD_mem (k + 1) xs d h
      refine ⟨i, y, by omega, by simp; omega, ?_, h4⟩
      rw [show i - k = (i - (k + 1)) + 1 by omega]
      simpa using h3
theorem gSum_iv (zs : List Int) : gSum [.list (iv zs)] = some (.int zs.sum) := by
  simp only [gSum, iv, intsOf_map, Option.map_some]
end NA

namespace NA
open PySem PySem.Spec PyProof.Rows L2 DL FL RF
local macro_rules | `(tactic| walk_at "fl") => `(tactic| simp only [ap_var, ap_c, ap_un, ap_unV, ap_op, ap_opO, ap_fn, ap_nil, ap_cons, ap_tr, ap_b, ap_tand, ap_tor, ap_tnot, ap_and, ap_or, ap_not, ap_if, ap_chain, ap_tup, ap_lst, ap_lstO, ap_dictO, ap_frz, ap_sl, ap_no, ap_part, ap_mut, ap_call, ap_callK, ap_get, ap_dict, ap_isi, ap_rep, ap_listO, ap_seq, ap_iargs, ap_lc, ap_lcO, ap_yes, ap_sq, ap_ret, ap_drop, ap_sif, ap_nx, ap_bk, ap_ct, ap_asg, ap_setR, ap_runT, ap_bb0, ap_bbs, ap_bbn, ap_bbd, ap_bbc, ap_bbb, ap_sfrz, ap_setI, ap_setK, ap_for, ap_par, ap_asgT, ap_run, ap_see, ap_seeo, ap_seer, ap_getC, ap_setC, ap_sees0, ap_sees1, ap_parN, ap_view, ap_frza0, ap_frza, ap_frzc, ap_frzb, ap_frzd, ap_frzn, ap_call1, ap_c1o, ap_sar0, ap_sar1, ap_frv, ap_fro, ap_tgN, ap_tgT, fin_val, fin_own, fin_ref, fin_nx, bors_nil, bors_d, bors_b, R.bind_ok, ofO_some, ofB_some, ofOL_list, seeV, frV, vals, setAllF, wipeF, restF, callR, refsOf, argVs, putBack, setR2, setI, setK, ap_glt, ap_gle, ap_ggt, ap_gge, ap_gsub, ap_gadd, ap_gneg, ap_gix, ap_cutl, ap_cutt, ap_gtup, ap_glist, ap_glen, ap_gint, ap_gintb, ap_gabs, ap_gmax, ap_gmin, ap_isN, ap_notN, ap_geq, ap_gne, ap_eqi, ap_eqb, ap_eqs, ap_iol, ap_iot, ap_gtn, ap_gtb, ap_gti, ap_gtl, ap_gtt, ap_isn0, ap_isni, ap_isnl, ap_isnt, ap_revl, ap_revt, ap_enum, ap_zipl, ap_zipt, intsOf_map, boolsOf_map, ap_cellL, startF, List.map_cons, List.map_nil, List.length_cons, List.length_nil, List.replicate_succ, List.replicate_zero, List.cons_append, List.nil_append, List.append_nil, List.getElem?_cons_zero, List.getElem?_cons_succ, List.getElem?_nil, List.set_cons_zero, List.set_cons_succ, List.set_nil, Option.map_some, Option.map_none, Option.bind_some, Option.bind_none, Nat.reduceSub, Nat.reduceAdd, if_true, if_false, Bool.false_eq_true, reduceIte, true_and, and_true, Nat.sub_zero, Nat.zero_add, reduceCtorEq, List.nodup_nil, List.nodup_cons, List.not_mem_nil, not_false_eq_true, and_self, Bool.not_true, Bool.not_false, Bool.not_not, decide_true, decide_false, Nat.reduceLeDiff, atI0, atI1, req_true])
theorem e_law_primes (m : Int) : F__law_primes [.d (.int m)] = .ok (.own (.lst (iv (primesOf m)))) [] := by
  unfold F__law_primes fb__law_primes
  walk_at "fl"
  rw [lc_some (fun d => d) (fun d => match d with
    | .int p => decide (m % p = 0)
    | _ => false) (by decide)]
  · walk_at "fl"
    have e2 : (([PyData.int 2, .int 3, .int 5, .int 7, .int 11, .int 13].filter fun d => match d with
      | .int p => decide (m % p = 0)
      | _ => false).map fun d => d) = iv (primesOf m) := by
      unfold primesOf iv
      have : [PyData.int 2, .int 3, .int 5, .int 7, .int 11, .int 13] = [2, 3, 5, 7, 11, 13].map PyData.int := rfl
      rw [this, List.filter_map]
      simp [Function.comp_def]
    rw [e2]
  · intro d hd
    have hd' : ∃ p : Int, d = .int p ∧ 0 < p := by
      simp only [List.mem_cons, List.not_mem_nil, or_false] at hd
      rcases hd with rfl | rfl | rfl | rfl | rfl | rfl <;> exact ⟨_, rfl, by decide⟩
    obtain ⟨p, rfl, hp⟩ := hd'
    refine ⟨_, rfl, by walk_at "fl", ?_, fun _ => by walk_at "fl"⟩
    repeat first | simp only [g_mod hp, eqP] | walk_at "fl"
end NA

namespace NA
open PySem PySem.Spec PyProof.Rows L2 DL FL RF
local macro_rules | `(tactic| walk_at "fl") => `(tactic| simp only [ap_var, ap_c, ap_un, ap_unV, ap_op, ap_opO, ap_fn, ap_nil, ap_cons, ap_tr, ap_b, ap_tand, ap_tor, ap_tnot, ap_and, ap_or, ap_not, ap_if, ap_chain, ap_tup, ap_lst, ap_lstO, ap_dictO, ap_frz, ap_sl, ap_no, ap_part, ap_mut, ap_call, ap_callK, ap_get, ap_dict, ap_isi, ap_rep, ap_listO, ap_seq, ap_iargs, ap_lc, ap_lcO, ap_yes, ap_sq, ap_ret, ap_drop, ap_sif, ap_nx, ap_bk, ap_ct, ap_asg, ap_setR, ap_runT, ap_bb0, ap_bbs, ap_bbn, ap_bbd, ap_bbc, ap_bbb, ap_sfrz, ap_setI, ap_setK, ap_for, ap_par, ap_asgT, ap_run, ap_see, ap_seeo, ap_seer, ap_getC, ap_setC, ap_sees0, ap_sees1, ap_parN, ap_view, ap_frza0, ap_frza, ap_frzc, ap_frzb, ap_frzd, ap_frzn, ap_call1, ap_c1o, ap_sar0, ap_sar1, ap_frv, ap_fro, ap_tgN, ap_tgT, fin_val, fin_own, fin_ref, fin_nx, bors_nil, bors_d, bors_b, R.bind_ok, ofO_some, ofB_some, ofOL_list, seeV, frV, vals, setAllF, wipeF, restF, callR, refsOf, argVs, putBack, setR2, setI, setK, ap_glt, ap_gle, ap_ggt, ap_gge, ap_gsub, ap_gadd, ap_gneg, ap_gix, ap_cutl, ap_cutt, ap_gtup, ap_glist, ap_glen, ap_gint, ap_gintb, ap_gabs, ap_gmax, ap_gmin, ap_isN, ap_notN, ap_geq, ap_gne, ap_eqi, ap_eqb, ap_eqs, ap_iol, ap_iot, ap_gtn, ap_gtb, ap_gti, ap_gtl, ap_gtt, ap_isn0, ap_isni, ap_isnl, ap_isnt, ap_revl, ap_revt, ap_enum, ap_zipl, ap_zipt, intsOf_map, boolsOf_map, ap_cellL, startF, List.map_cons, List.map_nil, List.length_cons, List.length_nil, List.replicate_succ, List.replicate_zero, List.cons_append, List.nil_append, List.append_nil, List.getElem?_cons_zero, List.getElem?_cons_succ, List.getElem?_nil, List.set_cons_zero, List.set_cons_succ, List.set_nil, Option.map_some, Option.map_none, Option.bind_some, Option.bind_none, Nat.reduceSub, Nat.reduceAdd, if_true, if_false, Bool.false_eq_true, reduceIte, true_and, and_true, Nat.sub_zero, Nat.zero_add, reduceCtorEq, List.nodup_nil, List.nodup_cons, List.not_mem_nil, not_false_eq_true, and_self, Bool.not_true, Bool.not_false, Bool.not_not, decide_true, decide_false, Nat.reduceLeDiff, atI0, atI1, req_true])
def tbk (t : Tm) : KVs := t.map fun p => ((Sum.inl p.1 : Key), PyData.int p.2)
theorem tb_val {t : Tm} {k : Int} : valD (tbk t) (Sum.inl k : Key) = (tget t k).map PyData.int := by
  unfold valD tbk tget
  induction t with
  | nil => rfl
  | cons p t ih =>
    rw [List.map_cons, List.find?_cons, List.find?_cons]
    by_cases e : p.1 = k
    · simp [e]
    · have e' : ¬ (Sum.inl p.1 : Key) = Sum.inl k := fun z => e (Sum.inl.inj z)
      simp only [e, e', decide_false]
      exact ih
theorem tb_put {t : Tm} {k v : Int} : putD (tbk t) (Sum.inl k : Key) (PyData.int v) = tbk (tput t k v) := by
  unfold putD tput
  have h1 : ((tbk t).any fun kv => decide (kv.1 = (Sum.inl k : Key))) = t.any fun p => decide (p.1 = k) := by
    unfold tbk
    rw [List.any_map]
    congr 1
    funext p
    simp [Function.comp, inl_eq]
  rw [h1]
  split
  · unfold tbk
    rw [List.map_map, List.map_map]
    apply List.map_congr_left
    intro p hp
    simp only [Function.comp, inl_eq]
    split <;> rfl
  · simp [tbk]
theorem tb_get {t : Tm} {k d : Int} : (valD (tbk t) (Sum.inl k : Key)).getD (PyData.int d) = .int ((tget t k).getD d) := by
  rw [tb_val]
  cases tget t k <;> rfl
theorem tbk_len {t : Tm} : (tbk t).length = t.length := by simp [tbk]
theorem kvs_tbk {t : Tm} : kvsOf (cellD (.dct (tbk t))) = some (tbk t) := kvsOf_cell _
theorem _root_.RF.Tb.to {t : Tm} {n k : Nat} {F G : (Int → Int) → Int} (h : Tb t n F) (hn : n ≤ k) (hf : ∀ f, F f = G f) : Tb t k G := ⟨h.nd, Nat.le_trans h.ln hn, fun f => (h.ev f).trans (hf f)⟩
theorem _root_.RF.Tb.put {t : Tm} {n : Nat} {F : (Int → Int) → Int} (h : Tb t n F) (k v : Int) : Tb (tput t k ((tget t k).getD 0 + v)) (n + 1) (fun f => F f + v * f k) := by
  rw [put_ins h.nd]; exact h.ins
theorem key_int {i : Int} : keyOf (.int i) = some (Sum.inl i) := rfl
theorem loop_sums {x0 x1 : Option FV} : ∀ (l t : Tm) (n : Nat) (F : (Int → Int) → Int) (y z : Option FV), bb y = false → bb z = false → Tb t n F → n + l.length ≤ 890000 →
    ∃ t' y' z', fsGo (tgT [3, 4]) lb_sums_of_1 (l.map pr) [x0, x1, some (.c (.dct (tbk t))), y, z] = .ok .nx [x0, x1, some (.c (.dct (tbk t'))), y', z'] ∧ Tb t' (n + l.length) (fun f => F f + ev l f)
  | [], t, n, F, y, z, _, _, h, hl => ⟨t, y, z, rfl, h.to (by simp) (fun f => by simp [ev])⟩
  | p :: l, t, n, F, y, z, b3, b4, h, hl => by
    simp only [List.length_cons] at hl
    obtain ⟨t', y', z', e, ht⟩ := loop_sums l _ (n + 1) _ (some (.d (.int p.1))) (some (.d (.int p.2))) rfl rfl (h.put p.1 p.2) (by omega)
    refine ⟨t', y', z', ?_, ht.to (by simp only [List.length_cons]; omega) fun f => by rw [ev_cons]; omega⟩
    have hlt : (tbk t).length < 900000 := by rw [tbk_len]; have := h.ln; omega
    refine (go_nx ?_).trans e
    unfold lb_sums_of_1 pr
    repeat first | simp only [kvs_tbk, key_int, tb_get, tb_put, hlt, b3, b4] | walk_at "fl"
theorem gadd_tup {xs ys : List PyData} (h : xs.length + ys.length ≤ 900000) : FL.gAdd (.tuple xs) (.tuple ys) = some (.tuple (xs ++ ys)) := req_pos h
theorem bits_small {v c : Int} (hv : v.natAbs < 2 ^ 20) (hc : c.natAbs < 2 ^ 20) : Bits v c := Bits.of (a := 20) (b := 20) (bits_le hv) (bits_le hc) (by decide)
structure Sm (a : Tm) : Prop where
  ln : a.length ≤ 900
  vl : ∀ p ∈ a, p.2.natAbs < 2 ^ 20
end NA

namespace NA
open PySem PySem.Spec PyProof.Rows L2 DL FL RF
local macro_rules | `(tactic| walk_at "fl") => `(tactic| simp only [ap_var, ap_c, ap_un, ap_unV, ap_op, ap_opO, ap_fn, ap_nil, ap_cons, ap_tr, ap_b, ap_tand, ap_tor, ap_tnot, ap_and, ap_or, ap_not, ap_if, ap_chain, ap_tup, ap_lst, ap_lstO, ap_dictO, ap_frz, ap_sl, ap_no, ap_part, ap_mut, ap_call, ap_callK, ap_get, ap_dict, ap_isi, ap_rep, ap_listO, ap_seq, ap_iargs, ap_lc, ap_lcO, ap_yes, ap_sq, ap_ret, ap_drop, ap_sif, ap_nx, ap_bk, ap_ct, ap_asg, ap_setR, ap_runT, ap_bb0, ap_bbs, ap_bbn, ap_bbd, ap_bbc, ap_bbb, ap_sfrz, ap_setI, ap_setK, ap_for, ap_par, ap_asgT, ap_run, ap_see, ap_seeo, ap_seer, ap_getC, ap_setC, ap_sees0, ap_sees1, ap_parN, ap_view, ap_frza0, ap_frza, ap_frzc, ap_frzb, ap_frzd, ap_frzn, ap_call1, ap_c1o, ap_sar0, ap_sar1, ap_frv, ap_fro, ap_tgN, ap_tgT, fin_val, fin_own, fin_ref, fin_nx, bors_nil, bors_d, bors_b, R.bind_ok, ofO_some, ofB_some, ofOL_list, seeV, frV, vals, setAllF, wipeF, restF, callR, refsOf, argVs, putBack, setR2, setI, setK, ap_glt, ap_gle, ap_ggt, ap_gge, ap_gsub, ap_gadd, ap_gneg, ap_gix, ap_cutl, ap_cutt, ap_gtup, ap_glist, ap_glen, ap_gint, ap_gintb, ap_gabs, ap_gmax, ap_gmin, ap_isN, ap_notN, ap_geq, ap_gne, ap_eqi, ap_eqb, ap_eqs, ap_iol, ap_iot, ap_gtn, ap_gtb, ap_gti, ap_gtl, ap_gtt, ap_isn0, ap_isni, ap_isnl, ap_isnt, ap_revl, ap_revt, ap_enum, ap_zipl, ap_zipt, intsOf_map, boolsOf_map, ap_cellL, startF, List.map_cons, List.map_nil, List.length_cons, List.length_nil, List.replicate_succ, List.replicate_zero, List.cons_append, List.nil_append, List.append_nil, List.getElem?_cons_zero, List.getElem?_cons_succ, List.getElem?_nil, List.set_cons_zero, List.set_cons_succ, List.set_nil, Option.map_some, Option.map_none, Option.bind_some, Option.bind_none, Nat.reduceSub, Nat.reduceAdd, if_true, if_false, Bool.false_eq_true, reduceIte, true_and, and_true, Nat.sub_zero, Nat.zero_add, reduceCtorEq, List.nodup_nil, List.nodup_cons, List.not_mem_nil, not_false_eq_true, and_self, Bool.not_true, Bool.not_false, Bool.not_not, decide_true, decide_false, Nat.reduceLeDiff, atI0, atI1, req_true])
theorem Sm.of {m : Int} {a : Tm} (hm : m ∈ mods) (c : Cn m a) (hl : a.length ≤ 900) : Sm a := ⟨hl, fun p hp => by have := c.vl p hp; have := modsB hm; omega⟩
end NA

namespace NA
open PySem PySem.Spec PyProof.Rows L2 DL FL RF
local macro_rules | `(tactic| walk_at "fl") => `(tactic| simp only [ap_var, ap_c, ap_un, ap_unV, ap_op, ap_opO, ap_fn, ap_nil, ap_cons, ap_tr, ap_b, ap_tand, ap_tor, ap_tnot, ap_and, ap_or, ap_not, ap_if, ap_chain, ap_tup, ap_lst, ap_lstO, ap_dictO, ap_frz, ap_sl, ap_no, ap_part, ap_mut, ap_call, ap_callK, ap_get, ap_dict, ap_isi, ap_rep, ap_listO, ap_seq, ap_iargs, ap_lc, ap_lcO, ap_yes, ap_sq, ap_ret, ap_drop, ap_sif, ap_nx, ap_bk, ap_ct, ap_asg, ap_setR, ap_runT, ap_bb0, ap_bbs, ap_bbn, ap_bbd, ap_bbc, ap_bbb, ap_sfrz, ap_setI, ap_setK, ap_for, ap_par, ap_asgT, ap_run, ap_see, ap_seeo, ap_seer, ap_getC, ap_setC, ap_sees0, ap_sees1, ap_parN, ap_view, ap_frza0, ap_frza, ap_frzc, ap_frzb, ap_frzd, ap_frzn, ap_call1, ap_c1o, ap_sar0, ap_sar1, ap_frv, ap_fro, ap_tgN, ap_tgT, fin_val, fin_own, fin_ref, fin_nx, bors_nil, bors_d, bors_b, R.bind_ok, ofO_some, ofB_some, ofOL_list, seeV, frV, vals, setAllF, wipeF, restF, callR, refsOf, argVs, putBack, setR2, setI, setK, ap_glt, ap_gle, ap_ggt, ap_gge, ap_gsub, ap_gadd, ap_gneg, ap_gix, ap_cutl, ap_cutt, ap_gtup, ap_glist, ap_glen, ap_gint, ap_gintb, ap_gabs, ap_gmax, ap_gmin, ap_isN, ap_notN, ap_geq, ap_gne, ap_eqi, ap_eqb, ap_eqs, ap_iol, ap_iot, ap_gtn, ap_gtb, ap_gti, ap_gtl, ap_gtt, ap_isn0, ap_isni, ap_isnl, ap_isnt, ap_revl, ap_revt, ap_enum, ap_zipl, ap_zipt, intsOf_map, boolsOf_map, ap_cellL, startF, List.map_cons, List.map_nil, List.length_cons, List.length_nil, List.replicate_succ, List.replicate_zero, List.cons_append, List.nil_append, List.append_nil, List.getElem?_cons_zero, List.getElem?_cons_succ, List.getElem?_nil, List.set_cons_zero, List.set_cons_succ, List.set_nil, Option.map_some, Option.map_none, Option.bind_some, Option.bind_none, Nat.reduceSub, Nat.reduceAdd, if_true, if_false, Bool.false_eq_true, reduceIte, true_and, and_true, Nat.sub_zero, Nat.zero_add, reduceCtorEq, List.nodup_nil, List.nodup_cons, List.not_mem_nil, not_false_eq_true, and_self, Bool.not_true, Bool.not_false, Bool.not_not, decide_true, decide_false, Nat.reduceLeDiff, atI0, atI1, req_true])
/-- the value at a place of a round row -/
def at' (vs : List Int) (k : Int) : Int := (vs[(k % vs.length).toNat]?).getD 0
theorem rangeD0 (n : Nat) : rangeD 0 n = iv ((List.range n).map fun (i : Nat) => (i : Int)) := by
  unfold rangeD iv
  rw [List.map_map]
  refine List.map_congr_left fun i _ => ?_
  simp
end NA

namespace NA
open PySem PySem.Spec PyProof.Rows L2 DL FL RF
local macro_rules | `(tactic| walk_at "fl") => `(tactic| simp only [ap_var, ap_c, ap_un, ap_unV, ap_op, ap_opO, ap_fn, ap_nil, ap_cons, ap_tr, ap_b, ap_tand, ap_tor, ap_tnot, ap_and, ap_or, ap_not, ap_if, ap_chain, ap_tup, ap_lst, ap_lstO, ap_dictO, ap_frz, ap_sl, ap_no, ap_part, ap_mut, ap_call, ap_callK, ap_get, ap_dict, ap_isi, ap_rep, ap_listO, ap_seq, ap_iargs, ap_lc, ap_lcO, ap_yes, ap_sq, ap_ret, ap_drop, ap_sif, ap_nx, ap_bk, ap_ct, ap_asg, ap_setR, ap_runT, ap_bb0, ap_bbs, ap_bbn, ap_bbd, ap_bbc, ap_bbb, ap_sfrz, ap_setI, ap_setK, ap_for, ap_par, ap_asgT, ap_run, ap_see, ap_seeo, ap_seer, ap_getC, ap_setC, ap_sees0, ap_sees1, ap_parN, ap_view, ap_frza0, ap_frza, ap_frzc, ap_frzb, ap_frzd, ap_frzn, ap_call1, ap_c1o, ap_sar0, ap_sar1, ap_frv, ap_fro, ap_tgN, ap_tgT, fin_val, fin_own, fin_ref, fin_nx, bors_nil, bors_d, bors_b, R.bind_ok, ofO_some, ofB_some, ofOL_list, seeV, frV, vals, setAllF, wipeF, restF, callR, refsOf, argVs, putBack, setR2, setI, setK, ap_glt, ap_gle, ap_ggt, ap_gge, ap_gsub, ap_gadd, ap_gneg, ap_gix, ap_cutl, ap_cutt, ap_gtup, ap_glist, ap_glen, ap_gint, ap_gintb, ap_gabs, ap_gmax, ap_gmin, ap_isN, ap_notN, ap_geq, ap_gne, ap_eqi, ap_eqb, ap_eqs, ap_iol, ap_iot, ap_gtn, ap_gtb, ap_gti, ap_gtl, ap_gtt, ap_isn0, ap_isni, ap_isnl, ap_isnt, ap_revl, ap_revt, ap_enum, ap_zipl, ap_zipt, intsOf_map, boolsOf_map, ap_cellL, startF, List.map_cons, List.map_nil, List.length_cons, List.length_nil, List.replicate_succ, List.replicate_zero, List.cons_append, List.nil_append, List.append_nil, List.getElem?_cons_zero, List.getElem?_cons_succ, List.getElem?_nil, List.set_cons_zero, List.set_cons_succ, List.set_nil, Option.map_some, Option.map_none, Option.bind_some, Option.bind_none, Nat.reduceSub, Nat.reduceAdd, if_true, if_false, Bool.false_eq_true, reduceIte, true_and, and_true, Nat.sub_zero, Nat.zero_add, reduceCtorEq, List.nodup_nil, List.nodup_cons, List.not_mem_nil, not_false_eq_true, and_self, Bool.not_true, Bool.not_false, Bool.not_not, decide_true, decide_false, Nat.reduceLeDiff, atI0, atI1, req_true])
def vl (c : Tm) (k : Int) : Int := ev c (ind k)
def ones (Q : List Int) : Tm := Q.map fun q => (q, 1)
theorem Cn.pl {m : Int} {a : Tm} (hm : m ≤ 100) (c : Cn m a) (hp : ∀ p ∈ a, p.1.natAbs < 10 ^ 62) : ∀ x ∈ a.map pr, Pl 1 2 x := fun x hx => by
  obtain ⟨p, h1, rfl⟩ := List.mem_map.mp hx
  have := c.vl p h1
  exact Pl.pair (Pl.int (hp p h1)) (Pl.int (Nat.lt_of_lt_of_le (m := 100) (by omega) (by decide)))
theorem g_repr {d : PyData} (h : Show d) : gRepr [d] = some (.str d.shown) := req_pos h
end NA

namespace NA
open PySem PySem.Spec PyProof.Rows L2 DL FL RF
local macro_rules | `(tactic| walk_at "fl") => `(tactic| simp only [ap_var, ap_c, ap_un, ap_unV, ap_op, ap_opO, ap_fn, ap_nil, ap_cons, ap_tr, ap_b, ap_tand, ap_tor, ap_tnot, ap_and, ap_or, ap_not, ap_if, ap_chain, ap_tup, ap_lst, ap_lstO, ap_dictO, ap_frz, ap_sl, ap_no, ap_part, ap_mut, ap_call, ap_callK, ap_get, ap_dict, ap_isi, ap_rep, ap_listO, ap_seq, ap_iargs, ap_lc, ap_lcO, ap_yes, ap_sq, ap_ret, ap_drop, ap_sif, ap_nx, ap_bk, ap_ct, ap_asg, ap_setR, ap_runT, ap_bb0, ap_bbs, ap_bbn, ap_bbd, ap_bbc, ap_bbb, ap_sfrz, ap_setI, ap_setK, ap_for, ap_par, ap_asgT, ap_run, ap_see, ap_seeo, ap_seer, ap_getC, ap_setC, ap_sees0, ap_sees1, ap_parN, ap_view, ap_frza0, ap_frza, ap_frzc, ap_frzb, ap_frzd, ap_frzn, ap_call1, ap_c1o, ap_sar0, ap_sar1, ap_frv, ap_fro, ap_tgN, ap_tgT, fin_val, fin_own, fin_ref, fin_nx, bors_nil, bors_d, bors_b, R.bind_ok, ofO_some, ofB_some, ofOL_list, seeV, frV, vals, setAllF, wipeF, restF, callR, refsOf, argVs, putBack, setR2, setI, setK, ap_glt, ap_gle, ap_ggt, ap_gge, ap_gsub, ap_gadd, ap_gneg, ap_gix, ap_cutl, ap_cutt, ap_gtup, ap_glist, ap_glen, ap_gint, ap_gintb, ap_gabs, ap_gmax, ap_gmin, ap_isN, ap_notN, ap_geq, ap_gne, ap_eqi, ap_eqb, ap_eqs, ap_iol, ap_iot, ap_gtn, ap_gtb, ap_gti, ap_gtl, ap_gtt, ap_isn0, ap_isni, ap_isnl, ap_isnt, ap_revl, ap_revt, ap_enum, ap_zipl, ap_zipt, intsOf_map, boolsOf_map, ap_cellL, startF, List.map_cons, List.map_nil, List.length_cons, List.length_nil, List.replicate_succ, List.replicate_zero, List.cons_append, List.nil_append, List.append_nil, List.getElem?_cons_zero, List.getElem?_cons_succ, List.getElem?_nil, List.set_cons_zero, List.set_cons_succ, List.set_nil, Option.map_some, Option.map_none, Option.bind_some, Option.bind_none, Nat.reduceSub, Nat.reduceAdd, if_true, if_false, Bool.false_eq_true, reduceIte, true_and, and_true, Nat.sub_zero, Nat.zero_add, reduceCtorEq, List.nodup_nil, List.nodup_cons, List.not_mem_nil, not_false_eq_true, and_self, Bool.not_true, Bool.not_false, Bool.not_not, decide_true, decide_false, Nat.reduceLeDiff, atI0, atI1, req_true])
theorem e_draw {c : Cell} {n : Nat} {many : Int} (h : Pot n c) (h1 : 1 ≤ many) (h2 : many ≤ 10 ^ 60) (hn : n ≤ 1000000) :
    ∃ r c', F__law_draw [.b c, .d (.int many)] = .ok (.val (.int r)) [c'] ∧ 0 ≤ r ∧ r < many ∧ Pot (n + 1) c' := by
  obtain ⟨a, b, k, rfl, hb0, hb1, hc0, hc1⟩ := h
  unfold F__law_draw fb__law_draw
  have hm : (0 : Int) < many := by omega
  by_cases ha : 0 < a
  · refine ⟨a % many, _, ?_, Int.emod_nonneg _ (by omega), Int.emod_lt_of_pos _ hm, ⟨a / many, b, k, rfl, hb0, hb1, hc0, by omega⟩⟩
    repeat first | simp only [ix0, ha, decide_true, g_mod hm, g_fdiv (divW hm (Int.lt_of_le_of_lt h2 (by decide)) _), jx0] | walk_at "fl"
  · have e1 : (0 : Int) < 10 ^ (30 : Int).toNat + 57 := by decide
    have e2 : (0 : Int) < 10 ^ (28 : Int).toNat + 331 := by decide
    have k1 : Bits 86028121 (k + 1) := Bits.of (a := 30) (b := 30) (by decide) (bits_le (by omega)) (by decide)
    have k2 : CPowB (b + 86028121 * (k + 1)) 3 := powB (k := 120) (by decide) (bits_le (by have : b < 2 ^ 110 := Int.lt_of_lt_of_le hb1 (by decide); omega)) (by decide)
    generalize hx : ((b + 86028121 * (k + 1)) ^ (3 : Int).toNat) % (10 ^ (30 : Int).toNat + 57) = x
    have x0 : 0 ≤ x := by rw [← hx]; exact Int.emod_nonneg _ (by decide)
    have x1 : x < 2 ^ 101 := by rw [← hx]; exact Int.lt_of_lt_of_le (Int.emod_lt_of_pos _ e1) (by decide)
    have k5 : Bits x (x + 2903) := Bits.of (a := 101) (b := 120) (bits_le (by omega)) (bits_le (by omega)) (by decide)
    refine ⟨x * (x + 2903) % (10 ^ (28 : Int).toNat + 331) / 3571 % many, _, ?_, Int.emod_nonneg _ (by omega), Int.emod_lt_of_pos _ hm, ⟨a, b, k + 1, rfl, hb0, hb1, by omega, by omega⟩⟩
    repeat first | simp only [ix0, ix1, ix2, ha, decide_false, g_add, g_mul k1, g_pow k2, g_pow (show CPowB 10 30 from pw 30 (by decide)), g_mod e1, hx, g_mul k5, g_pow (show CPowB 10 28 from pw 28 (by decide)), g_mod e2, g_fdiv (divW (j := 3571) (by decide) (by decide) _), g_mod hm, jx2] | walk_at "fl"
theorem sum_mod {P : Int} (hP : 0 < P) : ∀ ns : List Int, 0 ≤ (ns.map fun x => x % P).sum ∧ (ns.map fun x => x % P).sum ≤ ns.length * P
  | [] => by simp
  | x :: ns => by
    obtain ⟨h1, h2⟩ := sum_mod hP ns
    have h3 := Int.emod_nonneg x (b := P) (by omega)
    have h4 := Int.emod_lt_of_pos x hP
    rw [List.map_cons, List.sum_cons, List.length_cons]
    refine ⟨by omega, ?_⟩
    have : ((ns.length + 1 : Nat) : Int) * P = ns.length * P + P := by rw [Int.natCast_add, Int.add_mul]; simp
    omega
theorem e_pot {ns : List Int} {k : Nat} (hl : ns.length ≤ 63) (hb : ∀ z ∈ ns, Builtin.Int.intBits z ≤ 1048576) (hk : k ≤ 1000) : ∃ c, F__law_pot [.d (.list (iv ns)), .d (.int k)] = .ok (.own c) [] ∧ Pot 0 c := by
  have e27 : (0 : Int) < 10 ^ (27 : Int).toNat + 103 := by decide
  have e24 : (0 : Int) < 10 ^ (24 : Int).toNat + 7 := by decide
  obtain ⟨z2, z3⟩ := sum_mod e24 ns
  have z4 : (ns.map fun x => x % (10 ^ (24 : Int).toNat + 7)).sum ≤ 63 * (10 ^ (24 : Int).toNat + 7) := Int.le_trans z3 (Int.mul_le_mul_of_nonneg_right (by omega) (by decide))
  have z5 : (63 : Int) * (10 ^ (24 : Int).toNat + 7) < 2 ^ 100 := by decide
  generalize hT : (ns.map fun x => x % (10 ^ (24 : Int).toNat + 7)).sum = T at z2 z4
  have hB : Bits T 1299709 := Bits.of (a := 100) (b := 30) (bits_le (by omega)) (bits_le (by decide)) (by decide)
  have h43 : Bits 43 (k : Int) := Bits.of (a := 6) (b := 10) (bits_le (by decide)) (bits_le (by omega)) (by decide)
  have hkk : Bits (k : Int) 611953 := Bits.of (a := 10) (b := 20) (bits_le (by omega)) (bits_le (by decide)) (by decide)
  have hlc : ∀ ε0 ε1 ε2 ε3 ε5 : Option FV, fLcGo (tgN 4) fYes (fOp FL.gMod (fFn gInt (faCons (fVar 4) faNil)) (fOp FL.gAdd (fOp FL.gPow (fC (.int 10)) (fC (.int 24))) (fC (.int 7)))) [4] (iv ns) [] [ε0, ε1, ε2, ε3, none, ε5] = .ok (iv (ns.map fun x => x % (10 ^ (24 : Int).toNat + 7))) [ε0, ε1, ε2, ε3, none, ε5] := fun ε0 ε1 ε2 ε3 ε5 => by
    rw [lc_all (fun d => match d with
      | .int x => .int (x % (10 ^ (24 : Int).toNat + 7))
      | _ => .none) (by simp [iv]; omega)]
    · congr 1
      simp [iv, Function.comp_def]
    · intro d hd
      obtain ⟨z, hz, rfl⟩ := iv_mem hd
      refine ⟨_, rfl, by walk_at "fl", ?_⟩
      repeat first | simp only [g_add, g_pow (show CPowB 10 24 from pw 24 (by decide)), g_mod e24] | walk_at "fl"
  have hlen : ((iv ns).length : Int) = (ns.length : Int) := by simp [iv]
  have main : ∀ x : Int, Builtin.Int.intBits x ≤ 1048576 → (if (k : Int) < (ns.length : Int) then atI (iv ns) (k : Int) = some (.int x) else x = 43 * (k : Int) + 19 + (ns.length : Int)) → ∃ c, F__law_pot [.d (.list (iv ns)), .d (.int k)] = .ok (.own c) [] ∧ Pot 0 c := fun x hx hxx => by
    have k1 : Bits x 104729 := Bits.of (a := 1048576) (b := 20) hx (bits_le (by decide)) (by decide)
    have pot : ∀ a b : Int, Pot 0 (.lst [.int a, .int (b % (10 ^ (27 : Int).toNat + 103)), .int 0]) := fun a b => ⟨_, _, _, rfl, Int.emod_nonneg _ (by decide), Int.lt_of_lt_of_le (Int.emod_lt_of_pos _ e27) (by decide), by decide, by decide⟩
    suffices h : Told (fun r bs => ∃ c, r = .own c ∧ bs = [] ∧ Pot 0 c) (F__law_pot [.d (.list (iv ns)), .d (.int k)]) by
      obtain ⟨r, bs, e, c, rfl, rfl, h⟩ := told_ex h
      exact ⟨c, e, h⟩
    unfold F__law_pot fb__law_pot
    by_cases hlt : (k : Int) < (ns.length : Int)
    · rw [if_pos hlt] at hxx
      repeat first | simp only [g_add, g_mul h43, hlen, hlt, decide_true, hxx, hlc, gSum_iv, hT, g_mul k1, g_mul hB, g_mul hkk, g_pow (show CPowB 10 27 from pw 27 (by decide)), g_mod e27, g_pow (show CPowB 10 18 from pw 18 (by decide))] | walk_at "fl"
      exact ⟨_, rfl, rfl, pot _ _⟩
    · rw [if_neg hlt] at hxx
      subst hxx
      repeat first | simp only [g_add, g_mul h43, hlen, hlt, decide_false, hlc, gSum_iv, hT, g_mul k1, g_mul hB, g_mul hkk, g_pow (show CPowB 10 27 from pw 27 (by decide)), g_mod e27, g_pow (show CPowB 10 18 from pw 18 (by decide))] | walk_at "fl"
      exact ⟨_, rfl, rfl, pot _ _⟩
  by_cases hlt : (k : Int) < (ns.length : Int)
  · have hlt' : k < ns.length := by omega
    refine main ns[k] (hb _ (List.getElem_mem hlt')) ?_
    rw [if_pos hlt]
    exact atI_nat (by simp [iv, hlt'])
  · refine main (43 * (k : Int) + 19 + (ns.length : Int)) (Nat.le_trans (bits_le (k := 100) (by omega)) (by decide)) ?_
    rw [if_neg hlt]
def primes6 : List Int := [2, 3, 5, 7, 11, 13]
theorem p6_mods {p : Int} (h : p ∈ primes6) : p ∈ mods := by
  revert h; revert p; decide
def backI (v p : Int) : Int := (((List.range p.toNat).map fun (i : Nat) => (i : Int)).filter fun k => decide (k * v % p = 1)).headD 0
theorem back_ok {p v : Int} (hp : p ∈ primes6) (h0 : 0 < v) (h1 : v < p) : 0 < backI v p ∧ backI v p < p ∧ backI v p * v % p = 1 := by
  have key : ∀ p ∈ primes6, ∀ v ∈ (List.range p.toNat).map fun (i : Nat) => (i : Int), 0 < v → 0 < backI v p ∧ backI v p < p ∧ backI v p * v % p = 1 := by decide
  refine key p hp v ?_ h0
  exact List.mem_map.mpr ⟨v.toNat, List.mem_range.mpr (by omega), by omega⟩
end NA

namespace NA
open PySem PySem.Spec PyProof.Rows L2 DL FL RF
local macro_rules | `(tactic| walk_at "fl") => `(tactic| simp only [ap_var, ap_c, ap_un, ap_unV, ap_op, ap_opO, ap_fn, ap_nil, ap_cons, ap_tr, ap_b, ap_tand, ap_tor, ap_tnot, ap_and, ap_or, ap_not, ap_if, ap_chain, ap_tup, ap_lst, ap_lstO, ap_dictO, ap_frz, ap_sl, ap_no, ap_part, ap_mut, ap_call, ap_callK, ap_get, ap_dict, ap_isi, ap_rep, ap_listO, ap_seq, ap_iargs, ap_lc, ap_lcO, ap_yes, ap_sq, ap_ret, ap_drop, ap_sif, ap_nx, ap_bk, ap_ct, ap_asg, ap_setR, ap_runT, ap_bb0, ap_bbs, ap_bbn, ap_bbd, ap_bbc, ap_bbb, ap_sfrz, ap_setI, ap_setK, ap_for, ap_par, ap_asgT, ap_run, ap_see, ap_seeo, ap_seer, ap_getC, ap_setC, ap_sees0, ap_sees1, ap_parN, ap_view, ap_frza0, ap_frza, ap_frzc, ap_frzb, ap_frzd, ap_frzn, ap_call1, ap_c1o, ap_sar0, ap_sar1, ap_frv, ap_fro, ap_tgN, ap_tgT, fin_val, fin_own, fin_ref, fin_nx, bors_nil, bors_d, bors_b, R.bind_ok, ofO_some, ofB_some, ofOL_list, seeV, frV, vals, setAllF, wipeF, restF, callR, refsOf, argVs, putBack, setR2, setI, setK, ap_glt, ap_gle, ap_ggt, ap_gge, ap_gsub, ap_gadd, ap_gneg, ap_gix, ap_cutl, ap_cutt, ap_gtup, ap_glist, ap_glen, ap_gint, ap_gintb, ap_gabs, ap_gmax, ap_gmin, ap_isN, ap_notN, ap_geq, ap_gne, ap_eqi, ap_eqb, ap_eqs, ap_iol, ap_iot, ap_gtn, ap_gtb, ap_gti, ap_gtl, ap_gtt, ap_isn0, ap_isni, ap_isnl, ap_isnt, ap_revl, ap_revt, ap_enum, ap_zipl, ap_zipt, intsOf_map, boolsOf_map, ap_cellL, startF, List.map_cons, List.map_nil, List.length_cons, List.length_nil, List.replicate_succ, List.replicate_zero, List.cons_append, List.nil_append, List.append_nil, List.getElem?_cons_zero, List.getElem?_cons_succ, List.getElem?_nil, List.set_cons_zero, List.set_cons_succ, List.set_nil, Option.map_some, Option.map_none, Option.bind_some, Option.bind_none, Nat.reduceSub, Nat.reduceAdd, if_true, if_false, Bool.false_eq_true, reduceIte, true_and, and_true, Nat.sub_zero, Nat.zero_add, reduceCtorEq, List.nodup_nil, List.nodup_cons, List.not_mem_nil, not_false_eq_true, and_self, Bool.not_true, Bool.not_false, Bool.not_not, decide_true, decide_false, Nat.reduceLeDiff, atI0, atI1, req_true])
def pv : List Int → (Int → Int) → Int
  | [], _ => 0
  | x :: r, f => x * f 0 + pv r (fun i => f (i + 1))
theorem pv_cons {x : Int} {r : List Int} {f : Int → Int} : pv (x :: r) f = x * f 0 + pv r (fun i => f (i + 1)) := rfl
theorem pv_nil {f : Int → Int} : pv [] f = 0 := rfl
theorem pv_congr : ∀ {a : List Int} {f g : Int → Int}, (∀ i : Int, 0 ≤ i → i < a.length → f i = g i) → pv a f = pv a g
  | [], _, _, _ => rfl
  | x :: r, f, g, h => by
    unfold pv
    rw [h 0 (by omega) (by simp <;> omega), pv_congr fun i h0 h1 => h (i + 1) (by omega) (by simp <;> omega)]
theorem pv_md {m : Int} : ∀ {a : List Int} {f g : Int → Int}, (∀ x, Md m (f x) (g x)) → Md m (pv a f) (pv a g)
  | [], _, _, _ => .refl
  | x :: r, f, g, h => by unfold pv; exact (h 0).mul.add (pv_md fun i => h (i + 1))
def padd : List Int → List Int → List Int
  | [], b => b
  | a, [] => a
  | x :: a, y :: b => (x + y) :: padd a b
theorem pv_padd : ∀ {a b : List Int} {f : Int → Int}, pv (padd a b) f = pv a f + pv b f
  | [], b, f => by simp [padd, pv]
  | x :: a, [], f => by simp [padd, pv]
  | x :: a, y :: b, f => by
    unfold padd pv
    rw [pv_padd (a := a) (b := b), Int.add_mul]; omega
theorem pv_scale : ∀ {a : List Int} {c : Int} {f : Int → Int}, pv (a.map (c * ·)) f = c * pv a f
  | [], c, f => by simp [pv]
  | x :: a, c, f => by
    rw [List.map_cons]
    unfold pv
    rw [pv_scale, Int.mul_add, Int.mul_assoc]
def pmul : List Int → List Int → List Int
  | [], _ => []
  | x :: a, b => padd (b.map (x * ·)) (0 :: pmul a b)
theorem pv_pmul : ∀ {a b : List Int} {f : Int → Int}, pv (pmul a b) f = pv a fun i => pv b fun j => f (i + j)
  | [], b, f => rfl
  | x :: a, b, f => by
    unfold pmul
    rw [pv_padd, pv_scale]
    show x * pv b f + (0 * f 0 + pv (pmul a b) fun i => f (i + 1)) = x * (pv b fun j => f (0 + j)) + pv a fun i => pv b fun j => f (i + 1 + j)
    rw [pv_pmul]
    have e1 : pv b f = pv b fun j => f (0 + j) := pv_congr fun i _ _ => by rw [Int.zero_add]
    have e2 : (pv a fun i => pv b fun j => f (i + j + 1)) = pv a fun i => pv b fun j => f (i + 1 + j) := pv_congr fun i _ _ => pv_congr fun j _ _ => by congr 1; omega
    rw [e1, e2]; simp
def Dv (p : Int) (d : List Int) (A : (Int → Int) → Int) : Prop := ∃ q : List Int, ∀ f, Md p (A f) (pv q fun i => pv d fun j => f (i + j))
theorem Dv.congr {p : Int} {d : List Int} {A B : (Int → Int) → Int} (h : Dv p d A) (e : ∀ f, Md p (B f) (A f)) : Dv p d B := let ⟨q, h⟩ := h; ⟨q, fun f => (e f).trans (h f)⟩
theorem Dv.add {p : Int} {d : List Int} {A B : (Int → Int) → Int} (h : Dv p d A) (g : Dv p d B) : Dv p d (fun f => A f + B f) := by
  obtain ⟨q, h⟩ := h
  obtain ⟨r, g⟩ := g
  exact ⟨padd q r, fun f => by rw [pv_padd]; exact (h f).add (g f)⟩
theorem Dv.mul {p : Int} {d b q : List Int} (h : Dv p d (pv b)) : Dv p d (fun f => pv q fun i => pv b fun j => f (i + j)) := by
  obtain ⟨r, h⟩ := h
  refine ⟨pmul q r, fun f => ?_⟩
  rw [pv_pmul]
  refine pv_md fun i => (h fun j => f (i + j)).trans (.of ?_)
  refine pv_congr fun k _ _ => pv_congr fun j _ _ => ?_
  rw [Int.add_assoc]
theorem Dv.scale {p : Int} {d : List Int} {A : (Int → Int) → Int} {c : Int} (h : Dv p d A) : Dv p d (fun f => c * A f) := by
  obtain ⟨q, h⟩ := h
  exact ⟨q.map (c * ·), fun f => by rw [pv_scale]; exact (h f).mul⟩
theorem Dv.self {p : Int} {d : List Int} : Dv p d (pv d) := ⟨[1], fun f => .of (by
  rw [pv_cons, pv_nil, Int.one_mul, Int.add_zero]
  exact pv_congr fun i _ _ => by rw [Int.zero_add])⟩
theorem Dv.nil {p : Int} {d : List Int} : Dv p d (pv []) := ⟨[], fun f => .refl⟩
/-- rests modulo p -/
def Pn (p : Int) (a : List Int) : Prop := ∀ x ∈ a, 0 ≤ x ∧ x < p
/-- no nought at the end -/
def Td (a : List Int) : Prop := ∀ h : a ≠ [], a.getLast h ≠ 0
structure IsRem (p : Int) (a b r : List Int) : Prop where
  pn : Pn p r
  td : Td r
  lt : r.length < b.length
  ev : ∃ q, ∀ f, Md p (pv a f) (pv r f + pv q fun i => pv b fun j => f (i + j))
theorem IsRem.dv {p : Int} {a b r d : List Int} (h : IsRem p a b r) (hb : Dv p d (pv b)) : Dv p d (pv a) ↔ Dv p d (pv r) := by
  obtain ⟨q, e⟩ := h.ev
  constructor
  · intro ha
    have h1 := ha.add ((hb.mul (q := q)).scale (c := -1))
    exact h1.congr fun f => by
      obtain ⟨k, hk⟩ := e f
      exact ⟨-k, by rw [Int.mul_neg]; omega⟩
  · intro hr
    exact (hr.add (hb.mul (q := q))).congr e
inductive Euc (p : Int) : List Int → List Int → List Int → Prop
  | done (a : List Int) : Euc p a [] a
  | turn {a b r g : List Int} : b ≠ [] → IsRem p a b r → Euc p b r g → Euc p a b g
theorem Euc.dv {p : Int} {a b g d : List Int} (h : Euc p a b g) : Dv p d (pv g) ↔ Dv p d (pv a) ∧ Dv p d (pv b) := by
  induction h with
  | done a => exact ⟨fun h => ⟨h, .nil⟩, fun h => h.1⟩
  | turn hb hr _ ih =>
    rw [ih]
    exact ⟨fun h => ⟨(hr.dv h.1).mpr h.2, h.1⟩, fun h => ⟨h.2, (hr.dv h.2).mp h.1⟩⟩
end NA

namespace NA
open PySem PySem.Spec PyProof.Rows L2 DL FL RF
local macro_rules | `(tactic| walk_at "fl") => `(tactic| simp only [ap_var, ap_c, ap_un, ap_unV, ap_op, ap_opO, ap_fn, ap_nil, ap_cons, ap_tr, ap_b, ap_tand, ap_tor, ap_tnot, ap_and, ap_or, ap_not, ap_if, ap_chain, ap_tup, ap_lst, ap_lstO, ap_dictO, ap_frz, ap_sl, ap_no, ap_part, ap_mut, ap_call, ap_callK, ap_get, ap_dict, ap_isi, ap_rep, ap_listO, ap_seq, ap_iargs, ap_lc, ap_lcO, ap_yes, ap_sq, ap_ret, ap_drop, ap_sif, ap_nx, ap_bk, ap_ct, ap_asg, ap_setR, ap_runT, ap_bb0, ap_bbs, ap_bbn, ap_bbd, ap_bbc, ap_bbb, ap_sfrz, ap_setI, ap_setK, ap_for, ap_par, ap_asgT, ap_run, ap_see, ap_seeo, ap_seer, ap_getC, ap_setC, ap_sees0, ap_sees1, ap_parN, ap_view, ap_frza0, ap_frza, ap_frzc, ap_frzb, ap_frzd, ap_frzn, ap_call1, ap_c1o, ap_sar0, ap_sar1, ap_frv, ap_fro, ap_tgN, ap_tgT, fin_val, fin_own, fin_ref, fin_nx, bors_nil, bors_d, bors_b, R.bind_ok, ofO_some, ofB_some, ofOL_list, seeV, frV, vals, setAllF, wipeF, restF, callR, refsOf, argVs, putBack, setR2, setI, setK, ap_glt, ap_gle, ap_ggt, ap_gge, ap_gsub, ap_gadd, ap_gneg, ap_gix, ap_cutl, ap_cutt, ap_gtup, ap_glist, ap_glen, ap_gint, ap_gintb, ap_gabs, ap_gmax, ap_gmin, ap_isN, ap_notN, ap_geq, ap_gne, ap_eqi, ap_eqb, ap_eqs, ap_iol, ap_iot, ap_gtn, ap_gtb, ap_gti, ap_gtl, ap_gtt, ap_isn0, ap_isni, ap_isnl, ap_isnt, ap_revl, ap_revt, ap_enum, ap_zipl, ap_zipt, intsOf_map, boolsOf_map, ap_cellL, startF, List.map_cons, List.map_nil, List.length_cons, List.length_nil, List.replicate_succ, List.replicate_zero, List.cons_append, List.nil_append, List.append_nil, List.getElem?_cons_zero, List.getElem?_cons_succ, List.getElem?_nil, List.set_cons_zero, List.set_cons_succ, List.set_nil, Option.map_some, Option.map_none, Option.bind_some, Option.bind_none, Nat.reduceSub, Nat.reduceAdd, if_true, if_false, Bool.false_eq_true, reduceIte, true_and, and_true, Nat.sub_zero, Nat.zero_add, reduceCtorEq, List.nodup_nil, List.nodup_cons, List.not_mem_nil, not_false_eq_true, and_self, Bool.not_true, Bool.not_false, Bool.not_not, decide_true, decide_false, Nat.reduceLeDiff, atI0, atI1, req_true])
theorem ixN_of {n : Nat} {i : Int} (h0 : 0 ≤ i) (h1 : i < n) : ixN n i = some i.toNat := by
  unfold ixN
  rw [if_pos h0, if_pos h1]
def cg (a : List Int) (i : Int) : Int := (a[i.toNat]?).getD 0
theorem cg_ix {a : List Int} {i : Int} (h0 : 0 ≤ i) (h1 : i < a.length) : atI (iv a) i = some (.int (cg a i)) := by
  obtain ⟨k, rfl⟩ := Int.eq_ofNat_of_zero_le h0
  have hk : k < a.length := by omega
  refine atI_nat ?_
  simp [iv, cg, hk]
theorem cg_mem {a : List Int} {i : Int} (h0 : 0 ≤ i) (h1 : i < a.length) : cg a i ∈ a := by
  unfold cg
  have hk : i.toNat < a.length := by omega
  rw [List.getElem?_eq_getElem hk]
  exact List.getElem_mem hk
theorem paired_rg {ys ds : List PyData} {m : Int} (h : PySem.Paired (fun _ r => ∃ v : Int, r = PyData.int v ∧ 0 ≤ v ∧ v < m) ds ys) : ∃ vs, ys = iv vs ∧ Pn m vs ∧ vs.length = ds.length := by
  induction h with
  | nil => exact ⟨[], rfl, (fun v h => by cases h), rfl⟩
  | cons h _ ih =>
    obtain ⟨v, rfl, h0, h1⟩ := h
    obtain ⟨vs, rfl, h2, h3⟩ := ih
    refine ⟨v :: vs, rfl, fun w hw => ?_, by simp [h3]⟩
    rcases List.mem_cons.mp hw with rfl | z
    · exact ⟨h0, h1⟩
    · exact h2 w z
/-- a polynomial: its first and its last coefficient are not nought -/
structure Pl (p : Int) (a : List Int) : Prop where
  pn : Pn p a
  ne : a ≠ []
  fs : cg a 0 ≠ 0
  ls : cg a (a.length - 1 : Nat) ≠ 0
theorem Pl.td {p : Int} {a : List Int} (h : Pl p a) : Td a := fun hn => by
  have := h.ls
  rw [List.getLast_eq_getElem]
  have hl := List.length_pos_iff.mpr hn
  unfold cg at this
  rw [Int.toNat_natCast, List.getElem?_eq_getElem (by omega), Option.getD_some] at this
  exact this
theorem Pl.pos {p : Int} {a : List Int} (h : Pl p a) : 0 < a.length := List.length_pos_iff.mpr h.ne
theorem flat_rep {x : PyData} : ∀ {n : Nat}, (List.replicate n [x]).flatten = List.replicate n x
  | 0 => rfl
  | n + 1 => by rw [List.replicate_succ, List.flatten_cons, flat_rep, List.replicate_succ]; rfl
theorem rep_iv {n : Nat} : List.replicate n (PyData.int 0) = iv (List.replicate n 0) := by simp [iv]
end NA

namespace NA
open PySem PySem.Spec PyProof.Rows L2 DL FL RF
local macro_rules | `(tactic| walk_at "fl") => `(tactic| simp only [ap_var, ap_c, ap_un, ap_unV, ap_op, ap_opO, ap_fn, ap_nil, ap_cons, ap_tr, ap_b, ap_tand, ap_tor, ap_tnot, ap_and, ap_or, ap_not, ap_if, ap_chain, ap_tup, ap_lst, ap_lstO, ap_dictO, ap_frz, ap_sl, ap_no, ap_part, ap_mut, ap_call, ap_callK, ap_get, ap_dict, ap_isi, ap_rep, ap_listO, ap_seq, ap_iargs, ap_lc, ap_lcO, ap_yes, ap_sq, ap_ret, ap_drop, ap_sif, ap_nx, ap_bk, ap_ct, ap_asg, ap_setR, ap_runT, ap_bb0, ap_bbs, ap_bbn, ap_bbd, ap_bbc, ap_bbb, ap_sfrz, ap_setI, ap_setK, ap_for, ap_par, ap_asgT, ap_run, ap_see, ap_seeo, ap_seer, ap_getC, ap_setC, ap_sees0, ap_sees1, ap_parN, ap_view, ap_frza0, ap_frza, ap_frzc, ap_frzb, ap_frzd, ap_frzn, ap_call1, ap_c1o, ap_sar0, ap_sar1, ap_frv, ap_fro, ap_tgN, ap_tgT, fin_val, fin_own, fin_ref, fin_nx, bors_nil, bors_d, bors_b, R.bind_ok, ofO_some, ofB_some, ofOL_list, seeV, frV, vals, setAllF, wipeF, restF, callR, refsOf, argVs, putBack, setR2, setI, setK, ap_glt, ap_gle, ap_ggt, ap_gge, ap_gsub, ap_gadd, ap_gneg, ap_gix, ap_cutl, ap_cutt, ap_gtup, ap_glist, ap_glen, ap_gint, ap_gintb, ap_gabs, ap_gmax, ap_gmin, ap_isN, ap_notN, ap_geq, ap_gne, ap_eqi, ap_eqb, ap_eqs, ap_iol, ap_iot, ap_gtn, ap_gtb, ap_gti, ap_gtl, ap_gtt, ap_isn0, ap_isni, ap_isnl, ap_isnt, ap_revl, ap_revt, ap_enum, ap_zipl, ap_zipt, intsOf_map, boolsOf_map, ap_cellL, startF, List.map_cons, List.map_nil, List.length_cons, List.length_nil, List.replicate_succ, List.replicate_zero, List.cons_append, List.nil_append, List.append_nil, List.getElem?_cons_zero, List.getElem?_cons_succ, List.getElem?_nil, List.set_cons_zero, List.set_cons_succ, List.set_nil, Option.map_some, Option.map_none, Option.bind_some, Option.bind_none, Nat.reduceSub, Nat.reduceAdd, if_true, if_false, Bool.false_eq_true, reduceIte, true_and, and_true, Nat.sub_zero, Nat.zero_add, reduceCtorEq, List.nodup_nil, List.nodup_cons, List.not_mem_nil, not_false_eq_true, and_self, Bool.not_true, Bool.not_false, Bool.not_not, decide_true, decide_false, Nat.reduceLeDiff, atI0, atI1, req_true])
def backL (v p : Int) : List Int := ((List.range p.toNat).map fun (i : Nat) => (i : Int)).filter fun k => decide (k * v % p = 1)
theorem back_at {p v : Int} (hp : p ∈ primes6) (h0 : 0 < v) (h1 : v < p) : atI (iv (backL v p)) 0 = some (.int (backI v p)) := by
  obtain ⟨u0, u1, u2⟩ := back_ok hp h0 h1
  unfold backI at u0 ⊢
  unfold backL
  cases e : ((List.range p.toNat).map fun (i : Nat) => (i : Int)).filter fun k => decide (k * v % p = 1) with
  | nil => rw [e] at u0; simp at u0
  | cons x r => exact atI0
theorem back_f {p v : Int} : (rangeD 0 p.toNat).filter (fun d => match d with
    | .int k => decide (k * v % p = 1)
    | _ => false) = iv (backL v p) := by
  rw [rangeD0]
  unfold iv backL
  rw [List.filter_map]
  rfl
theorem e_inverse {p v : Int} (hp : p ∈ primes6) (h0 : 0 < v) (h1 : v < p) : F_inverse [.d (.int v), .d (.int p)] = tell (.int (backI v p)) := by
  have mb := modsB (p6_mods hp)
  have rg : gRange1 [.int p] = some (rangeD 0 p.toNat) := req_pos (by omega)
  have pm : 0 < p := by omega
  unfold F_inverse fb_inverse
  repeat first | simp only [rg] | walk_at "fl"
  rw [lc_some (fun d => d) (fun d => match d with
    | .int k => decide (k * v % p = 1)
    | _ => false) (by simp [rangeD]; omega), back_f, List.map_id']
  · repeat first | simp only [back_at hp h0 h1] | walk_at "fl"
  · intro d hd
    rw [rangeD0] at hd
    obtain ⟨k, hk, rfl⟩ := iv_mem hd
    obtain ⟨i, hi, rfl⟩ := List.mem_map.mp hk
    have hi := List.mem_range.mp hi
    refine ⟨_, rfl, by walk_at "fl", ?_, fun _ => by walk_at "fl"⟩
    repeat first | simp only [g_mul (i := (i : Int)) (j := v) (bits_small (by omega) (by omega)), g_mod pm, eqP] | walk_at "fl"
theorem iv_snoc {a : List Int} {x : Int} : iv (a ++ [x]) = iv a ++ [.int x] := by simp [iv]
theorem snoc_of {a : List Int} (h : a ≠ []) : ∃ a' x, a = a' ++ [x] ∧ a.getLast h = x := ⟨a.dropLast, a.getLast h, (List.dropLast_concat_getLast h).symm, rfl⟩
def ents : Nat → List Int → Tm
  | _, [] => []
  | k, x :: r => if x = 0 then ents (k + 1) r else ((k : Int), x) :: ents (k + 1) r
/-- not nought: its last coefficient is none -/
structure Nz (p : Int) (a : List Int) : Prop where
  pn : Pn p a
  ne : a ≠ []
  ls : cg a (a.length - 1 : Nat) ≠ 0
theorem Nz.pos {p : Int} {a : List Int} (h : Nz p a) : 0 < a.length := List.length_pos_iff.mpr h.ne
theorem Pl.nz {p : Int} {a : List Int} (h : Pl p a) : Nz p a := ⟨h.pn, h.ne, h.ls⟩
theorem last_cg {a : List Int} (h : a ≠ []) : cg a (a.length - 1 : Nat) = a.getLast h := by
  have hl := List.length_pos_iff.mpr h
  rw [List.getLast_eq_getElem]
  unfold cg
  rw [Int.toNat_natCast, List.getElem?_eq_getElem (by omega), Option.getD_some]
theorem Nz.of {p : Int} {a : List Int} (h : Pn p a) (td : Td a) (ne : a ≠ []) : Nz p a := ⟨h, ne, by rw [last_cg ne]; exact td ne⟩
theorem Nz.td {p : Int} {a : List Int} (h : Nz p a) : Td a := fun ne => by rw [← last_cg ne]; exact h.ls
theorem Nz.lv {p : Int} {a : List Int} (h : Nz p a) : 0 < cg a (a.length - 1 : Nat) ∧ cg a (a.length - 1 : Nat) < p := by
  have := h.pos
  have := h.pn _ (cg_mem (a := a) (i := ((a.length - 1 : Nat) : Int)) (by omega) (by omega))
  have := h.ls
  omega
theorem Nz.ix {p : Int} {a : List Int} (h : Nz p a) : atI (iv a) (-1) = some (.int (cg a (a.length - 1 : Nat))) := by
  obtain ⟨a', x, rfl, hx⟩ := snoc_of h.ne
  rw [last_cg h.ne, hx, iv_snoc, atI_last]
/-- divided so far: what is left, and its last places are nought -/
structure Left (p : Int) (a b cs : List Int) (top : Int) : Prop where
  pn : Pn p cs
  ln : cs.length = a.length
  ev : ∃ q, ∀ f, Md p (pv a f) (pv cs f + pv q fun i => pv b fun j => f (i + j))
  zr : ∀ i : Int, 0 ≤ i → top ≤ i → i < cs.length → cg cs i = 0
end NA

namespace NA
open PySem PySem.Spec PyProof.Rows L2 DL FL RF
local macro_rules | `(tactic| walk_at "fl") => `(tactic| simp only [ap_var, ap_c, ap_un, ap_unV, ap_op, ap_opO, ap_fn, ap_nil, ap_cons, ap_tr, ap_b, ap_tand, ap_tor, ap_tnot, ap_and, ap_or, ap_not, ap_if, ap_chain, ap_tup, ap_lst, ap_lstO, ap_dictO, ap_frz, ap_sl, ap_no, ap_part, ap_mut, ap_call, ap_callK, ap_get, ap_dict, ap_isi, ap_rep, ap_listO, ap_seq, ap_iargs, ap_lc, ap_lcO, ap_yes, ap_sq, ap_ret, ap_drop, ap_sif, ap_nx, ap_bk, ap_ct, ap_asg, ap_setR, ap_runT, ap_bb0, ap_bbs, ap_bbn, ap_bbd, ap_bbc, ap_bbb, ap_sfrz, ap_setI, ap_setK, ap_for, ap_par, ap_asgT, ap_run, ap_see, ap_seeo, ap_seer, ap_getC, ap_setC, ap_sees0, ap_sees1, ap_parN, ap_view, ap_frza0, ap_frza, ap_frzc, ap_frzb, ap_frzd, ap_frzn, ap_call1, ap_c1o, ap_sar0, ap_sar1, ap_frv, ap_fro, ap_tgN, ap_tgT, fin_val, fin_own, fin_ref, fin_nx, bors_nil, bors_d, bors_b, R.bind_ok, ofO_some, ofB_some, ofOL_list, seeV, frV, vals, setAllF, wipeF, restF, callR, refsOf, argVs, putBack, setR2, setI, setK, ap_glt, ap_gle, ap_ggt, ap_gge, ap_gsub, ap_gadd, ap_gneg, ap_gix, ap_cutl, ap_cutt, ap_gtup, ap_glist, ap_glen, ap_gint, ap_gintb, ap_gabs, ap_gmax, ap_gmin, ap_isN, ap_notN, ap_geq, ap_gne, ap_eqi, ap_eqb, ap_eqs, ap_iol, ap_iot, ap_gtn, ap_gtb, ap_gti, ap_gtl, ap_gtt, ap_isn0, ap_isni, ap_isnl, ap_isnt, ap_revl, ap_revt, ap_enum, ap_zipl, ap_zipt, intsOf_map, boolsOf_map, ap_cellL, startF, List.map_cons, List.map_nil, List.length_cons, List.length_nil, List.replicate_succ, List.replicate_zero, List.cons_append, List.nil_append, List.append_nil, List.getElem?_cons_zero, List.getElem?_cons_succ, List.getElem?_nil, List.set_cons_zero, List.set_cons_succ, List.set_nil, Option.map_some, Option.map_none, Option.bind_some, Option.bind_none, Nat.reduceSub, Nat.reduceAdd, if_true, if_false, Bool.false_eq_true, reduceIte, true_and, and_true, Nat.sub_zero, Nat.zero_add, reduceCtorEq, List.nodup_nil, List.nodup_cons, List.not_mem_nil, not_false_eq_true, and_self, Bool.not_true, Bool.not_false, Bool.not_not, decide_true, decide_false, Nat.reduceLeDiff, atI0, atI1, req_true])
end NA

namespace NA
open PySem PySem.Spec PyProof.Rows L2 DL FL RF
local macro_rules | `(tactic| walk_at "fl") => `(tactic| simp only [ap_var, ap_c, ap_un, ap_unV, ap_op, ap_opO, ap_fn, ap_nil, ap_cons, ap_tr, ap_b, ap_tand, ap_tor, ap_tnot, ap_and, ap_or, ap_not, ap_if, ap_chain, ap_tup, ap_lst, ap_lstO, ap_dictO, ap_frz, ap_sl, ap_no, ap_part, ap_mut, ap_call, ap_callK, ap_get, ap_dict, ap_isi, ap_rep, ap_listO, ap_seq, ap_iargs, ap_lc, ap_lcO, ap_yes, ap_sq, ap_ret, ap_drop, ap_sif, ap_nx, ap_bk, ap_ct, ap_asg, ap_setR, ap_runT, ap_bb0, ap_bbs, ap_bbn, ap_bbd, ap_bbc, ap_bbb, ap_sfrz, ap_setI, ap_setK, ap_for, ap_par, ap_asgT, ap_run, ap_see, ap_seeo, ap_seer, ap_getC, ap_setC, ap_sees0, ap_sees1, ap_parN, ap_view, ap_frza0, ap_frza, ap_frzc, ap_frzb, ap_frzd, ap_frzn, ap_call1, ap_c1o, ap_sar0, ap_sar1, ap_frv, ap_fro, ap_tgN, ap_tgT, fin_val, fin_own, fin_ref, fin_nx, bors_nil, bors_d, bors_b, R.bind_ok, ofO_some, ofB_some, ofOL_list, seeV, frV, vals, setAllF, wipeF, restF, callR, refsOf, argVs, putBack, setR2, setI, setK, ap_glt, ap_gle, ap_ggt, ap_gge, ap_gsub, ap_gadd, ap_gneg, ap_gix, ap_cutl, ap_cutt, ap_gtup, ap_glist, ap_glen, ap_gint, ap_gintb, ap_gabs, ap_gmax, ap_gmin, ap_isN, ap_notN, ap_geq, ap_gne, ap_eqi, ap_eqb, ap_eqs, ap_iol, ap_iot, ap_gtn, ap_gtb, ap_gti, ap_gtl, ap_gtt, ap_isn0, ap_isni, ap_isnl, ap_isnt, ap_revl, ap_revt, ap_enum, ap_zipl, ap_zipt, intsOf_map, boolsOf_map, ap_cellL, startF, List.map_cons, List.map_nil, List.length_cons, List.length_nil, List.replicate_succ, List.replicate_zero, List.cons_append, List.nil_append, List.append_nil, List.getElem?_cons_zero, List.getElem?_cons_succ, List.getElem?_nil, List.set_cons_zero, List.set_cons_succ, List.set_nil, Option.map_some, Option.map_none, Option.bind_some, Option.bind_none, Nat.reduceSub, Nat.reduceAdd, if_true, if_false, Bool.false_eq_true, reduceIte, true_and, and_true, Nat.sub_zero, Nat.zero_add, reduceCtorEq, List.nodup_nil, List.nodup_cons, List.not_mem_nil, not_false_eq_true, and_self, Bool.not_true, Bool.not_false, Bool.not_not, decide_true, decide_false, Nat.reduceLeDiff, atI0, atI1, req_true])
def pt (low : Int) (a : List Int) : Tm := (ents 0 a).map fun q => (low + q.1, q.2)
end NA

namespace NA
open PySem PySem.Spec PyProof.Rows L2 DL FL RF
local macro_rules | `(tactic| walk_at "fl") => `(tactic| simp only [ap_var, ap_c, ap_un, ap_unV, ap_op, ap_opO, ap_fn, ap_nil, ap_cons, ap_tr, ap_b, ap_tand, ap_tor, ap_tnot, ap_and, ap_or, ap_not, ap_if, ap_chain, ap_tup, ap_lst, ap_lstO, ap_dictO, ap_frz, ap_sl, ap_no, ap_part, ap_mut, ap_call, ap_callK, ap_get, ap_dict, ap_isi, ap_rep, ap_listO, ap_seq, ap_iargs, ap_lc, ap_lcO, ap_yes, ap_sq, ap_ret, ap_drop, ap_sif, ap_nx, ap_bk, ap_ct, ap_asg, ap_setR, ap_runT, ap_bb0, ap_bbs, ap_bbn, ap_bbd, ap_bbc, ap_bbb, ap_sfrz, ap_setI, ap_setK, ap_for, ap_par, ap_asgT, ap_run, ap_see, ap_seeo, ap_seer, ap_getC, ap_setC, ap_sees0, ap_sees1, ap_parN, ap_view, ap_frza0, ap_frza, ap_frzc, ap_frzb, ap_frzd, ap_frzn, ap_call1, ap_c1o, ap_sar0, ap_sar1, ap_frv, ap_fro, ap_tgN, ap_tgT, fin_val, fin_own, fin_ref, fin_nx, bors_nil, bors_d, bors_b, R.bind_ok, ofO_some, ofB_some, ofOL_list, seeV, frV, vals, setAllF, wipeF, restF, callR, refsOf, argVs, putBack, setR2, setI, setK, ap_glt, ap_gle, ap_ggt, ap_gge, ap_gsub, ap_gadd, ap_gneg, ap_gix, ap_cutl, ap_cutt, ap_gtup, ap_glist, ap_glen, ap_gint, ap_gintb, ap_gabs, ap_gmax, ap_gmin, ap_isN, ap_notN, ap_geq, ap_gne, ap_eqi, ap_eqb, ap_eqs, ap_iol, ap_iot, ap_gtn, ap_gtb, ap_gti, ap_gtl, ap_gtt, ap_isn0, ap_isni, ap_isnl, ap_isnt, ap_revl, ap_revt, ap_enum, ap_zipl, ap_zipt, intsOf_map, boolsOf_map, ap_cellL, startF, List.map_cons, List.map_nil, List.length_cons, List.length_nil, List.replicate_succ, List.replicate_zero, List.cons_append, List.nil_append, List.append_nil, List.getElem?_cons_zero, List.getElem?_cons_succ, List.getElem?_nil, List.set_cons_zero, List.set_cons_succ, List.set_nil, Option.map_some, Option.map_none, Option.bind_some, Option.bind_none, Nat.reduceSub, Nat.reduceAdd, if_true, if_false, Bool.false_eq_true, reduceIte, true_and, and_true, Nat.sub_zero, Nat.zero_add, reduceCtorEq, List.nodup_nil, List.nodup_cons, List.not_mem_nil, not_false_eq_true, and_self, Bool.not_true, Bool.not_false, Bool.not_not, decide_true, decide_false, Nat.reduceLeDiff, atI0, atI1, req_true])
def ld (r : List Int) : PyData := .list (iv r)
def clr (p at0 : Int) (h r : List Int) : List Int := List.zipWith (fun v w => (v - cg r at0 * w) % p) r h
def scl (p at0 : Int) (h : List Int) : List Int := h.map fun v => v * backI (cg h at0) p % p
def cutR (at0 : Int) : List (List Int) → Option (List Int × List (List Int))
  | [] => none
  | r :: rs => if cg r at0 ≠ 0 then some (r, rs) else (cutR at0 rs).map fun q => (q.1, r :: q.2)
def stp (p at0 : Int) (rows : List (List Int)) : Nat × List (List Int) := match cutR at0 rows with
  | none => (0, rows)
  | some q => (1, q.2.map (clr p at0 (scl p at0 q.1)))
def elim (p : Int) : List Int → List (List Int) → Nat × List (List Int)
  | [], rows => (0, rows)
  | a :: as, rows => ((stp p a rows).1 + (elim p as (stp p a rows).2).1, (elim p as (stp p a rows).2).2)
def Rw (p : Int) (w : Nat) (rows : List (List Int)) : Prop := ∀ r ∈ rows, Pn p r ∧ r.length = w
theorem clr_rw {p at0 : Int} {w : Nat} {h r : List Int} (p0 : 0 < p) (lh : h.length = w) (lr : r.length = w) : Pn p (clr p at0 h r) ∧ (clr p at0 h r).length = w := by
  refine ⟨fun x hx => ?_, by unfold clr; rw [List.length_zipWith, lh, lr]; omega⟩
  unfold clr at hx
  obtain ⟨i, hi, rfl⟩ := List.getElem_of_mem hx
  rw [List.getElem_zipWith]
  exact ⟨Int.emod_nonneg _ (by omega), Int.emod_lt_of_pos _ p0⟩
theorem clr_same {p at0 : Int} {h r : List Int} (pr : Pn p r) (hl : h.length = r.length) (h0 : cg r at0 = 0) : clr p at0 h r = r := by
  refine List.ext_getElem (by unfold clr; rw [List.length_zipWith]; omega) fun i h1 h2 => ?_
  have e : (clr p at0 h r)[i] = (r[i] - cg r at0 * h[i]'(by omega)) % p := List.getElem_zipWith
  rw [e, h0]
  have := pr _ (List.getElem_mem h2)
  rw [Int.zero_mul, Int.sub_zero, Int.emod_eq_of_lt this.1 this.2]
theorem scl_rw {p at0 : Int} {w : Nat} {h : List Int} (p0 : 0 < p) (lh : h.length = w) : Pn p (scl p at0 h) ∧ (scl p at0 h).length = w := by
  refine ⟨fun x hx => ?_, by unfold scl; rw [List.length_map, lh]⟩
  unfold scl at hx
  obtain ⟨i, _, rfl⟩ := List.mem_map.mp hx
  exact ⟨Int.emod_nonneg _ (by omega), Int.emod_lt_of_pos _ p0⟩
theorem cut_none {at0 : Int} : ∀ {rows : List (List Int)}, cutR at0 rows = none → ∀ r ∈ rows, cg r at0 = 0
  | [], _, _, h => by cases h
  | r :: rs, e, x, h => by
    unfold cutR at e
    split at e
    · cases e
    · next h0 =>
      rcases List.mem_cons.mp h with rfl | h
      · exact Classical.byContradiction h0
      · exact cut_none (Option.map_eq_none_iff.mp e) x h
theorem cut_some {at0 : Int} : ∀ {rows : List (List Int)} {h : List Int} {t : List (List Int)}, cutR at0 rows = some (h, t) → cg h at0 ≠ 0 ∧ h ∈ rows ∧ (∀ r ∈ t, r ∈ rows) ∧ t.length + 1 = rows.length
  | [], _, _, e => by cases e
  | r :: rs, h, t, e => by
    unfold cutR at e
    split at e
    · next h0 =>
      cases e
      exact ⟨h0, List.mem_cons_self, fun r h => List.mem_cons_of_mem _ h, rfl⟩
    · obtain ⟨q, e1, e2⟩ := Option.map_eq_some_iff.mp e
      cases e2
      obtain ⟨a, b, c, d⟩ := cut_some (h := q.1) (t := q.2) e1
      refine ⟨a, List.mem_cons_of_mem _ b, fun r h => ?_, by simp only [List.length_cons]; omega⟩
      rcases List.mem_cons.mp h with rfl | h
      · exact List.mem_cons_self
      · exact List.mem_cons_of_mem _ (c r h)
theorem stp_rw {p at0 : Int} {w : Nat} {rows : List (List Int)} (p0 : 0 < p) (h : Rw p w rows) : Rw p w (stp p at0 rows).2 ∧ (stp p at0 rows).2.length ≤ rows.length := by
  unfold stp
  split
  · exact ⟨h, Nat.le_refl _⟩
  · next q e =>
    obtain ⟨_, b, c, d⟩ := cut_some (h := q.1) (t := q.2) e
    refine ⟨fun r hr => ?_, by simp only [List.length_map]; omega⟩
    obtain ⟨s, hs, rfl⟩ := List.mem_map.mp hr
    exact clr_rw p0 (scl_rw p0 (h _ b).2).2 (h s (c s hs)).2
theorem elim_rw {p : Int} {w : Nat} (p0 : 0 < p) : ∀ {as : List Int} {rows : List (List Int)}, Rw p w rows → Rw p w (elim p as rows).2 ∧ (elim p as rows).2.length ≤ rows.length
  | [], rows, h => ⟨h, Nat.le_refl _⟩
  | a :: as, rows, h => by
    obtain ⟨h1, h2⟩ := stp_rw (at0 := a) p0 h
    obtain ⟨h3, h4⟩ := elim_rw p0 (as := as) h1
    exact ⟨h3, Nat.le_trans h4 h2⟩
def nzA (at0 : Int) : PyData → Bool
  | .tuple [_, .list xs] => match atI xs at0 with
    | some (.int x) => !decide (x = 0)
    | _ => false
  | _ => false
def fiA : PyData → PyData
  | .tuple [i, _] => i
  | _ => .none
theorem nzA_ld {at0 i : Int} {r : List Int} (h0 : 0 ≤ at0) (h1 : at0 < r.length) : nzA at0 (.tuple [.int i, ld r]) = !decide (cg r at0 = 0) := by
  simp only [nzA, ld, cg_ix h0 h1]
theorem enum_none {p at0 : Int} {w : Nat} (h0 : 0 ≤ at0) (h1 : at0 < w) : ∀ {rows : List (List Int)} {k : Nat}, Rw p w rows → cutR at0 rows = none → ((enumD k (rows.map ld)).filter (nzA at0)).map fiA = []
  | [], _, _, _ => rfl
  | r :: rs, k, hr, e => by
    have hz := cut_none e r List.mem_cons_self
    have lr := (hr r List.mem_cons_self).2
    rw [show enumD k ((r :: rs).map ld) = .tuple [.int k, ld r] :: enumD (k + 1) (rs.map ld) from rfl, List.filter_cons_of_neg (by rw [nzA_ld h0 (by omega)]; simp [hz])]
    refine enum_none h0 h1 (fun r h => hr r (List.mem_cons_of_mem _ h)) ?_
    unfold cutR at e
    rw [if_neg (by simp [hz])] at e
    exact Option.map_eq_none_iff.mp e
theorem enum_some {p at0 : Int} {w : Nat} (h0 : 0 ≤ at0) (h1 : at0 < w) : ∀ {rows : List (List Int)} {k : Nat} {h : List Int} {t : List (List Int)}, Rw p w rows → cutR at0 rows = some (h, t) →
    ∃ (i : Nat) (rest : List PyData), ((enumD k (rows.map ld)).filter (nzA at0)).map fiA = .int ((k + i : Nat) : Int) :: rest ∧ rows[i]? = some h ∧ rows.eraseIdx i = t
  | [], _, _, _, _, e => by cases e
  | r :: rs, k, h, t, hr, e => by
    have lr := (hr r List.mem_cons_self).2
    rw [show enumD k ((r :: rs).map ld) = .tuple [.int k, ld r] :: enumD (k + 1) (rs.map ld) from rfl]
    unfold cutR at e
    split at e
    · next hz =>
      cases e
      refine ⟨0, ((enumD (k + 1) (rs.map ld)).filter (nzA at0)).map fiA, ?_, rfl, rfl⟩
      rw [List.filter_cons_of_pos (by rw [nzA_ld h0 (by omega)]; simp [hz]), List.map_cons]
      rfl
    · next hz =>
      obtain ⟨q, e1, e2⟩ := Option.map_eq_some_iff.mp e
      cases e2
      obtain ⟨i, rest, f1, f2, f3⟩ := enum_some (k := k + 1) (h := q.1) (t := q.2) h0 h1 (fun r h => hr r (List.mem_cons_of_mem _ h)) e1
      refine ⟨i + 1, rest, ?_, by rw [List.getElem?_cons_succ]; exact f2, by rw [List.eraseIdx_cons_succ, f3]⟩
      have hz' : cg r at0 = 0 := Classical.byContradiction hz
      rw [List.filter_cons_of_neg (by rw [nzA_ld h0 (by omega)]; simp [hz']), f1]
      congr 3
      omega
def clF (p x : Int) : PyData → PyData
  | .tuple [.int v, .int w] => .int ((v - x * w) % p)
  | _ => .none
theorem clF_zip {p x : Int} : ∀ {ws us : List Int}, (zipD (iv ws) (iv us)).map (clF p x) = iv (List.zipWith (fun v w => (v - x * w) % p) ws us)
  | [], _ => by simp [iv, zipD]
  | _ :: _, [] => by simp [iv, zipD]
  | v :: ws, y :: us => by
    have ih := clF_zip (p := p) (x := x) (ws := ws) (us := us)
    simp only [iv, List.map_cons, zipD, List.zipWith_cons_cons] at ih ⊢
    rw [ih]
    rfl
theorem e_cleared {p at0 : Int} {w : Nat} {h r : List Int} (hp : 2 ≤ p ∧ p ≤ 13) (a0 : 0 ≤ at0) (a1 : at0 < w) (hw : w ≤ 1000) (ph : Pn p h) (lh : h.length = w) (pr : Pn p r) (lr : r.length = w) :
    F_cleared [.d (ld r), .d (ld h), .d (.int at0), .d (.int p)] = tell (ld (clr p at0 h r)) := by
  have p0 : 0 < p := by omega
  have ix := cg_ix (a := r) a0 (by omega)
  have hb := pr _ (cg_mem (a := r) a0 (by omega))
  unfold F_cleared fb_cleared
  by_cases hz : cg r at0 = 0
  · rw [clr_same pr (by omega) hz]
    rw [hz] at ix
    unfold ld
    repeat first | simp only [ix, eqP] | walk_at "fl"
  · have hq : decide (cg r at0 = 0) = false := decide_eq_false hz
    unfold ld
    repeat first | simp only [ix, eqP, hq] | walk_at "fl"
    rw [lc_all (clF p (cg r at0)) (by have := zipD_len (iv r) (iv h); rw [show (iv r).length = r.length from List.length_map _] at *; omega), clF_zip]
    · walk_at "fl"
      rfl
    · intro d hd
      obtain ⟨x, y, hx, hy, rfl⟩ := zip_mem _ _ _ hd
      obtain ⟨i, hi, rfl⟩ := iv_mem hx
      obtain ⟨j, hj, rfl⟩ := iv_mem hy
      have := ph j hj
      refine ⟨_, rfl, by walk_at "fl", ?_⟩
      repeat first | simp only [clF, ix, g_mod p0, g_mul (bits_small (v := cg r at0) (c := j) (by omega) (by omega))] | walk_at "fl"
theorem e_one_at {p at0 : Int} {h : List Int} (hp : p ∈ primes6) (a0 : 0 ≤ at0) (a1 : at0 < h.length) (hw : h.length ≤ 1000) (ph : Pn p h) (nz : cg h at0 ≠ 0) :
    F_one_at [.d (ld h), .d (.int at0), .d (.int p)] = .ok (.own (.lst (iv (scl p at0 h)))) [] := by
  have mb := modsB (p6_mods hp)
  have ix := cg_ix (a := h) a0 a1
  have hb := ph _ (cg_mem (a := h) a0 a1)
  have ei := e_inverse hp (v := cg h at0) (by omega) hb.2
  have bo := back_ok hp (v := cg h at0) (by omega) hb.2
  unfold F_one_at fb_one_at ld
  repeat first | simp only [ix, ei] | walk_at "fl"
  rw [lc_all (fun d => match d with
    | .int v => .int (v * backI (cg h at0) p % p)
    | _ => .none) (by rw [show (iv h).length = h.length from List.length_map _]; omega)]
  · walk_at "fl"
    unfold scl iv
    rw [List.map_map, List.map_map]
    rfl
  · intro d hd
    obtain ⟨v, hv, rfl⟩ := iv_mem hd
    have := ph v hv
    refine ⟨_, rfl, by walk_at "fl", ?_⟩
    repeat first | simp only [g_mod (show 0 < p by omega), g_mul (bits_small (v := v) (c := backI (cg h at0) p) (by omega) (by omega))] | walk_at "fl"
end NA

namespace NA
open PySem PySem.Spec PyProof.Rows L2 DL FL RF
local macro_rules | `(tactic| walk_at "fl") => `(tactic| simp only [ap_var, ap_c, ap_un, ap_unV, ap_op, ap_opO, ap_fn, ap_nil, ap_cons, ap_tr, ap_b, ap_tand, ap_tor, ap_tnot, ap_and, ap_or, ap_not, ap_if, ap_chain, ap_tup, ap_lst, ap_lstO, ap_dictO, ap_frz, ap_sl, ap_no, ap_part, ap_mut, ap_call, ap_callK, ap_get, ap_dict, ap_isi, ap_rep, ap_listO, ap_seq, ap_iargs, ap_lc, ap_lcO, ap_yes, ap_sq, ap_ret, ap_drop, ap_sif, ap_nx, ap_bk, ap_ct, ap_asg, ap_setR, ap_runT, ap_bb0, ap_bbs, ap_bbn, ap_bbd, ap_bbc, ap_bbb, ap_sfrz, ap_setI, ap_setK, ap_for, ap_par, ap_asgT, ap_run, ap_see, ap_seeo, ap_seer, ap_getC, ap_setC, ap_sees0, ap_sees1, ap_parN, ap_view, ap_frza0, ap_frza, ap_frzc, ap_frzb, ap_frzd, ap_frzn, ap_call1, ap_c1o, ap_sar0, ap_sar1, ap_frv, ap_fro, ap_tgN, ap_tgT, fin_val, fin_own, fin_ref, fin_nx, bors_nil, bors_d, bors_b, R.bind_ok, ofO_some, ofB_some, ofOL_list, seeV, frV, vals, setAllF, wipeF, restF, callR, refsOf, argVs, putBack, setR2, setI, setK, ap_glt, ap_gle, ap_ggt, ap_gge, ap_gsub, ap_gadd, ap_gneg, ap_gix, ap_cutl, ap_cutt, ap_gtup, ap_glist, ap_glen, ap_gint, ap_gintb, ap_gabs, ap_gmax, ap_gmin, ap_isN, ap_notN, ap_geq, ap_gne, ap_eqi, ap_eqb, ap_eqs, ap_iol, ap_iot, ap_gtn, ap_gtb, ap_gti, ap_gtl, ap_gtt, ap_isn0, ap_isni, ap_isnl, ap_isnt, ap_revl, ap_revt, ap_enum, ap_zipl, ap_zipt, intsOf_map, boolsOf_map, ap_cellL, startF, List.map_cons, List.map_nil, List.length_cons, List.length_nil, List.replicate_succ, List.replicate_zero, List.cons_append, List.nil_append, List.append_nil, List.getElem?_cons_zero, List.getElem?_cons_succ, List.getElem?_nil, List.set_cons_zero, List.set_cons_succ, List.set_nil, Option.map_some, Option.map_none, Option.bind_some, Option.bind_none, Nat.reduceSub, Nat.reduceAdd, if_true, if_false, Bool.false_eq_true, reduceIte, true_and, and_true, Nat.sub_zero, Nat.zero_add, reduceCtorEq, List.nodup_nil, List.nodup_cons, List.not_mem_nil, not_false_eq_true, and_self, Bool.not_true, Bool.not_false, Bool.not_not, decide_true, decide_false, Nat.reduceLeDiff, atI0, atI1, req_true])
theorem g_popAt {xs : List PyData} {y : PyData} {i : Nat} (h : xs[i]? = some y) (hl : xs.length ≤ 900000) : gPopAt xs [.int (i : Int)] = some (y, xs.eraseIdx i) := by
  have hi : i < xs.length := (List.getElem?_eq_some_iff.mp h).1
  have e : seqIndex? (i : Int) xs.length = some i := by
    unfold seqIndex?
    rw [if_neg (show ¬ (i : Int) < 0 by omega)]
    have : (decide (0 ≤ (i : Int)) && decide ((i : Int) < (xs.length : Int))) = true := by
      rw [Bool.and_eq_true]; exact ⟨decide_eq_true (by omega), decide_eq_true (by omega)⟩
    show (if (decide (0 ≤ (i : Int)) && decide ((i : Int) < (xs.length : Int))) = true then some (i : Int).toNat else none) = some i
    rw [this, if_pos rfl, Int.toNat_natCast]
  unfold gPopAt
  simp only [e, Option.bind_some, h]
  exact req_pos ⟨by omega, by omega⟩
theorem lcX_eq {fr : FTA} {gf : GF} {tt : FTT} {fe : FT} {vs : List Nat} {ε : FSt} {xs acc : List PyData} {j i : Nat} (ha : fr ε = .ok [.ref j] ε) (hc : getC ε j = some (.lst xs)) (hl : fLcGo (gfX j xs gf) tt fe vs (enumD 0 xs) [] ε = .ok acc ε) :
    fsLcX i fr gf tt fe vs ε = setR i (.val (.list acc)) ε := by
  rw [ap_lcX, ha, R.bind_ok]
  simp only [hc, hl, R.bind_ok, if_true]
theorem e_found {p a : Int} {w : Nat} {rows : List (List Int)} {x0 x1 x3 x4 x7 x10 : Option FV} (a0 : 0 ≤ a) (a1 : a < w) (hw : w ≤ 1000) (hr : Rw p w rows) (lr : rows.length ≤ 1000) (b7 : bb x7 = false) :
    fsLcX 7 (faCons (fVar 5) faNil) (tgT [8, 9]) (fTr (fOp gIx (fVar 9) (fVar 6))) (fVar 8) [8, 9] [x0, x1, some (.d (.int p)), x3, x4, some (.c (.lst (rows.map ld))), some (.d (.int a)), x7, none, none, x10]
      = .ok .nx [x0, x1, some (.d (.int p)), x3, x4, some (.c (.lst (rows.map ld))), some (.d (.int a)), some (.d (.list (((enumD 0 (rows.map ld)).filter (nzA a)).map fiA))), none, none, x10] := by
  refine (lcX_eq (xs := rows.map ld) (acc := ((enumD 0 (rows.map ld)).filter (nzA a)).map fiA) (j := 5) (by walk_at "fl") rfl ?_).trans (by repeat first | simp only [b7] | walk_at "fl")
  rw [lc_some fiA (nzA a) (by rw [enumD_len, List.length_map]; omega)]
  · intro d hd
    obtain ⟨i, x, _, _, hx, rfl⟩ := enumD_mem _ _ _ hd
    obtain ⟨r, hr', rfl⟩ := List.mem_map.mp (List.mem_of_getElem? hx)
    have lr := (hr r hr').2
    have ix := cg_ix (a := r) a0 (by omega)
    refine ⟨[x0, x1, some (.d (.int p)), x3, x4, some (.c (.lst (rows.map ld))), some (.d (.int a)), x7, some (.d (.int i)), some (.d (ld r)), x10], ?_, ?_, ?_, fun _ => ?_⟩
    · rw [ap_gfX rfl]
      walk_at "fl"
    · walk_at "fl"
    · rw [nzA_ld a0 (by omega)]
      unfold ld
      repeat first | simp only [ix] | walk_at "fl"
      congr 1
    · walk_at "fl"
      rfl
theorem map_erase {f : List Int → PyData} : ∀ {xs : List (List Int)} {i : Nat}, (xs.map f).eraseIdx i = (xs.eraseIdx i).map f
  | [], _ => rfl
  | _ :: _, 0 => rfl
  | x :: xs, i + 1 => by rw [List.map_cons, List.eraseIdx_cons_succ, List.eraseIdx_cons_succ, List.map_cons, map_erase]
theorem g_app1 {xs : List PyData} {x : PyData} (h : xs.length + 1 ≤ 900000) : gAppend xs [x] = some (.none, xs ++ [x]) := req_pos (by omega)
theorem gadd_lst {xs ys : List PyData} (h : xs.length + ys.length ≤ 900000) : FL.gAdd (.list xs) (.list ys) = some (.list (xs ++ ys)) := req_pos h
theorem ech_turn {p a : Int} {w : Nat} {rows pv : List (List Int)} {ix : List PyData} {x0 x1 x6 x7 x10 : Option FV} (hp : p ∈ primes6) (a0 : 0 ≤ a) (a1 : a < w) (hw : w ≤ 1000) (hr : Rw p w rows) (hv : Rw p w pv) (lr : rows.length ≤ 1000) (lv : pv.length ≤ 100000) (li : ix.length ≤ 100000)
    (b6 : bb x6 = false) (b7 : bb x7 = false) (b10 : bb x10 = false) :
    ∃ pv' ix' x7' x10', runT (tgN 6) lb_echelon_1 (.int a) [x0, x1, some (.d (.int p)), some (.c (.lst ix)), some (.d (.list (pv.map ld))), some (.c (.lst (rows.map ld))), x6, x7, none, none, x10]
      = .ok .nx [x0, x1, some (.d (.int p)), some (.c (.lst ix')), some (.d (.list (pv'.map ld))), some (.c (.lst ((stp p a rows).2.map ld))), some (.d (.int a)), x7', none, none, x10'] ∧
      Rw p w pv' ∧ pv'.length = pv.length + (stp p a rows).1 ∧ ix'.length = ix.length + (stp p a rows).1 ∧ bb x7' = false ∧ bb x10' = false := by
  have mb := modsB (p6_mods hp)
  have pb : 2 ≤ p ∧ p ≤ 13 := by
    simp only [primes6, List.mem_cons, List.not_mem_nil, or_false] at hp
    omega
  have p0 : 0 < p := by omega
  have ef := @e_found p a w rows x0 x1 (some (.c (.lst ix))) (some (.d (.list (pv.map ld)))) x7 x10 a0 a1 hw hr lr b7
  cases ec : cutR a rows with
  | none =>
    have es : stp p a rows = (0, rows) := by unfold stp; rw [ec]
    rw [enum_none a0 a1 hr ec] at ef
    refine ⟨pv, ix, some (.d (.list [])), x10, ?_, hv, by rw [es]; rfl, by rw [es]; rfl, rfl, b10⟩
    rw [es]
    unfold lb_echelon_1
    repeat first | simp only [b6, ef, List.isEmpty_nil, Bool.not_true] | walk_at "fl"
  | some q =>
    obtain ⟨h, t⟩ := q
    have es : stp p a rows = (1, t.map (clr p a (scl p a h))) := by unfold stp; rw [ec]
    obtain ⟨nz, hm, ht, lt⟩ := cut_some ec
    obtain ⟨i, rest, f1, f2, f3⟩ := enum_some (k := 0) a0 a1 hr ec
    rw [f1] at ef
    rw [Nat.zero_add] at ef
    obtain ⟨ph, lh⟩ := hr h hm
    obtain ⟨ps, ls⟩ := scl_rw (p := p) (at0 := a) (h := h) p0 lh
    have g1 : gPopAt (rows.map ld) [.int (i : Int)] = some (ld h, t.map ld) := by
      have := g_popAt (xs := rows.map ld) (y := ld h) (i := i) (by rw [List.getElem?_map, f2]; rfl) (by rw [List.length_map]; omega)
      rw [this, ← f3, map_erase]
    have g2 := e_one_at hp a0 (h := h) (by omega) (by omega) ph nz
    have lc : ∀ (rs : List (List Int)) (x3 x4 x5 : Option FV), Rw p w rs → rs.length ≤ 100000 → fLcGo (tgN 9) fYes (fCall F_cleared (faCons (fVar 9) (faCons (fVar 10) (faCons (fVar 6) (faCons (fVar 2) faNil))))) [9] (rs.map ld) []
        [x0, x1, some (.d (.int p)), x3, x4, x5, some (.d (.int a)), some (.d (.list (.int (i : Int) :: rest))), none, none, some (.d (ld (scl p a h)))]
        = .ok ((rs.map (clr p a (scl p a h))).map ld) [x0, x1, some (.d (.int p)), x3, x4, x5, some (.d (.int a)), some (.d (.list (.int (i : Int) :: rest))), none, none, some (.d (ld (scl p a h)))] := fun rs x3 x4 x5 hs l => by
      rw [lc_all (fun d => match d with
        | .list xs => ld (clr p a (scl p a h) (xs.map fun d => match d with
          | .int v => v
          | _ => 0))
        | _ => .none) (by rw [List.length_map]; omega)]
      · congr 1
        rw [List.map_map, List.map_map]
        refine List.map_congr_left fun r _ => ?_
        show ld (clr p a (scl p a h) ((iv r).map _)) = ld _
        unfold iv
        rw [List.map_map]
        congr 2
        exact List.map_id _
      · intro d hd
        obtain ⟨r, hr', rfl⟩ := List.mem_map.mp hd
        obtain ⟨pr, lr⟩ := hs r hr'
        refine ⟨_, rfl, by walk_at "fl", ?_⟩
        repeat first | simp only [e_cleared pb a0 a1 hw ps ls pr lr] | walk_at "fl"
        congr 2
        show ld _ = ld (clr p a (scl p a h) ((iv r).map _))
        unfold iv
        rw [List.map_map]
        congr 2
        exact (List.map_id _).symm
    have hst : Rw p w t := fun r h => hr r (ht r h)
    refine ⟨pv.map (clr p a (scl p a h)) ++ [scl p a h], ix ++ [.int a], some (.d (.list (.int (i : Int) :: rest))), some (.d (ld (scl p a h))), ?_, fun r hr' => ?_, by rw [es]; simp, by rw [es]; simp, rfl, rfl⟩
    · rw [es]
      have l1 := lc t (some (.c (.lst ix))) (some (.d (.list (pv.map ld)))) (some (.d (.list (t.map ld)))) hst (by omega)
      have l2 := lc pv (some (.c (.lst ix))) (some (.d (.list (pv.map ld)))) (some (.c (.lst ((t.map (clr p a (scl p a h))).map ld)))) hv lv
      have ga : FL.gAdd (.list ((pv.map (clr p a (scl p a h))).map ld)) (.list [ld (scl p a h)]) = some (.list ((pv.map (clr p a (scl p a h)) ++ [scl p a h]).map ld)) := (gadd_lst (by simp; omega)).trans (by simp)
      have g2 : F_one_at [.d (ld h), .d (.int a), .d (.int p)] = .ok (.own (.lst (iv (scl p a h)))) [] := g2
      unfold lb_echelon_1
      have hld : PyData.list (iv (scl p a h)) = ld (scl p a h) := rfl
      repeat first | simp only [b6, b10, ef, List.isEmpty_cons, Bool.not_false, g1, g2, hld, l1, l2, ga, g_app1 (show ix.length + 1 ≤ 900000 by omega)] | walk_at "fl"
    · rcases List.mem_append.mp hr' with hr' | hr'
      · obtain ⟨s, hs, rfl⟩ := List.mem_map.mp hr'
        exact clr_rw p0 ls (hv s hs).2
      · rw [List.mem_singleton.mp hr']; exact ⟨ps, ls⟩
theorem elim_cons {p a : Int} {as : List Int} {rows : List (List Int)} : (elim p (a :: as) rows).1 = (stp p a rows).1 + (elim p as (stp p a rows).2).1 := rfl
theorem loop_ech {p : Int} {w : Nat} {x0 x1 : Option FV} (hp : p ∈ primes6) (hw : w ≤ 1000) : ∀ (js : List Int) (rows pv : List (List Int)) (ix : List PyData) (x6 x7 x10 : Option FV), (∀ j ∈ js, 0 ≤ j ∧ j < w) → Rw p w rows → Rw p w pv → rows.length ≤ 1000 → pv.length + js.length ≤ 100000 → ix.length + js.length ≤ 100000 →
    bb x6 = false → bb x7 = false → bb x10 = false →
    ∃ pv' ix' x6' x7' x10', fsGo (tgN 6) lb_echelon_1 (iv js) [x0, x1, some (.d (.int p)), some (.c (.lst ix)), some (.d (.list (pv.map ld))), some (.c (.lst (rows.map ld))), x6, x7, none, none, x10]
      = .ok .nx [x0, x1, some (.d (.int p)), some (.c (.lst ix')), some (.d (.list (pv'.map ld))), some (.c (.lst ((elim p js rows).2.map ld))), x6', x7', none, none, x10'] ∧
      Rw p w pv' ∧ pv'.length = pv.length + (elim p js rows).1 ∧ ix'.length = ix.length + (elim p js rows).1
  | [], rows, pv, ix, x6, x7, x10, _, _, hv, _, _, _, _, _, _ => ⟨pv, ix, x6, x7, x10, rfl, hv, rfl, rfl⟩
  | j :: js, rows, pv, ix, x6, x7, x10, hj, hr, hv, lr, lv, li, b6, b7, b10 => by
    simp only [List.length_cons] at lv li
    have p0 : 0 < p := by have := modsB (p6_mods hp); omega
    obtain ⟨a0, a1⟩ := hj j List.mem_cons_self
    obtain ⟨pv1, ix1, y7, y10, e1, h1, l1, m1, c7, c10⟩ := ech_turn (x0 := x0) (x1 := x1) (ix := ix) hp a0 a1 hw hr hv lr (by omega) (by omega) b6 b7 b10
    obtain ⟨hr1, lr1⟩ := stp_rw (at0 := j) p0 hr
    have s1 : (stp p j rows).1 ≤ 1 := by unfold stp; split <;> simp
    obtain ⟨pv2, ix2, z6, z7, z10, e2, h2, l2, m2⟩ := loop_ech (x0 := x0) (x1 := x1) hp hw js (stp p j rows).2 pv1 ix1 (some (.d (.int j))) y7 y10 (fun j h => hj j (List.mem_cons_of_mem _ h)) hr1 h1 (by omega) (by omega) (by omega) rfl c7 c10
    refine ⟨pv2, ix2, z6, z7, z10, ?_, h2, by rw [l2, l1, elim_cons]; omega, by rw [m2, m1, elim_cons]; omega⟩
    rw [show iv (j :: js) = .int j :: iv js from rfl]
    exact (go_nx e1).trans e2
def upN (n : Nat) : List Int := (List.range n).map fun (i : Nat) => (i : Int)
theorem e_echelon {p : Int} {w n : Nat} {rows : List (List Int)} (hp : p ∈ primes6) (hw : w ≤ 1000) (hn : n ≤ w) (hr : Rw p w rows) (lr : rows.length ≤ 1000) :
    ∃ pv ix, F_echelon [.d (.list (rows.map ld)), .d (.int n), .d (.int p)] = tell (.tuple [.list ix, .list (pv.map ld), .list ((elim p (upN n) rows).2.map ld)]) ∧ Rw p w pv ∧ pv.length = (elim p (upN n) rows).1 ∧ ix.length = (elim p (upN n) rows).1 := by
  have rg : gRange1 [.int (n : Int)] = some (rangeD 0 n) := by
    rw [gRange1]
    exact (req_pos (by omega)).trans (by rw [Int.toNat_natCast])
  obtain ⟨pv, ix, x6, x7, x10, e, h1, h2, h3⟩ := loop_ech (x0 := some (.d (.list (rows.map ld)))) (x1 := some (.d (.int n))) hp hw (upN n) rows [] [] none none none (fun j hj => by
    unfold upN at hj
    obtain ⟨i, hi, rfl⟩ := List.mem_map.mp hj
    have := List.mem_range.mp hi
    omega) hr (fun r h => by cases h) lr (by simp [upN]; omega) (by simp [upN]; omega) rfl rfl rfl
  unfold upN at e
  rw [← rangeD0] at e
  have e : fsGo (tgN 6) lb_echelon_1 (rangeD 0 n) [some (.d (.list (rows.map ld))), some (.d (.int n)), some (.d (.int p)), some (.c (.lst [])), some (.d (.list [])), some (.c (.lst (rows.map ld))), none, none, none, none, none] = _ := e
  refine ⟨pv, ix, ?_, h1, by simpa using h2, by simpa using h3⟩
  unfold F_echelon fb_echelon
  have : (rows.map ld).length ≤ 900000 := by rw [List.length_map]; omega
  repeat first | simp only [rg, e, this] | walk_at "fl"
  rfl
end NA

namespace NA
open PySem PySem.Spec PyProof.Rows L2 DL FL RF
local macro_rules | `(tactic| walk_at "fl") => `(tactic| simp only [ap_var, ap_c, ap_un, ap_unV, ap_op, ap_opO, ap_fn, ap_nil, ap_cons, ap_tr, ap_b, ap_tand, ap_tor, ap_tnot, ap_and, ap_or, ap_not, ap_if, ap_chain, ap_tup, ap_lst, ap_lstO, ap_dictO, ap_frz, ap_sl, ap_no, ap_part, ap_mut, ap_call, ap_callK, ap_get, ap_dict, ap_isi, ap_rep, ap_listO, ap_seq, ap_iargs, ap_lc, ap_lcO, ap_yes, ap_sq, ap_ret, ap_drop, ap_sif, ap_nx, ap_bk, ap_ct, ap_asg, ap_setR, ap_runT, ap_bb0, ap_bbs, ap_bbn, ap_bbd, ap_bbc, ap_bbb, ap_sfrz, ap_setI, ap_setK, ap_for, ap_par, ap_asgT, ap_run, ap_see, ap_seeo, ap_seer, ap_getC, ap_setC, ap_sees0, ap_sees1, ap_parN, ap_view, ap_frza0, ap_frza, ap_frzc, ap_frzb, ap_frzd, ap_frzn, ap_call1, ap_c1o, ap_sar0, ap_sar1, ap_frv, ap_fro, ap_tgN, ap_tgT, fin_val, fin_own, fin_ref, fin_nx, bors_nil, bors_d, bors_b, R.bind_ok, ofO_some, ofB_some, ofOL_list, seeV, frV, vals, setAllF, wipeF, restF, callR, refsOf, argVs, putBack, setR2, setI, setK, ap_glt, ap_gle, ap_ggt, ap_gge, ap_gsub, ap_gadd, ap_gneg, ap_gix, ap_cutl, ap_cutt, ap_gtup, ap_glist, ap_glen, ap_gint, ap_gintb, ap_gabs, ap_gmax, ap_gmin, ap_isN, ap_notN, ap_geq, ap_gne, ap_eqi, ap_eqb, ap_eqs, ap_iol, ap_iot, ap_gtn, ap_gtb, ap_gti, ap_gtl, ap_gtt, ap_isn0, ap_isni, ap_isnl, ap_isnt, ap_revl, ap_revt, ap_enum, ap_zipl, ap_zipt, intsOf_map, boolsOf_map, ap_cellL, startF, List.map_cons, List.map_nil, List.length_cons, List.length_nil, List.replicate_succ, List.replicate_zero, List.cons_append, List.nil_append, List.append_nil, List.getElem?_cons_zero, List.getElem?_cons_succ, List.getElem?_nil, List.set_cons_zero, List.set_cons_succ, List.set_nil, Option.map_some, Option.map_none, Option.bind_some, Option.bind_none, Nat.reduceSub, Nat.reduceAdd, if_true, if_false, Bool.false_eq_true, reduceIte, true_and, and_true, Nat.sub_zero, Nat.zero_add, reduceCtorEq, List.nodup_nil, List.nodup_cons, List.not_mem_nil, not_false_eq_true, and_self, Bool.not_true, Bool.not_false, Bool.not_not, decide_true, decide_false, Nat.reduceLeDiff, atI0, atI1, req_true])
theorem inG_iv {p : Int} {l : List Int} {d : PyData} (h : itemsOf d = some (iv l)) : inG (.int p) d = some (decide (p ∈ l)) := by
  unfold inG
  rw [h, Option.bind_some]
  have hf : (iv l).all flatD = true := List.all_eq_true.mpr fun x hx => by
    obtain ⟨i, _, rfl⟩ := iv_mem hx
    rfl
  refine (req_pos ⟨rfl, hf⟩).trans ?_
  congr 1
  unfold inD iv
  rw [List.any_map, Bool.eq_iff_iff, List.any_eq_true, decide_eq_true_iff]
  constructor
  · rintro ⟨x, hx, h⟩
    have : x = p := by simpa [Function.comp, eqFlat] using h
    rw [← this]; exact hx
  · intro h
    exact ⟨p, h, by simp [Function.comp, eqFlat]⟩
theorem gIn_t {p : Int} {l : List Int} : gIn (.int p) (.tuple (iv l)) = some (.bool (decide (p ∈ l))) := by
  unfold gIn
  rw [inG_iv rfl]; rfl
theorem gNin_l {p : Int} {l : List Int} : gNin (.int p) (.list (iv l)) = some (.bool (!decide (p ∈ l))) := by
  unfold gNin
  rw [inG_iv rfl]; rfl
def hasP (m : Int) : PyData → Bool
  | .tuple [.int p, _] => decide (p ∈ primesOf m)
  | _ => false
theorem two_cases (v : PyData) : (∃ x w, v = .tuple [x, w]) ∨ (isTwo v = false ∧ ∀ m, hasP m v = false) := by
  cases v with
  | tuple xs =>
    match xs with
    | [] => exact .inr ⟨rfl, fun _ => rfl⟩
    | [_] => exact .inr ⟨rfl, fun _ => by simp [hasP]⟩
    | [x, w] => exact .inl ⟨x, w, rfl⟩
    | _ :: _ :: _ :: _ => exact .inr ⟨by simp [isTwo], fun _ => by simp [hasP]⟩
  | _ => exact .inr ⟨rfl, fun _ => rfl⟩
theorem int_cases (x : PyData) : (∃ i, x = .int i) ∨ (isNum x = false ∧ ∀ m w, hasP m (.tuple [x, w]) = false) := by
  cases x with
  | int i => exact .inl ⟨i, rfl⟩
  | _ => exact .inr ⟨rfl, fun _ _ => rfl⟩
theorem e_has_prime {m : Int} (hm : m ∈ mods) (v : PyData) : F_has_prime [.d v, .d (.int m)] = tell (.bool (hasP m v)) := by
  unfold F_has_prime fb_has_prime
  rcases two_cases v with ⟨x, w, rfl⟩ | ⟨h1, h2⟩
  · rcases int_cases x with ⟨i, rfl⟩ | ⟨h1, h2⟩
    · repeat first | simp only [e_is_two, two_d, e_is_number, isNum, gIxK, lkp_mods m hm] | walk_at "fl"
      rw [show (primesOf m).map PyData.int = iv (primesOf m) from rfl, gIn_t]
      walk_at "fl"
      rfl
    · repeat first | simp only [e_is_two, two_d, e_is_number, h1, h2] | walk_at "fl"
  · repeat first | simp only [e_is_two, h1, h2] | walk_at "fl"
def isRem (n : Nat) (p : Int) : PyData → Bool
  | .tuple ws => decide (ws.length = n) && ws.all (isWithin 0 (p - 1))
  | _ => false
theorem tup_cases (v : PyData) : (∃ ws, v = .tuple ws) ∨ (isT v = false ∧ ∀ n p, isRem n p v = false) := by
  cases v with
  | tuple xs => exact .inl ⟨xs, rfl⟩
  | _ => exact .inr ⟨rfl, fun _ _ => rfl⟩
theorem gAll_map {l : List PyData} {g : PyData → Bool} : gAll [.list (l.map fun d => PyData.bool (g d))] = some (.bool (l.all g)) := by
  have h : boolsOf (l.map fun d => PyData.bool (g d)) = some (l.map g) := by
    have := boolsOf_map (l.map g)
    rwa [List.map_map] at this
  simp only [gAll, h, Option.map_some]
  congr 2
  rw [List.all_map]
  rfl
theorem e_is_rem {n : Nat} {p : Int} (hn : n ≤ 900000) (v : PyData) : F_is_remainders [.d v, .d (.int n), .d (.int p)] = tell (.bool (isRem n p v)) := by
  unfold F_is_remainders fb_is_remainders
  rcases tup_cases v with ⟨ws, rfl⟩ | ⟨h1, h2⟩
  · by_cases hl : ws.length = n
    · subst hl
      repeat first | simp only [kT, isT] | walk_at "fl"
      rw [lc_all (fun d => .bool (isWithin 0 (p - 1) d)) (by omega)]
      · walk_at "fl"
        rw [gAll_map]
        simp only [isRem, decide_true, Bool.true_and]
        walk_at "fl"
      · intro d hd
        refine ⟨_, rfl, by walk_at "fl", ?_⟩
        repeat first | simp only [e_is_within] | walk_at "fl"
    · have hl2 : ¬ (ws.length : Int) = (n : Int) := by omega
      have hb : (((ws.length : Int)) != (n : Int)) = true := by simp [hl2]
      repeat first | simp only [kT, isT, isRem, hl, hl2, hb, decide_false, Bool.false_and] | walk_at "fl"
  · repeat first | simp only [kT, h1, h2] | walk_at "fl"
structure Lks (m : Int) (n : Nat) (qs : List (List Int × Int)) : Prop where
  ok : ∀ q ∈ qs, Pn m q.1 ∧ q.1.length = n ∧ 0 ≤ q.2 ∧ q.2 < m
  ln : qs.length ≤ 1000
def lk (q : List Int × Int) : PyData := .tuple [.tuple (iv q.1), .int q.2]
def lks (qs : List (List Int × Int)) : PyData := .tuple (qs.map lk)
theorem isRem_ok {n : Nat} {p : Int} {l : List Int} (h : Pn p l) (hl : l.length = n) : isRem n p (.tuple (iv l)) = true := by
  simp only [isRem, Bool.and_eq_true, decide_eq_true_eq]
  refine ⟨by rw [show (iv l).length = l.length from List.length_map _, hl], List.all_eq_true.mpr fun x hx => ?_⟩
  obtain ⟨i, hi, rfl⟩ := iv_mem hx
  have := h i hi
  simp only [isWithin, Bool.and_eq_true, decide_eq_true_eq]
  omega
theorem e_is_look {m : Int} {R : Nat} {q : List Int × Int} (hR : R ≤ 3) (h : Pn m q.1 ∧ q.1.length = 2 * R + 1 ∧ 0 ≤ q.2 ∧ q.2 < m) : F_is_look [.d (lk q), .d (.int m), .d (.int R)] = tell (.bool true) := by
  have e1 := e_is_rem (n := 2 * R + 1) (p := m) (by omega) (.tuple (iv q.1))
  rw [isRem_ok h.1 h.2.1] at e1
  have e2 : isWithin 0 (m - 1) (.int q.2) = true := by
    simp only [isWithin, Bool.and_eq_true, decide_eq_true_eq]
    omega
  have e3 : 2 * (R : Int) + 1 = ((2 * R + 1 : Nat) : Int) := by omega
  unfold F_is_look fb_is_look lk
  repeat first | simp only [e_is_two, two_d, g_mul (bits_small (v := 2) (c := (R : Int)) (by decide) (by omega)), g_add, e3, e1, e_is_within, e2] | walk_at "fl"
theorem e_need_looks {m : Int} {R : Nat} {qs : List (List Int × Int)} (hm : m ∈ mods) (hR : R ≤ 3) (h : Lks m (2 * R + 1) qs) : F_need_looks [.d (.int m), .d (.int R), .d (lks qs)] = tell (.list (iv (primesOf m))) := by
  have e1 := e_primes_of hm
  have r0 : decide ((0 : Int) ≤ (R : Int)) = true := decide_eq_true (by omega)
  have r1 : decide ((R : Int) ≤ 3) = true := decide_eq_true (by omega)
  unfold F_need_looks fb_need_looks lks
  repeat first | simp only [e1, r0, r1, kT, isT] | walk_at "fl"
  rw [lc_all (fun _ => .bool true) (by have := h.ln; rw [List.length_map]; omega)]
  · walk_at "fl"
    rw [gAll_true]
    walk_at "fl"
  · intro d hd
    obtain ⟨q, hq, rfl⟩ := List.mem_map.mp hd
    refine ⟨_, rfl, by walk_at "fl", ?_⟩
    repeat first | simp only [e_is_look hR (h.ok q hq)] | walk_at "fl"
def srow (p : Int) (L k : Nat) (q : List Int × Int) : List Int := (q.1 ++ [q.2]).map (· % p) ++ (List.range L).map fun (j : Nat) => if (k : Int) = (j : Int) then 1 else 0
def srows (p : Int) (L : Nat) : Nat → List (List Int × Int) → List (List Int)
  | _, [] => []
  | k, q :: qs => srow p L k q :: srows p L (k + 1) qs
theorem srows_len {p : Int} {L : Nat} : ∀ {qs : List (List Int × Int)} {k : Nat}, (srows p L k qs).length = qs.length
  | [], _ => rfl
  | q :: qs, k => by rw [srows, List.length_cons, List.length_cons, srows_len]
theorem srow_rw {p : Int} {L k n : Nat} {q : List Int × Int} (hp : 2 ≤ p) (hl : q.1.length = n) : Pn p (srow p L k q) ∧ (srow p L k q).length = n + 1 + L := by
  refine ⟨fun x hx => ?_, by simp [srow, hl]; omega⟩
  unfold srow at hx
  rcases List.mem_append.mp hx with hx | hx
  · obtain ⟨v, _, rfl⟩ := List.mem_map.mp hx
    exact ⟨Int.emod_nonneg _ (by omega), Int.emod_lt_of_pos _ (by omega)⟩
  · obtain ⟨j, _, rfl⟩ := List.mem_map.mp hx
    split <;> omega
theorem srows_rw {p : Int} {L n : Nat} (hp : 2 ≤ p) : ∀ {qs : List (List Int × Int)} {k : Nat}, (∀ q ∈ qs, q.1.length = n) → Rw p (n + 1 + L) (srows p L k qs)
  | [], _, _, r, h => by cases h
  | q :: qs, k, hq, r, h => by
    rcases List.mem_cons.mp h with rfl | h
    · exact srow_rw hp (hq q List.mem_cons_self)
    · exact srows_rw hp (fun q h => hq q (List.mem_cons_of_mem _ h)) r h
theorem iv_app {a b : List Int} : iv a ++ iv b = iv (a ++ b) := by simp [iv]
theorem loop_solved {m p : Int} {n : Nat} {Q : List (List Int × Int)} {x1 : Option FV} (p0 : 0 < p) (hn : n ≤ 1000) (hQ : Q.length ≤ 1000) : ∀ (qs : List (List Int × Int)) (k : Nat) (acc : List (List Int)) (y z v : Option FV), (∀ q ∈ qs, Pn m q.1 ∧ q.1.length = n ∧ 0 ≤ q.2 ∧ q.2 < m) → acc.length + qs.length ≤ 100000 → bb y = false → bb z = false → bb v = false →
    ∃ y' z' v', fsGo (tgT2 [.inl 4, .inr [5, 6]]) lb_solved_1 (enumD k (qs.map lk)) [some (.d (lks Q)), x1, some (.d (.int p)), some (.c (.lst (acc.map ld))), y, z, v, none, none]
      = .ok .nx [some (.d (lks Q)), x1, some (.d (.int p)), some (.c (.lst ((acc ++ srows p Q.length k qs).map ld))), y', z', v', none, none]
  | [], k, acc, y, z, v, _, _, _, _, _ => ⟨y, z, v, by rw [srows, List.append_nil]; rfl⟩
  | q :: qs, k, acc, y, z, v, hq, hl, hy, hz, hv => by
    simp only [List.length_cons] at hl
    obtain ⟨pq, lq, q0, q1⟩ := hq q List.mem_cons_self
    obtain ⟨y', z', v', e⟩ := loop_solved (Q := Q) (x1 := x1) p0 hn hQ qs (k + 1) (acc ++ [srow p Q.length k q]) (some (.d (.int k))) (some (.d (.tuple (iv q.1)))) (some (.d (.int q.2))) (fun q h => hq q (List.mem_cons_of_mem _ h)) (by simp; omega) rfl rfl rfl
    rw [List.append_assoc] at e
    refine ⟨y', z', v', ?_⟩
    rw [show enumD k ((q :: qs).map lk) = .tuple [.int k, .tuple [.tuple (iv q.1), .int q.2]] :: enumD (k + 1) (qs.map lk) from rfl, show acc ++ srows p Q.length k (q :: qs) = acc ++ ([srow p Q.length k q] ++ srows p Q.length (k + 1) qs) from rfl]
    refine (go_nx ?_).trans e
    have iq : (iv q.1).length = q.1.length := List.length_map _
    have ga : FL.gAdd (.tuple (iv q.1)) (.tuple [.int q.2]) = some (.tuple (iv (q.1 ++ [q.2]))) := (gadd_tup (by rw [iq]; simp; omega)).trans (by simp [iv])
    have hlen : ((Q.map lk).length : Int) = (Q.length : Int) := by simp
    have rg : gRange1 [.int (Q.length : Int)] = some (rangeD 0 Q.length) := by
      rw [gRange1]
      exact (req_pos (by omega)).trans (by rw [Int.toNat_natCast])
    have hlc : ∀ x3 x4 x5 x6 x8 : Option FV, fLcGo (tgN 7) fYes (fOp gMod (fVar 7) (fVar 2)) [7] (iv (q.1 ++ [q.2])) [] [some (.d (lks Q)), x1, some (.d (.int p)), x3, x4, x5, x6, none, x8]
        = .ok (iv ((q.1 ++ [q.2]).map (· % p))) [some (.d (lks Q)), x1, some (.d (.int p)), x3, x4, x5, x6, none, x8] := fun x3 x4 x5 x6 x8 => by
      rw [lc_all (fun d => match d with
        | .int v => .int (v % p)
        | _ => .none) (by simp [iv]; omega)]
      · congr 1
        unfold iv
        rw [List.map_map, List.map_map]
        rfl
      · intro d hd
        obtain ⟨v, _, rfl⟩ := iv_mem hd
        refine ⟨_, rfl, by walk_at "fl", ?_⟩
        repeat first | simp only [g_mod p0] | walk_at "fl"
    have hlc2 : ∀ x3 x5 x6 x7 : Option FV, fLcGo (tgN 8) fYes (fFn gInt (faCons (fOp gEq (fVar 4) (fVar 8)) faNil)) [8] (rangeD 0 Q.length) [] [some (.d (lks Q)), x1, some (.d (.int p)), x3, some (.d (.int k)), x5, x6, x7, none]
        = .ok (iv ((List.range Q.length).map fun (j : Nat) => if (k : Int) = (j : Int) then 1 else 0)) [some (.d (lks Q)), x1, some (.d (.int p)), x3, some (.d (.int k)), x5, x6, x7, none] := fun x3 x5 x6 x7 => by
      rw [rangeD0, lc_all (fun d => match d with
        | .int j => .int (if (k : Int) = j then 1 else 0)
        | _ => .none) (by simp [iv]; omega)]
      · congr 1
        unfold iv
        rw [List.map_map, List.map_map, List.map_map]
        rfl
      · intro d hd
        obtain ⟨j, _, rfl⟩ := iv_mem hd
        refine ⟨_, rfl, by walk_at "fl", ?_⟩
        repeat first | simp only [eqP] | walk_at "fl"
        by_cases h : (k : Int) = j <;> simp [h]
    have gb : FL.gAdd (.list (iv ((q.1 ++ [q.2]).map (· % p)))) (.list (iv ((List.range Q.length).map fun (j : Nat) => if (k : Int) = (j : Int) then 1 else 0))) = some (ld (srow p Q.length k q)) := (gadd_lst (by simp [iv]; omega)).trans (by rw [iv_app]; rfl)
    have gc : gAppend (acc.map ld) [ld (srow p Q.length k q)] = some (.none, (acc ++ [srow p Q.length k q]).map ld) := (g_app1 (by rw [List.length_map]; omega)).trans (by simp)
    unfold lb_solved_1
    unfold lks at hlc hlc2 ⊢
    repeat first | simp only [ap_tgT2, ap_set20, ap_set2n, ap_set2t, hy, hz, hv, ga, hlc, hlen, rg, hlc2, gb, gc] | walk_at "fl"
theorem e_solved {m p : Int} {n : Nat} {qs : List (List Int × Int)} (hp : p ∈ primes6) (hn : n ≤ 100) (h : Lks m n qs) (hq : qs.length ≤ 100) :
    ∃ pv ix, F_solved [.d (lks qs), .d (.int n), .d (.int p)] = tell (.tuple [.list ix, .list (pv.map ld), .list ((elim p (upN n) (srows p qs.length 0 qs)).2.map ld)]) ∧ Rw p (n + 1 + qs.length) pv ∧ pv.length = (elim p (upN n) (srows p qs.length 0 qs)).1 ∧ ix.length = (elim p (upN n) (srows p qs.length 0 qs)).1 := by
  have mb := modsB (p6_mods hp)
  obtain ⟨y, z, v, e⟩ := loop_solved (Q := qs) (x1 := some (.d (.int n))) (p := p) (by omega) (by omega) h.ln qs 0 [] none none none h.ok (by rw [List.length_nil]; have := h.ln; omega) rfl rfl rfl
  obtain ⟨pv, ix, e2, h1, h2, h3⟩ := e_echelon (n := n) (w := n + 1 + qs.length) hp (by omega) (by omega) (srows_rw (L := qs.length) (k := 0) (p := p) (qs := qs) (by omega) fun q hq => (h.ok q hq).2.1) (by rw [srows_len]; exact h.ln)
  rw [List.nil_append] at e
  have e : fsGo (tgT2 [.inl 4, .inr [5, 6]]) lb_solved_1 (enumD 0 (qs.map lk)) [some (.d (lks qs)), some (.d (.int n)), some (.d (.int p)), some (.c (.lst [])), none, none, none, none, none] = _ := e
  refine ⟨pv, ix, ?_, h1, h2, h3⟩
  unfold F_solved fb_solved
  have ge : gEnumT [lks qs] = some (enumD 0 (qs.map lk)) := rfl
  repeat first | simp only [ge, e, e2] | walk_at "fl"
end NA

namespace NA
open PySem PySem.Spec PyProof.Rows L2 DL FL RF
local macro_rules | `(tactic| walk_at "fl") => `(tactic| simp only [ap_var, ap_c, ap_un, ap_unV, ap_op, ap_opO, ap_fn, ap_nil, ap_cons, ap_tr, ap_b, ap_tand, ap_tor, ap_tnot, ap_and, ap_or, ap_not, ap_if, ap_chain, ap_tup, ap_lst, ap_lstO, ap_dictO, ap_frz, ap_sl, ap_no, ap_part, ap_mut, ap_call, ap_callK, ap_get, ap_dict, ap_isi, ap_rep, ap_listO, ap_seq, ap_iargs, ap_lc, ap_lcO, ap_yes, ap_sq, ap_ret, ap_drop, ap_sif, ap_nx, ap_bk, ap_ct, ap_asg, ap_setR, ap_runT, ap_bb0, ap_bbs, ap_bbn, ap_bbd, ap_bbc, ap_bbb, ap_sfrz, ap_setI, ap_setK, ap_for, ap_par, ap_asgT, ap_run, ap_see, ap_seeo, ap_seer, ap_getC, ap_setC, ap_sees0, ap_sees1, ap_parN, ap_view, ap_frza0, ap_frza, ap_frzc, ap_frzb, ap_frzd, ap_frzn, ap_call1, ap_c1o, ap_sar0, ap_sar1, ap_frv, ap_fro, ap_tgN, ap_tgT, fin_val, fin_own, fin_ref, fin_nx, bors_nil, bors_d, bors_b, R.bind_ok, ofO_some, ofB_some, ofOL_list, seeV, frV, vals, setAllF, wipeF, restF, callR, refsOf, argVs, putBack, setR2, setI, setK, ap_glt, ap_gle, ap_ggt, ap_gge, ap_gsub, ap_gadd, ap_gneg, ap_gix, ap_cutl, ap_cutt, ap_gtup, ap_glist, ap_glen, ap_gint, ap_gintb, ap_gabs, ap_gmax, ap_gmin, ap_isN, ap_notN, ap_geq, ap_gne, ap_eqi, ap_eqb, ap_eqs, ap_iol, ap_iot, ap_gtn, ap_gtb, ap_gti, ap_gtl, ap_gtt, ap_isn0, ap_isni, ap_isnl, ap_isnt, ap_revl, ap_revt, ap_enum, ap_zipl, ap_zipt, intsOf_map, boolsOf_map, ap_cellL, startF, List.map_cons, List.map_nil, List.length_cons, List.length_nil, List.replicate_succ, List.replicate_zero, List.cons_append, List.nil_append, List.append_nil, List.getElem?_cons_zero, List.getElem?_cons_succ, List.getElem?_nil, List.set_cons_zero, List.set_cons_succ, List.set_nil, Option.map_some, Option.map_none, Option.bind_some, Option.bind_none, Nat.reduceSub, Nat.reduceAdd, if_true, if_false, Bool.false_eq_true, reduceIte, true_and, and_true, Nat.sub_zero, Nat.zero_add, reduceCtorEq, List.nodup_nil, List.nodup_cons, List.not_mem_nil, not_false_eq_true, and_self, Bool.not_true, Bool.not_false, Bool.not_not, decide_true, decide_false, Nat.reduceLeDiff, atI0, atI1, req_true])
def tup (w : List Int) : PyData := .tuple (iv w)
def bad (n : Nat) (rows : List (List Int)) : Option (List Int) := rows.find? fun r => !decide (cg r n = 0)
def restR (p : Int) (n : Nat) (qs : List (List Int × Int)) : List (List Int) := (elim p (upN n) (srows p qs.length 0 qs)).2
def refL (n : Nat) (qs : List (List Int × Int)) : List Int → Option (Int × List Int)
  | [] => none
  | p :: ps => match bad n (restR p n qs) with
    | some r => some (p, r.drop (n + 1))
    | none => refL n qs ps
def refD : Option (Int × List Int) → PyData
  | none => .none
  | some q => .tuple [.int q.1, tup q.2]
theorem cut_drop {r : List Int} {k : Nat} (h : k ≤ r.length) : DL.cutD (iv r) (some (k : Int)) none = iv (r.drop k) := by
  have lr : (iv r).length = r.length := List.length_map _
  have e1 : HT.sIx (iv r).length 0 (some (k : Int)) = k := by
    simp only [HT.sIx]
    split <;> omega
  have e2 : HT.sIx (iv r).length (iv r).length none = (iv r).length := rfl
  unfold DL.cutD
  rw [e1, e2, List.take_of_length_le (by rw [List.length_drop]; omega)]
  unfold iv
  rw [List.map_drop]
theorem loop_ref2 {p : Int} {w n : Nat} {x0 x1 x2 x3 : Option FV} (hn : n + 1 ≤ w) (hw : w ≤ 1000) : ∀ (rows : List (List Int)) (y : Option FV), Rw p w rows → bb y = false →
    (bad n rows = none ∧ ∃ y', fsGo (tgN 6) lb_refusal_2 (rows.map ld) [x0, x1, x2, x3, some (.d (.int n)), some (.d (.int p)), y]
      = .ok .nx [x0, x1, x2, x3, some (.d (.int n)), some (.d (.int p)), y'] ∧ bb y' = false) ∨
    (∃ r, bad n rows = some r ∧ ∃ y', fsGo (tgN 6) lb_refusal_2 (rows.map ld) [x0, x1, x2, x3, some (.d (.int n)), some (.d (.int p)), y]
      = .ok (.rt (.val (.tuple [.int p, tup (r.drop (n + 1))]))) [x0, x1, x2, x3, some (.d (.int n)), some (.d (.int p)), y'])
  | [], y, _, hy => .inl ⟨rfl, y, rfl, hy⟩
  | r :: rows, y, hr, hy => by
    obtain ⟨pr, lr⟩ := hr r List.mem_cons_self
    have ix := cg_ix (a := r) (i := (n : Int)) (by omega) (by omega)
    have cd := cut_drop (r := r) (k := n + 1) (by omega)
    have e1 : (n : Int) + 1 = ((n + 1 : Nat) : Int) := by omega
    rw [List.map_cons]
    by_cases h : cg r n = 0
    · have t : runT (tgN 6) lb_refusal_2 (ld r) [x0, x1, x2, x3, some (.d (.int n)), some (.d (.int p)), y] = .ok .nx [x0, x1, x2, x3, some (.d (.int n)), some (.d (.int p)), some (.d (ld r))] := by
        rw [h] at ix
        unfold lb_refusal_2 ld
        repeat first | simp only [hy, ix] | walk_at "fl"
        rfl
      have hb : bad n (r :: rows) = bad n rows := by
        unfold bad
        rw [List.find?_cons_of_neg (by simp [h])]
      rw [hb]
      rcases loop_ref2 (x0 := x0) (x1 := x1) (x2 := x2) (x3 := x3) hn hw rows (some (.d (ld r))) (fun r h => hr r (List.mem_cons_of_mem _ h)) rfl with ⟨a, y', e, b⟩ | ⟨q, a, y', e⟩
      · exact .inl ⟨a, y', (go_nx t).trans e, b⟩
      · exact .inr ⟨q, a, y', (go_nx t).trans e⟩
    · refine .inr ⟨r, ?_, some (.d (ld r)), go_rt ?_⟩
      · unfold bad
        rw [List.find?_cons_of_pos (by simp [h])]
      · have hx : (cg r n != 0) = true := by simp [h]
        unfold lb_refusal_2 ld tup
        repeat first | simp only [hy, ix, hx, e1, g_add, cd] | walk_at "fl"
theorem loop_ref1 {m : Int} {n : Nat} {qs : List (List Int × Int)} {x0 x1 x3 : Option FV} (h : Lks m n qs) (hq : qs.length ≤ 100) (hn : n ≤ 100) : ∀ (ps : List Int) (y z : Option FV), (∀ p ∈ ps, p ∈ primes6) → bb y = false → bb z = false →
    (refL n qs ps = none ∧ ∃ y' z', fsGo (tgN 5) lb_refusal_1 (iv ps) [x0, x1, some (.d (lks qs)), x3, some (.d (.int n)), y, z]
      = .ok .nx [x0, x1, some (.d (lks qs)), x3, some (.d (.int n)), y', z']) ∨
    (∃ q, refL n qs ps = some q ∧ ∃ y' z', fsGo (tgN 5) lb_refusal_1 (iv ps) [x0, x1, some (.d (lks qs)), x3, some (.d (.int n)), y, z]
      = .ok (.rt (.val (refD (some q)))) [x0, x1, some (.d (lks qs)), x3, some (.d (.int n)), y', z'])
  | [], y, z, _, _, _ => .inl ⟨rfl, y, z, rfl⟩
  | p :: ps, y, z, hp, hy, hz => by
    have p6 := hp p List.mem_cons_self
    have mb := modsB (p6_mods p6)
    obtain ⟨pv, ix, es, _, _, _⟩ := e_solved (p := p) p6 hn h hq
    have hr : Rw p (n + 1 + qs.length) (restR p n qs) := (elim_rw (by omega) (srows_rw (L := qs.length) (k := 0) (p := p) (qs := qs) (by omega) fun q hq => (h.ok q hq).2.1)).1
    rw [show iv (p :: ps) = .int p :: iv ps from rfl]
    have es : F_solved [.d (lks qs), .d (.int n), .d (.int p)] = tell (.tuple [.list ix, .list (pv.map ld), .list ((restR p n qs).map ld)]) := es
    have i2 : atI [PyData.list ix, .list (pv.map ld), .list ((restR p n qs).map ld)] 2 = some (.list ((restR p n qs).map ld)) := NA.ix2
    rcases loop_ref2 (x0 := x0) (x1 := x1) (x2 := some (.d (lks qs))) (x3 := x3) (n := n) (by omega) (by omega) (restR p n qs) z hr hz with ⟨a, y', e, b⟩ | ⟨r, a, y', e⟩
    · have t : runT (tgN 5) lb_refusal_1 (.int p) [x0, x1, some (.d (lks qs)), x3, some (.d (.int n)), y, z] = .ok .nx [x0, x1, some (.d (lks qs)), x3, some (.d (.int n)), some (.d (.int p)), y'] := by
        unfold lb_refusal_1
        repeat first | simp only [hy, es, i2, e] | walk_at "fl"
      have hb : refL n qs (p :: ps) = refL n qs ps := by
        show (match bad n (restR p n qs) with
          | some r => some (p, r.drop (n + 1))
          | none => refL n qs ps) = _
        rw [a]
      rw [hb]
      rcases loop_ref1 (x0 := x0) (x1 := x1) (x3 := x3) h hq hn ps (some (.d (.int p))) y' (fun p h => hp p (List.mem_cons_of_mem _ h)) rfl b with ⟨a, y2, z2, e2⟩ | ⟨q, a, y2, z2, e2⟩
      · exact .inl ⟨a, y2, z2, (go_nx t).trans e2⟩
      · exact .inr ⟨q, a, y2, z2, (go_nx t).trans e2⟩
    · refine .inr ⟨(p, r.drop (n + 1)), ?_, some (.d (.int p)), y', go_rt ?_⟩
      · show (match bad n (restR p n qs) with
          | some r => some (p, r.drop (n + 1))
          | none => refL n qs ps) = _
        rw [a]
      · unfold lb_refusal_1
        repeat first | simp only [hy, es, i2, e] | walk_at "fl"
        rfl
theorem primes_six {m : Int} : ∀ p ∈ primesOf m, p ∈ primes6 := fun p h => (List.mem_filter.mp h).1
theorem e_refusal {m : Int} {R : Nat} {qs : List (List Int × Int)} (hm : m ∈ mods) (hR : R ≤ 3) (h : Lks m (2 * R + 1) qs) (hq : qs.length ≤ 100) : F_refusal [.d (.int m), .d (.int R), .d (lks qs)] = tell (refD (refL (2 * R + 1) qs (primesOf m))) := by
  have e1 := e_need_looks hm hR h
  have e3 : 2 * (R : Int) + 1 = ((2 * R + 1 : Nat) : Int) := by omega
  have g2 := g_mul (bits_small (v := 2) (c := (R : Int)) (by decide) (by omega))
  rcases loop_ref1 (x0 := some (.d (.int m))) (x1 := some (.d (.int R))) (x3 := some (.d (.list (iv (primesOf m))))) h hq (by omega) (primesOf m) none none primes_six rfl rfl with ⟨a, y, z, e⟩ | ⟨q, a, y, z, e⟩
  · rw [a]
    unfold F_refusal fb_refusal
    repeat first | simp only [e1, g2, g_add, e3, e] | walk_at "fl"
    rfl
  · rw [a]
    unfold F_refusal fb_refusal
    repeat first | simp only [e1, g2, g_add, e3, e] | walk_at "fl"
end NA

namespace NA
open PySem PySem.Spec PyProof.Rows L2 DL FL RF
local macro_rules | `(tactic| walk_at "fl") => `(tactic| simp only [ap_var, ap_c, ap_un, ap_unV, ap_op, ap_opO, ap_fn, ap_nil, ap_cons, ap_tr, ap_b, ap_tand, ap_tor, ap_tnot, ap_and, ap_or, ap_not, ap_if, ap_chain, ap_tup, ap_lst, ap_lstO, ap_dictO, ap_frz, ap_sl, ap_no, ap_part, ap_mut, ap_call, ap_callK, ap_get, ap_dict, ap_isi, ap_rep, ap_listO, ap_seq, ap_iargs, ap_lc, ap_lcO, ap_yes, ap_sq, ap_ret, ap_drop, ap_sif, ap_nx, ap_bk, ap_ct, ap_asg, ap_setR, ap_runT, ap_bb0, ap_bbs, ap_bbn, ap_bbd, ap_bbc, ap_bbb, ap_sfrz, ap_setI, ap_setK, ap_for, ap_par, ap_asgT, ap_run, ap_see, ap_seeo, ap_seer, ap_getC, ap_setC, ap_sees0, ap_sees1, ap_parN, ap_view, ap_frza0, ap_frza, ap_frzc, ap_frzb, ap_frzd, ap_frzn, ap_call1, ap_c1o, ap_sar0, ap_sar1, ap_frv, ap_fro, ap_tgN, ap_tgT, fin_val, fin_own, fin_ref, fin_nx, bors_nil, bors_d, bors_b, R.bind_ok, ofO_some, ofB_some, ofOL_list, seeV, frV, vals, setAllF, wipeF, restF, callR, refsOf, argVs, putBack, setR2, setI, setK, ap_glt, ap_gle, ap_ggt, ap_gge, ap_gsub, ap_gadd, ap_gneg, ap_gix, ap_cutl, ap_cutt, ap_gtup, ap_glist, ap_glen, ap_gint, ap_gintb, ap_gabs, ap_gmax, ap_gmin, ap_isN, ap_notN, ap_geq, ap_gne, ap_eqi, ap_eqb, ap_eqs, ap_iol, ap_iot, ap_gtn, ap_gtb, ap_gti, ap_gtl, ap_gtt, ap_isn0, ap_isni, ap_isnl, ap_isnt, ap_revl, ap_revt, ap_enum, ap_zipl, ap_zipt, intsOf_map, boolsOf_map, ap_cellL, startF, List.map_cons, List.map_nil, List.length_cons, List.length_nil, List.replicate_succ, List.replicate_zero, List.cons_append, List.nil_append, List.append_nil, List.getElem?_cons_zero, List.getElem?_cons_succ, List.getElem?_nil, List.set_cons_zero, List.set_cons_succ, List.set_nil, Option.map_some, Option.map_none, Option.bind_some, Option.bind_none, Nat.reduceSub, Nat.reduceAdd, if_true, if_false, Bool.false_eq_true, reduceIte, true_and, and_true, Nat.sub_zero, Nat.zero_add, reduceCtorEq, List.nodup_nil, List.nodup_cons, List.not_mem_nil, not_false_eq_true, and_self, Bool.not_true, Bool.not_false, Bool.not_not, decide_true, decide_false, Nat.reduceLeDiff, atI0, atI1, req_true])
theorem lay_iv' : ∀ {b : List Int}, PyData.canLayAll0 (iv b) = true
  | [] => rfl
  | x :: r => by
    have ih := lay_iv' (b := r)
    unfold iv at ih ⊢
    rw [List.map_cons, PyData.canLayAll0, ih]
    rfl
theorem dep_iv' : ∀ {b : List Int}, PyData.depthAll (iv b) = 0
  | [] => rfl
  | x :: r => by
    have ih := dep_iv' (b := r)
    unfold iv at ih ⊢
    rw [List.map_cons, PyData.depthAll, ih]
    rfl
theorem eqv_all' : ∀ {a b : List Int}, PyData.eqvAll (iv a) (iv b) = decide (a = b)
  | [], [] => rfl
  | [], _ :: _ => rfl
  | _ :: _, [] => rfl
  | x :: a, y :: b => by
    have ih := eqv_all' (a := a) (b := b)
    unfold iv at ih ⊢
    rw [List.map_cons, List.map_cons, PyData.eqvAll, ih]
    by_cases h : x = y <;> simp [PyData.eqv, h]
theorem eqL_iv {a b : List Int} : eqP (.list (iv a)) (.list (iv b)) = some (decide (a = b)) := by
  have sh : ∀ b : List Int, SeqAt.shaped (.list (iv b)) = true := fun b => by
    unfold SeqAt.shaped
    simp [PyData.canLay0, PyData.depth, lay_iv', dep_iv']
  refine (req_pos ⟨sh a, sh b⟩).trans ?_
  congr 1
  exact eqv_all'
def bv (a : List Bool) : List PyData := a.map .bool
theorem lay_bv : ∀ {b : List Bool}, PyData.canLayAll0 (bv b) = true
  | [] => rfl
  | x :: r => by
    have ih := lay_bv (b := r)
    unfold bv at ih ⊢
    rw [List.map_cons, PyData.canLayAll0, ih]
    rfl
theorem dep_bv : ∀ {b : List Bool}, PyData.depthAll (bv b) = 0
  | [] => rfl
  | x :: r => by
    have ih := dep_bv (b := r)
    unfold bv at ih ⊢
    rw [List.map_cons, PyData.depthAll, ih]
    rfl
theorem eqv_bv : ∀ {a b : List Bool}, PyData.eqvAll (bv a) (bv b) = decide (a = b)
  | [], [] => rfl
  | [], _ :: _ => rfl
  | _ :: _, [] => rfl
  | x :: a, y :: b => by
    have ih := eqv_bv (a := a) (b := b)
    unfold bv at ih ⊢
    rw [List.map_cons, List.map_cons, PyData.eqvAll, ih]
    cases x <;> cases y <;> simp [PyData.eqv]
theorem eqL_bv {a b : List Bool} : eqP (.list (bv a)) (.list (bv b)) = some (decide (a = b)) := by
  have sh : ∀ b : List Bool, SeqAt.shaped (.list (bv b)) = true := fun b => by
    unfold SeqAt.shaped
    simp [PyData.canLay0, PyData.depth, lay_bv, dep_bv]
  refine (req_pos ⟨sh a, sh b⟩).trans ?_
  congr 1
  exact eqv_bv
def wtsI (ws : List PyData) : List Int := ws.map fun d => match d with
  | .int i => i
  | _ => 0
theorem wtsI_len {ws : List PyData} : (wtsI ws).length = ws.length := by simp [wtsI]
theorem wtsI_ok {p : Int} : ∀ {ws : List PyData}, ws.all (isWithin 0 (p - 1)) = true → ws = iv (wtsI ws) ∧ Pn p (wtsI ws)
  | [], _ => ⟨rfl, fun _ h => by cases h⟩
  | d :: ws, h => by
    rw [List.all_cons, Bool.and_eq_true] at h
    obtain ⟨h1, h2⟩ := wtsI_ok h.2
    cases d with
    | int i =>
      have h3 := h.1
      simp only [isWithin, Bool.and_eq_true, decide_eq_true_eq] at h3
      refine ⟨?_, fun x hx => ?_⟩
      · show _ = PyData.int i :: iv (wtsI ws)
        rw [← h1]
      · rcases List.mem_cons.mp (show x ∈ i :: wtsI ws from hx) with rfl | hx
        · omega
        · exact h2 x hx
    | _ => exact absurd h.1 (by simp [isWithin])
def addL (T : List Int) (w : Int) (q : List Int × Int) : List Int := List.zipWith (fun t v => t + w * v) T (q.1 ++ [q.2])
def accL : List Int → List (List Int × Int) → List Int → List Int
  | w :: ws, q :: qs, T => accL ws qs (addL T w q)
  | _, _, T => T
def okL (p : Int) (n : Nat) (T : List Int) : Bool := decide (T.map (fun t => decide (t % p = 0)) = List.replicate n true ++ [false])
def refB (m : Int) (n : Nat) (qs : List (List Int × Int)) : PyData → Bool
  | .tuple [.int p, .tuple ws] => decide (p ∈ primesOf m) && (isRem qs.length p (.tuple ws) && okL p n (accL (wtsI ws) qs (List.replicate (n + 1) 0)))
  | _ => false
theorem refB_no {m : Int} {n : Nat} {qs : List (List Int × Int)} {v : PyData} (h : hasP m v = false) : refB m n qs v = false := by
  unfold refB
  split
  · next p ws =>
    simp only [hasP] at h
    rw [h]; rfl
  · rfl
theorem refB_no2 {m : Int} {n : Nat} {qs : List (List Int × Int)} {p : Int} {w : PyData} (h : isRem qs.length p w = false) : refB m n qs (.tuple [.int p, w]) = false := by
  unfold refB
  split
  · next q ws e =>
    cases e
    rw [h]; simp
  · rfl
def acF (w : Int) : PyData → PyData
  | .tuple [.int t, .int v] => .int (t + w * v)
  | _ => .none
theorem acF_zip {w : Int} : ∀ {ts us : List Int}, (zipD (iv ts) (iv us)).map (acF w) = iv (List.zipWith (fun t v => t + w * v) ts us)
  | [], _ => by simp [iv, zipD]
  | _ :: _, [] => by simp [iv, zipD]
  | x :: ts, y :: us => by
    have ih := acF_zip (w := w) (ts := ts) (us := us)
    simp only [iv, List.map_cons, zipD, List.zipWith_cons_cons] at ih ⊢
    rw [ih]
    rfl
theorem loop_refuses {m p : Int} {n : Nat} {x0 x1 x2 x3 x4 x5 : Option FV} (hm : m ≤ 15) (hp : p ≤ 13) (hn : n ≤ 100) : ∀ (ws : List Int) (qs : List (List Int × Int)) (T : List Int) (y z v : Option FV), Pn p ws → (∀ q ∈ qs, Pn m q.1 ∧ q.1.length = n ∧ 0 ≤ q.2 ∧ q.2 < m) → T.length ≤ 1000 → bb y = false → bb z = false → bb v = false →
    ∃ y' z' v', fsGo (tgT2 [.inl 7, .inr [8, 9]]) lb_refuses_1 (zipD (iv ws) (qs.map lk)) [x0, x1, x2, x3, x4, x5, some (.d (.list (iv T))), y, z, v, none]
      = .ok .nx [x0, x1, x2, x3, x4, x5, some (.d (.list (iv (accL ws qs T)))), y', z', v', none]
  | [], qs, T, y, z, v, _, _, _, _, _, _ => ⟨y, z, v, by unfold accL; rfl⟩
  | w :: ws, [], T, y, z, v, _, _, _, _, _, _ => ⟨y, z, v, by unfold accL; rfl⟩
  | w :: ws, q :: qs, T, y, z, v, pw, hq, hT, hy, hz, hv => by
    obtain ⟨pq, lq, q0, q1⟩ := hq q List.mem_cons_self
    have hw := pw w List.mem_cons_self
    obtain ⟨y', z', v', e⟩ := loop_refuses (x0 := x0) (x1 := x1) (x2 := x2) (x3 := x3) (x4 := x4) (x5 := x5) hm hp hn ws qs (addL T w q) (some (.d (.int w))) (some (.d (.tuple (iv q.1)))) (some (.d (.int q.2))) (fun x h => pw x (List.mem_cons_of_mem _ h)) (fun q h => hq q (List.mem_cons_of_mem _ h)) (by unfold addL; rw [List.length_zipWith]; omega) rfl rfl rfl
    refine ⟨y', z', v', ?_⟩
    rw [show zipD (iv (w :: ws)) ((q :: qs).map lk) = .tuple [.int w, .tuple [.tuple (iv q.1), .int q.2]] :: zipD (iv ws) (qs.map lk) from rfl, show accL (w :: ws) (q :: qs) T = accL ws qs (addL T w q) from rfl]
    refine (go_nx ?_).trans e
    have iq : (iv q.1).length = q.1.length := List.length_map _
    have ga : FL.gAdd (.tuple (iv q.1)) (.tuple [.int q.2]) = some (.tuple (iv (q.1 ++ [q.2]))) := (gadd_tup (by rw [iq]; simp; omega)).trans (by simp [iv])
    have hlc : ∀ x6 x8 x9 : Option FV, fLcGo (tgT [10, 3]) fYes (fOp gAdd (fVar 10) (fOp gMul (fVar 7) (fVar 3))) [10, 3] (zipD (iv T) (iv (q.1 ++ [q.2]))) [] [x0, x1, x2, x3, x4, x5, x6, some (.d (.int w)), x8, x9, none]
        = .ok (iv (addL T w q)) [x0, x1, x2, x3, x4, x5, x6, some (.d (.int w)), x8, x9, none] := fun x6 x8 x9 => by
      rw [lc_all (acF w) (by have := zipD_len (iv T) (iv (q.1 ++ [q.2])); rw [show (iv T).length = T.length from List.length_map _] at this; omega), acF_zip]
      · rfl
      · intro d hd
        obtain ⟨t, u, ht, hu, rfl⟩ := zip_mem _ _ _ hd
        obtain ⟨i, hi, rfl⟩ := iv_mem ht
        obtain ⟨j, hj, rfl⟩ := iv_mem hu
        have hj2 : 0 ≤ j ∧ j < m := by
          rcases List.mem_append.mp hj with h | h
          · exact pq j h
          · rw [List.mem_singleton.mp h]; exact ⟨q0, q1⟩
        refine ⟨_, rfl, by walk_at "fl", ?_⟩
        repeat first | simp only [acF, g_add, g_mul (bits_small (v := w) (c := j) (by omega) (by omega))] | walk_at "fl"
    have gz : gZipLT [.list (iv T), .tuple (iv (q.1 ++ [q.2]))] = some (zipD (iv T) (iv (q.1 ++ [q.2]))) := rfl
    unfold lb_refuses_1
    repeat first | simp only [ap_tgT2, ap_set20, ap_set2n, ap_set2t, hy, hz, hv, ga, gz, hlc] | walk_at "fl"
theorem accL_len {n : Nat} : ∀ {ws : List Int} {qs : List (List Int × Int)} {T : List Int}, T.length = n + 1 → (∀ q ∈ qs, q.1.length = n) → (accL ws qs T).length = n + 1
  | [], _, T, h, _ => by unfold accL; exact h
  | _ :: _, [], T, h, _ => by unfold accL; exact h
  | w :: ws, q :: qs, T, h, hq => by
    rw [show accL (w :: ws) (q :: qs) T = accL ws qs (addL T w q) from rfl]
    refine accL_len ?_ fun q h => hq q (List.mem_cons_of_mem _ h)
    unfold addL
    rw [List.length_zipWith, h, List.length_append, hq q List.mem_cons_self]
    simp
end NA

namespace NA
open PySem PySem.Spec PyProof.Rows L2 DL FL RF
local macro_rules | `(tactic| walk_at "fl") => `(tactic| simp only [ap_var, ap_c, ap_un, ap_unV, ap_op, ap_opO, ap_fn, ap_nil, ap_cons, ap_tr, ap_b, ap_tand, ap_tor, ap_tnot, ap_and, ap_or, ap_not, ap_if, ap_chain, ap_tup, ap_lst, ap_lstO, ap_dictO, ap_frz, ap_sl, ap_no, ap_part, ap_mut, ap_call, ap_callK, ap_get, ap_dict, ap_isi, ap_rep, ap_listO, ap_seq, ap_iargs, ap_lc, ap_lcO, ap_yes, ap_sq, ap_ret, ap_drop, ap_sif, ap_nx, ap_bk, ap_ct, ap_asg, ap_setR, ap_runT, ap_bb0, ap_bbs, ap_bbn, ap_bbd, ap_bbc, ap_bbb, ap_sfrz, ap_setI, ap_setK, ap_for, ap_par, ap_asgT, ap_run, ap_see, ap_seeo, ap_seer, ap_getC, ap_setC, ap_sees0, ap_sees1, ap_parN, ap_view, ap_frza0, ap_frza, ap_frzc, ap_frzb, ap_frzd, ap_frzn, ap_call1, ap_c1o, ap_sar0, ap_sar1, ap_frv, ap_fro, ap_tgN, ap_tgT, fin_val, fin_own, fin_ref, fin_nx, bors_nil, bors_d, bors_b, R.bind_ok, ofO_some, ofB_some, ofOL_list, seeV, frV, vals, setAllF, wipeF, restF, callR, refsOf, argVs, putBack, setR2, setI, setK, ap_glt, ap_gle, ap_ggt, ap_gge, ap_gsub, ap_gadd, ap_gneg, ap_gix, ap_cutl, ap_cutt, ap_gtup, ap_glist, ap_glen, ap_gint, ap_gintb, ap_gabs, ap_gmax, ap_gmin, ap_isN, ap_notN, ap_geq, ap_gne, ap_eqi, ap_eqb, ap_eqs, ap_iol, ap_iot, ap_gtn, ap_gtb, ap_gti, ap_gtl, ap_gtt, ap_isn0, ap_isni, ap_isnl, ap_isnt, ap_revl, ap_revt, ap_enum, ap_zipl, ap_zipt, intsOf_map, boolsOf_map, ap_cellL, startF, List.map_cons, List.map_nil, List.length_cons, List.length_nil, List.replicate_succ, List.replicate_zero, List.cons_append, List.nil_append, List.append_nil, List.getElem?_cons_zero, List.getElem?_cons_succ, List.getElem?_nil, List.set_cons_zero, List.set_cons_succ, List.set_nil, Option.map_some, Option.map_none, Option.bind_some, Option.bind_none, Nat.reduceSub, Nat.reduceAdd, if_true, if_false, Bool.false_eq_true, reduceIte, true_and, and_true, Nat.sub_zero, Nat.zero_add, reduceCtorEq, List.nodup_nil, List.nodup_cons, List.not_mem_nil, not_false_eq_true, and_self, Bool.not_true, Bool.not_false, Bool.not_not, decide_true, decide_false, Nat.reduceLeDiff, atI0, atI1, req_true])
theorem repR_ok' {xs : List PyData} {k : Int} {ε : FSt} (h0 : 0 ≤ k) (h1 : k < 1000000) (h : xs.length * k.toNat ≤ 900000) : repR (some xs) (some (.int k)) ε = .ok (.own (.lst (List.replicate k.toNat xs).flatten)) ε := by
  unfold repR
  exact if_pos ⟨by omega, by omega, h⟩
theorem zerosR {g : Nat} (hR : g ≤ 3) (x0 x2 x3 x4 x5 x6 x7 x8 x9 x10 : Option FV) : frz (fRep (fLstO (faCons (fC (.int 0)) faNil)) (fOp gAdd (fOp gMul (fC (.int 2)) (fVar 1)) (fC (.int 2)))) [x0, some (.d (.int g)), x2, x3, x4, x5, x6, x7, x8, x9, x10]
    = .ok (.val (.list (iv (List.replicate (2 * g + 2) 0)))) [x0, some (.d (.int g)), x2, x3, x4, x5, x6, x7, x8, x9, x10] := by
  have g2 := g_mul (bits_small (v := 2) (c := (g : Int)) (by decide) (by omega))
  have e2 : 2 * (g : Int) + 2 = ((2 * g + 2 : Nat) : Int) := by omega
  have t1 : fLstO (faCons (fC (.int 0)) faNil) [x0, some (.d (.int g)), x2, x3, x4, x5, x6, x7, x8, x9, x10] = .ok (.own (.lst [.int 0])) [x0, some (.d (.int g)), x2, x3, x4, x5, x6, x7, x8, x9, x10] := by walk_at "fl"
  have t2 : fOp gAdd (fOp gMul (fC (.int 2)) (fVar 1)) (fC (.int 2)) [x0, some (.d (.int g)), x2, x3, x4, x5, x6, x7, x8, x9, x10] = .ok (.val (.int ((2 * g + 2 : Nat) : Int))) [x0, some (.d (.int g)), x2, x3, x4, x5, x6, x7, x8, x9, x10] := by
    repeat first | simp only [g2, g_add, e2] | walk_at "fl"
  rw [ap_frz, ap_rep, t1, R.bind_ok, t2, R.bind_ok]
  generalize 2 * g + 2 = k at *
  show R.bind (repR (some [.int 0]) (some (.int (k : Int))) _) _ = _
  rw [repR_ok' (by omega) (by omega) (by rw [Int.toNat_natCast, List.length_singleton]; omega), Int.toNat_natCast, flat_rep, rep_iv, R.bind_ok]
  rfl
theorem truesR {g : Nat} (hR : g ≤ 3) (x0 x2 x3 x4 x5 x6 x7 x8 x9 x10 : Option FV) : frz (fRep (fLstO (faCons (fC (.bool true)) faNil)) (fOp gAdd (fOp gMul (fC (.int 2)) (fVar 1)) (fC (.int 1)))) [x0, some (.d (.int g)), x2, x3, x4, x5, x6, x7, x8, x9, x10]
    = .ok (.val (.list (bv (List.replicate (2 * g + 1) true)))) [x0, some (.d (.int g)), x2, x3, x4, x5, x6, x7, x8, x9, x10] := by
  have g2 := g_mul (bits_small (v := 2) (c := (g : Int)) (by decide) (by omega))
  have e2 : 2 * (g : Int) + 1 = ((2 * g + 1 : Nat) : Int) := by omega
  have t1 : fLstO (faCons (fC (.bool true)) faNil) [x0, some (.d (.int g)), x2, x3, x4, x5, x6, x7, x8, x9, x10] = .ok (.own (.lst [.bool true])) [x0, some (.d (.int g)), x2, x3, x4, x5, x6, x7, x8, x9, x10] := by walk_at "fl"
  have t2 : fOp gAdd (fOp gMul (fC (.int 2)) (fVar 1)) (fC (.int 1)) [x0, some (.d (.int g)), x2, x3, x4, x5, x6, x7, x8, x9, x10] = .ok (.val (.int ((2 * g + 1 : Nat) : Int))) [x0, some (.d (.int g)), x2, x3, x4, x5, x6, x7, x8, x9, x10] := by
    repeat first | simp only [g2, g_add, e2] | walk_at "fl"
  rw [ap_frz, ap_rep, t1, R.bind_ok, t2, R.bind_ok]
  generalize 2 * g + 1 = k at *
  show R.bind (repR (some [.bool true]) (some (.int (k : Int))) _) _ = _
  rw [repR_ok' (by omega) (by omega) (by rw [Int.toNat_natCast, List.length_singleton]; omega), Int.toNat_natCast, flat_rep, R.bind_ok]
  show R.ok (FR.val (.list (List.replicate k (PyData.bool true)))) _ = _
  unfold bv
  rw [List.map_replicate]

theorem e_refuses {m : Int} {g : Nat} {qs : List (List Int × Int)} (hm : m ∈ mods) (hg : g ≤ 3) (h : Lks m (2 * g + 1) qs) (v : PyData) : F_refuses [.d (.int m), .d (.int g), .d (lks qs), .d v] = tell (.bool (refB m (2 * g + 1) qs v)) := by
  have e1 := e_need_looks hm hg h
  have mb := modsB hm
  have hb := e_has_prime hm
  have hlen : ((qs.map lk).length : Int) = (qs.length : Int) := by simp
  unfold F_refuses fb_refuses
  rcases (Bool.eq_false_or_eq_true (hasP m v)).symm with hv | hv
  · rw [refB_no hv]
    repeat first | simp only [e1, hb, hv] | walk_at "fl"
  obtain ⟨p, w, rfl⟩ : ∃ p w, v = .tuple [.int p, w] := by
    rcases two_cases v with ⟨x, w, rfl⟩ | ⟨_, h⟩
    · rcases int_cases x with ⟨i, rfl⟩ | ⟨_, h⟩
      · exact ⟨i, w, rfl⟩
      · rw [h] at hv; cases hv
    · rw [h] at hv; cases hv
  have hp : p ∈ primesOf m := by simpa [hasP] using hv
  have hq := e_is_rem (n := qs.length) (p := p) (by have := h.ln; omega) w
  rcases (Bool.eq_false_or_eq_true (isRem qs.length p w)).symm with hw | hw
  · rw [refB_no2 hw]
    rw [hw] at hq
    unfold lks at e1 ⊢
    repeat first | simp only [e1, hb, hv, hlen, hq] | walk_at "fl"
  obtain ⟨ws, rfl⟩ : ∃ ws, w = .tuple ws := by
    rcases tup_cases w with h | ⟨_, h⟩
    · exact h
    · rw [h] at hw; cases hw
  have hw2 := hw
  simp only [isRem, Bool.and_eq_true, decide_eq_true_eq] at hw2
  obtain ⟨hl, ha2⟩ := hw2
  obtain ⟨ew, pw⟩ := wtsI_ok ha2
  have p6 := primes_six p hp
  have pm := modsB (p6_mods p6)
  have pb : p ≤ 13 := by
    simp only [primes6, List.mem_cons, List.not_mem_nil, or_false] at p6
    omega
  have p0 : 0 < p := by omega
  have hB : refB m (2 * g + 1) qs (.tuple [.int p, .tuple ws]) = okL p (2 * g + 1) (accL (wtsI ws) qs (List.replicate (2 * g + 2) 0)) := by
    simp only [refB, hw, decide_eq_true hp, Bool.true_and]
  rw [hB]
  rw [hw] at hq
  generalize wtsI ws = w at *
  subst ew
  have al := accL_len (n := 2 * g + 1) (ws := w) (qs := qs) (T := List.replicate (2 * g + 2) 0) (by simp) fun q hq => (h.ok q hq).2.1
  obtain ⟨y, z, u, e⟩ := loop_refuses (m := m) (x0 := some (.d (.int m))) (x1 := some (.d (.int g))) (x2 := some (.d (lks qs))) (x3 := some (.d (.tuple [.int p, .tuple (iv w)]))) (x4 := some (.d (.int p))) (x5 := some (.d (.tuple (iv w)))) mb.2 pb (n := 2 * g + 1) (by omega) w qs (List.replicate (2 * g + 2) 0) none none none pw h.ok (by simp; omega) rfl rfl rfl
  have z3 := zerosR hg (some (.d (.int m))) (some (.d (lks qs))) (some (.d (.tuple [.int p, .tuple (iv w)]))) (some (.d (.int p))) (some (.d (.tuple (iv w)))) none none none none none
  generalize accL w qs (List.replicate (2 * g + 2) 0) = T at *
  have t3 := truesR hg (some (.d (.int m))) (some (.d (lks qs))) (some (.d (.tuple [.int p, .tuple (iv w)]))) (some (.d (.int p))) (some (.d (.tuple (iv w)))) (some (.d (.list (iv T)))) y z u none
  have hlc : ∀ x0 x1 x2 x3 x5 x6 x7 x8 x9 : Option FV, fLcGo (tgN 10) fYes (fOp gEq (fOp gMod (fVar 10) (fVar 4)) (fC (.int 0))) [10] (iv T) [] [x0, x1, x2, x3, some (.d (.int p)), x5, x6, x7, x8, x9, none]
      = .ok (bv (T.map fun t => decide (t % p = 0))) [x0, x1, x2, x3, some (.d (.int p)), x5, x6, x7, x8, x9, none] := fun x0 x1 x2 x3 x5 x6 x7 x8 x9 => by
    rw [lc_all (fun d => match d with
      | .int t => .bool (decide (t % p = 0))
      | _ => .none) (by rw [show (iv T).length = T.length from List.length_map _, al]; omega)]
    · unfold iv bv
      rw [List.map_map, List.map_map]
      rfl
    · intro d hd
      obtain ⟨t, _, rfl⟩ := iv_mem hd
      refine ⟨_, rfl, by walk_at "fl", ?_⟩
      repeat first | simp only [g_mod p0, eqP] | walk_at "fl"
  have ga : FL.gAdd (.list (bv (List.replicate (2 * g + 1) true))) (.list [.bool false]) = some (.list (bv (List.replicate (2 * g + 1) true ++ [false]))) := (gadd_lst (by simp [bv]; omega)).trans (by simp [bv])
  have gz : gZip [.tuple (iv w), .tuple (qs.map lk)] = some (zipD (iv w) (qs.map lk)) := rfl
  have okd : okL p (2 * g + 1) T = decide (T.map (fun t => decide (t % p = 0)) = List.replicate (2 * g + 1) true ++ [false]) := rfl
  rw [okd]
  generalize frz (fRep (fLstO (faCons (fC (.int 0)) faNil)) (fOp gAdd (fOp gMul (fC (.int 2)) (fVar 1)) (fC (.int 2)))) = G0 at z3 ⊢
  generalize frz (fRep (fLstO (faCons (fC (.bool true)) faNil)) (fOp gAdd (fOp gMul (fC (.int 2)) (fVar 1)) (fC (.int 1)))) = G1 at t3 ⊢
  generalize List.replicate (2 * g + 1) true = W at t3 ga ⊢
  generalize iv (List.replicate (2 * g + 2) 0) = Z at z3 e
  unfold lks at e1 z3 e t3 ⊢
  repeat first | simp only [e1, hb, hv, hlen, hq, z3, gz, e, hlc, t3, ga, eqL_bv] | walk_at "fl"
end NA

namespace NA
open PySem PySem.Spec PyProof.Rows L2 DL FL RF
local macro_rules | `(tactic| walk_at "fl") => `(tactic| simp only [ap_var, ap_c, ap_un, ap_unV, ap_op, ap_opO, ap_fn, ap_nil, ap_cons, ap_tr, ap_b, ap_tand, ap_tor, ap_tnot, ap_and, ap_or, ap_not, ap_if, ap_chain, ap_tup, ap_lst, ap_lstO, ap_dictO, ap_frz, ap_sl, ap_no, ap_part, ap_mut, ap_call, ap_callK, ap_get, ap_dict, ap_isi, ap_rep, ap_listO, ap_seq, ap_iargs, ap_lc, ap_lcO, ap_yes, ap_sq, ap_ret, ap_drop, ap_sif, ap_nx, ap_bk, ap_ct, ap_asg, ap_setR, ap_runT, ap_bb0, ap_bbs, ap_bbn, ap_bbd, ap_bbc, ap_bbb, ap_sfrz, ap_setI, ap_setK, ap_for, ap_par, ap_asgT, ap_run, ap_see, ap_seeo, ap_seer, ap_getC, ap_setC, ap_sees0, ap_sees1, ap_parN, ap_view, ap_frza0, ap_frza, ap_frzc, ap_frzb, ap_frzd, ap_frzn, ap_call1, ap_c1o, ap_sar0, ap_sar1, ap_frv, ap_fro, ap_tgN, ap_tgT, fin_val, fin_own, fin_ref, fin_nx, bors_nil, bors_d, bors_b, R.bind_ok, ofO_some, ofB_some, ofOL_list, seeV, frV, vals, setAllF, wipeF, restF, callR, refsOf, argVs, putBack, setR2, setI, setK, ap_glt, ap_gle, ap_ggt, ap_gge, ap_gsub, ap_gadd, ap_gneg, ap_gix, ap_cutl, ap_cutt, ap_gtup, ap_glist, ap_glen, ap_gint, ap_gintb, ap_gabs, ap_gmax, ap_gmin, ap_isN, ap_notN, ap_geq, ap_gne, ap_eqi, ap_eqb, ap_eqs, ap_iol, ap_iot, ap_gtn, ap_gtb, ap_gti, ap_gtl, ap_gtt, ap_isn0, ap_isni, ap_isnl, ap_isnt, ap_revl, ap_revt, ap_enum, ap_zipl, ap_zipt, intsOf_map, boolsOf_map, ap_cellL, startF, List.map_cons, List.map_nil, List.length_cons, List.length_nil, List.replicate_succ, List.replicate_zero, List.cons_append, List.nil_append, List.append_nil, List.getElem?_cons_zero, List.getElem?_cons_succ, List.getElem?_nil, List.set_cons_zero, List.set_cons_succ, List.set_nil, Option.map_some, Option.map_none, Option.bind_some, Option.bind_none, Nat.reduceSub, Nat.reduceAdd, if_true, if_false, Bool.false_eq_true, reduceIte, true_and, and_true, Nat.sub_zero, Nat.zero_add, reduceCtorEq, List.nodup_nil, List.nodup_cons, List.not_mem_nil, not_false_eq_true, and_self, Bool.not_true, Bool.not_false, Bool.not_not, decide_true, decide_false, Nat.reduceLeDiff, atI0, atI1, req_true])
theorem cg_take {r : List Int} {k : Nat} {j : Int} (h0 : 0 ≤ j) (h1 : j < k) : cg (r.take k) j = cg r j := by
  unfold cg
  rw [List.getElem?_take_of_lt (by omega)]
theorem clr_take {p a : Int} {h r : List Int} {k : Nat} (h0 : 0 ≤ a) (h1 : a < k) : clr p a (h.take k) (r.take k) = (clr p a h r).take k := by
  unfold clr
  rw [cg_take h0 h1, List.take_zipWith]
theorem scl_take {p a : Int} {h : List Int} {k : Nat} (h0 : 0 ≤ a) (h1 : a < k) : scl p a (h.take k) = (scl p a h).take k := by
  unfold scl
  rw [cg_take h0 h1, List.map_take]
theorem cut_take {a : Int} {k : Nat} (h0 : 0 ≤ a) (h1 : a < k) : ∀ {rows : List (List Int)}, cutR a (rows.map (List.take k)) = (cutR a rows).map fun q => (q.1.take k, q.2.map (List.take k))
  | [] => rfl
  | r :: rs => by
    have ih := cut_take h0 h1 (rows := rs)
    rw [List.map_cons]
    unfold cutR
    rw [cg_take h0 h1]
    split
    · rfl
    · rw [ih, Option.map_map, Option.map_map]
      rfl
theorem stp_take {p a : Int} {k : Nat} (h0 : 0 ≤ a) (h1 : a < k) {rows : List (List Int)} : stp p a (rows.map (List.take k)) = ((stp p a rows).1, (stp p a rows).2.map (List.take k)) := by
  unfold stp
  rw [cut_take h0 h1]
  cases cutR a rows with
  | none => rfl
  | some q =>
    show (1, _) = (1, _)
    congr 1
    rw [List.map_map, List.map_map]
    refine List.map_congr_left fun r _ => ?_
    show clr p a (scl p a (q.1.take k)) (r.take k) = (clr p a (scl p a q.1) r).take k
    rw [scl_take h0 h1, clr_take h0 h1]
theorem elim_take {p : Int} {k : Nat} : ∀ {as : List Int} {rows : List (List Int)}, (∀ a ∈ as, 0 ≤ a ∧ a < k) → elim p as (rows.map (List.take k)) = ((elim p as rows).1, (elim p as rows).2.map (List.take k))
  | [], rows, _ => rfl
  | a :: as, rows, h => by
    obtain ⟨h0, h1⟩ := h a List.mem_cons_self
    unfold elim
    rw [stp_take h0 h1, elim_take fun a h' => h a (List.mem_cons_of_mem _ h')]
theorem elim_app {p : Int} {bs : List Int} : ∀ {as : List Int} {rows : List (List Int)}, elim p (as ++ bs) rows = ((elim p as rows).1 + (elim p bs (elim p as rows).2).1, (elim p bs (elim p as rows).2).2)
  | [], rows => by
    show elim p bs rows = (0 + (elim p bs rows).1, (elim p bs rows).2)
    rw [Nat.zero_add]
  | a :: as, rows => by
    rw [List.cons_append, elim, elim_app, elim]
    simp only [Nat.add_assoc]
theorem cg_zip {f : Int → Int → Int} {r h : List Int} {j : Int} (h0 : 0 ≤ j) (hr : j < r.length) (hh : j < h.length) : cg (List.zipWith f r h) j = f (cg r j) (cg h j) := by
  unfold cg
  have a : j.toNat < r.length := by omega
  have b : j.toNat < h.length := by omega
  simp [List.getElem?_zipWith, List.getElem?_eq_getElem a, List.getElem?_eq_getElem b]
theorem cg_map {f : Int → Int} {r : List Int} {j : Int} (h0 : 0 ≤ j) (hr : j < r.length) : cg (r.map f) j = f (cg r j) := by
  unfold cg
  have a : j.toNat < r.length := by omega
  simp [List.getElem?_eq_getElem a]
structure Lin (p : Int) (w : Nat) (G : List Int → Int) : Prop where
  sub : ∀ (c : Int) (r h : List Int), r.length = w → h.length = w → Md p (G (List.zipWith (fun v x => (v - c * x) % p) r h)) (G r - c * G h)
  mul : ∀ (c : Int) (h : List Int), h.length = w → Md p (G (h.map fun v => v * c % p)) (c * G h)
theorem _root_.RF.Md.sub {m a b c d : Int} : Md m a b → Md m c d → Md m (a - c) (b - d) := fun ⟨k, h⟩ ⟨l, g⟩ => ⟨k - l, by rw [Int.mul_sub]; omega⟩
theorem Lin.stp {p a : Int} {w : Nat} {G : List Int → Int} (L : Lin p w G) (p0 : 0 < p) {rows : List (List Int)} (h : Rw p w rows) (z : ∀ r ∈ rows, Md p (G r) 0) : ∀ r ∈ (stp p a rows).2, Md p (G r) 0 := by
  unfold NA.stp
  split
  · exact z
  · next q e =>
    obtain ⟨_, b, c, d⟩ := cut_some (h := q.1) (t := q.2) e
    intro r hr
    obtain ⟨s, hs, rfl⟩ := List.mem_map.mp hr
    have lh := (h _ b).2
    have e1 := L.sub (cg s a) s (scl p a q.1) (h s (c s hs)).2 (scl_rw p0 lh).2
    have e2 := L.mul (backI (cg q.1 a) p) q.1 lh
    have e3 := (e2.trans ((z _ b).mul (c := backI (cg q.1 a) p))).mul (c := cg s a)
    have e4 := e1.trans ((z s (c s hs)).sub e3)
    simp only [Int.mul_zero, Int.sub_zero] at e4
    exact e4
theorem Lin.elim {p : Int} {w : Nat} {G : List Int → Int} (L : Lin p w G) (p0 : 0 < p) : ∀ {as : List Int} {rows : List (List Int)}, Rw p w rows → (∀ r ∈ rows, Md p (G r) 0) → ∀ r ∈ (elim p as rows).2, Md p (G r) 0
  | [], _, _, z => z
  | a :: as, rows, h, z => L.elim p0 (as := as) (stp_rw p0 h).1 (L.stp p0 h z)
theorem Lin.at {p : Int} {w : Nat} {j : Int} (h0 : 0 ≤ j) (h1 : j < w) : Lin p w fun r => cg r j := by
  refine ⟨fun c r h hr hh => ?_, fun c h hh => ?_⟩
  · show Md p (cg _ j) _
    rw [cg_zip h0 (by omega) (by omega)]
    exact Md.rest
  · show Md p (cg _ j) _
    rw [cg_map h0 (by omega), Int.mul_comm c]
    exact Md.rest
theorem Lin.less {p : Int} {w : Nat} {G H : List Int → Int} (a : Lin p w G) (b : Lin p w H) : Lin p w fun r => G r - H r := by
  refine ⟨fun c r h hr hh => ?_, fun c h hh => ?_⟩
  · have := (a.sub c r h hr hh).sub (b.sub c r h hr hh)
    refine this.trans (Md.of ?_)
    rw [Int.mul_sub]
    omega
  · have := (a.mul c h hh).sub (b.mul c h hh)
    refine this.trans (Md.of ?_)
    rw [Int.mul_sub]
theorem Lin.drop {p : Int} {w k : Nat} {G : List Int → Int} (a : Lin p w G) : Lin p (k + w) fun r => G (r.drop k) := by
  refine ⟨fun c r h hr hh => ?_, fun c h hh => ?_⟩
  · show Md p (G (List.drop k _)) _
    rw [List.drop_zipWith]
    exact a.sub c _ _ (by rw [List.length_drop]; omega) (by rw [List.length_drop]; omega)
  · show Md p (G (List.drop k _)) _
    rw [← List.map_drop]
    exact a.mul c _ (by rw [List.length_drop]; omega)
def dt : List Int → List Int → Int
  | x :: xs, r :: rs => x * r + dt xs rs
  | _, _ => 0
theorem dt_nil {xs : List Int} : dt xs [] = 0 := by cases xs <;> rfl
theorem dt_comm : ∀ {xs rs : List Int}, dt xs rs = dt rs xs
  | [], rs => by rw [dt_nil]; rfl
  | x :: xs, [] => rfl
  | x :: xs, r :: rs => by
    unfold dt
    rw [Int.mul_comm, dt_comm]
theorem dt_sub {p c : Int} : ∀ {x r h : List Int}, r.length = h.length → Md p (dt x (List.zipWith (fun v x => (v - c * x) % p) r h)) (dt x r - c * dt x h)
  | [], r, h, _ => Md.of (by simp [dt])
  | x :: xs, [], [], _ => Md.of (by simp [dt])
  | x :: xs, r :: rs, h :: hs, e => by
    have ih := dt_sub (p := p) (c := c) (x := xs) (r := rs) (h := hs) (by simpa using e)
    rw [List.zipWith_cons_cons]
    unfold dt
    refine ((Md.rest (m := p) (a := r - c * h)).mul (c := x) |>.add ih).trans (Md.of ?_)
    rw [Int.mul_sub, Int.mul_add, Int.mul_left_comm]
    omega
theorem dt_mul {p c : Int} : ∀ {x h : List Int}, Md p (dt x (h.map fun v => v * c % p)) (c * dt x h)
  | [], h => Md.of (by simp [dt])
  | x :: xs, [] => Md.of (by simp [dt])
  | x :: xs, h :: hs => by
    have ih := dt_mul (p := p) (c := c) (x := xs) (h := hs)
    rw [List.map_cons]
    unfold dt
    refine ((Md.rest (m := p) (a := h * c)).mul (c := x) |>.add ih).trans (Md.of ?_)
    rw [Int.mul_add, Int.mul_left_comm c x h, Int.mul_comm h c]
theorem Lin.dt {p : Int} {w : Nat} {x : List Int} : Lin p w fun r => dt x r := ⟨fun c r h hr hh => dt_sub (by omega), fun c h hh => dt_mul⟩
theorem Lin.dtr {p : Int} {w : Nat} {x : List Int} : Lin p w fun r => NA.dt r x := by
  have := Lin.dt (p := p) (w := w) (x := x)
  have e : (fun r => NA.dt r x) = fun r => NA.dt x r := funext fun r => dt_comm
  rw [e]
  exact this
theorem dt_set {v a : Int} (h0 : 0 ≤ a) : ∀ {x r : List Int}, a < x.length → a < r.length → dt (x.set a.toNat v) r = dt x r + (v - cg x a) * cg r a := by
  obtain ⟨k, rfl⟩ := Int.eq_ofNat_of_zero_le h0
  intro x r
  clear h0
  simp only [Int.toNat_natCast]
  unfold cg
  simp only [Int.toNat_natCast]
  induction x generalizing k r with
  | nil => intro h; simp at h; omega
  | cons y xs ih =>
    cases r with
    | nil => intro _ h; simp at h; omega
    | cons z rs =>
      intro h1 h2
      cases k with
      | zero =>
        simp only [List.set_cons_zero, List.getElem?_cons_zero, Option.getD_some]
        unfold dt
        rw [Int.sub_mul]
        omega
      | succ k =>
        simp only [List.set_cons_succ, List.getElem?_cons_succ]
        unfold dt
        have := ih (k := k) (r := rs) (by simp at h1; omega) (by simp at h2; omega)
        rw [this]
        omega
theorem dt_app {x a b : List Int} (h : x.length ≤ a.length) : dt x (a ++ b) = dt x a := by
  induction x generalizing a with
  | nil => rfl
  | cons y xs ih =>
    cases a with
    | nil => simp at h
    | cons z as =>
      rw [List.cons_append]
      unfold dt
      rw [ih (by simpa using h)]
theorem dt_zero {p : Int} : ∀ {x T : List Int}, (∀ j : Nat, j < x.length → Md p (cg T j) 0) → Md p (dt x T) 0
  | [], _, _ => Md.refl
  | _ :: _, [], _ => Md.refl
  | x :: xs, t :: T, h => by
    have h0 : Md p (cg (t :: T) ((0 : Nat) : Int)) 0 := h 0 (by simp)
    have h0 : Md p t 0 := h0
    have ih : Md p (dt xs T) 0 := dt_zero fun j hj => h (j + 1) (by simpa using hj)
    unfold dt
    have := (h0.mul (c := x)).add ih
    simpa using this
theorem dt_zeros {n : Nat} : ∀ {r : List Int}, dt (List.replicate n 0) r = 0 := by
  induction n with
  | zero => intro r; rfl
  | succ n ih =>
    intro r
    cases r with
    | nil => exact dt_nil
    | cons y r =>
      rw [List.replicate_succ]
      unfold dt
      rw [ih]
      omega
theorem scl_one {p a : Int} {h : List Int} (hp : p ∈ primes6) (a0 : 0 ≤ a) (a1 : a < h.length) (ph : Pn p h) (nz : cg h a ≠ 0) : cg (scl p a h) a = 1 := by
  have hb := ph _ (cg_mem a0 a1)
  unfold scl
  rw [cg_map a0 a1, Int.mul_comm]
  exact (back_ok hp (by omega) hb.2).2.2
theorem p6_pos {p : Int} (hp : p ∈ primes6) : 2 ≤ p := by
  simp only [primes6, List.mem_cons, List.not_mem_nil, or_false] at hp
  omega
theorem md_pn {p x : Int} (h0 : 0 ≤ x) (h1 : x < p) (h : Md p x 0) : x = 0 := h.eq h0 h1 (Int.le_refl _) (by omega)
theorem stp_zero {p a : Int} {w : Nat} {rows : List (List Int)} (hp : p ∈ primes6) (a0 : 0 ≤ a) (a1 : a < w) (h : Rw p w rows) : ∀ r ∈ (stp p a rows).2, cg r a = 0 := by
  unfold stp
  split
  · next e => exact cut_none e
  · next q e =>
    obtain ⟨nz, b, c, d⟩ := cut_some (h := q.1) (t := q.2) e
    intro r hr
    obtain ⟨s, hs, rfl⟩ := List.mem_map.mp hr
    have := p6_pos hp
    have lh := (h _ b).2
    have ls := (h s (c s hs)).2
    have lc := (scl_rw (p := p) (at0 := a) (by omega) lh).2
    unfold clr
    rw [cg_zip a0 (by omega) (by omega), scl_one hp a0 (by omega) (h _ b).1 nz, Int.mul_one, Int.sub_self, Int.zero_emod]
theorem zero_keep {p j : Int} {w : Nat} {as : List Int} {rows : List (List Int)} (p0 : 0 < p) (j0 : 0 ≤ j) (j1 : j < w) (h : Rw p w rows) (z : ∀ r ∈ rows, cg r j = 0) : ∀ r ∈ (elim p as rows).2, cg r j = 0 := fun r hr => by
  have := (Lin.at (p := p) j0 j1).elim p0 (as := as) h (fun r hr => Md.of (z r hr)) r hr
  obtain ⟨pr, lr⟩ := (elim_rw p0 h).1 r hr
  have hb := pr _ (cg_mem (a := r) j0 (by omega))
  exact md_pn hb.1 hb.2 this
theorem elim_zero {p : Int} {w : Nat} (hp : p ∈ primes6) : ∀ {as : List Int} {rows : List (List Int)}, Rw p w rows → (∀ a ∈ as, 0 ≤ a ∧ a < w) → ∀ a ∈ as, ∀ r ∈ (elim p as rows).2, cg r a = 0
  | [], _, _, _, a, h => by cases h
  | b :: as, rows, hr, hb, a, h => by
    have p0 : 0 < p := by have := p6_pos hp; omega
    obtain ⟨b0, b1⟩ := hb b List.mem_cons_self
    have h1 := (stp_rw (at0 := b) p0 hr).1
    rcases List.mem_cons.mp h with rfl | h
    · exact zero_keep (as := as) p0 b0 b1 h1 (stp_zero hp b0 b1 hr)
    · exact elim_zero hp (as := as) h1 (fun a h => hb a (List.mem_cons_of_mem _ h)) a h
def Sol (p : Int) (n : Nat) (x : List Int) (rows : List (List Int)) : Prop := ∀ r ∈ rows, Md p (cg r n - dt x r) 0
theorem cut_mem {a : Int} : ∀ {rows : List (List Int)} {h : List Int} {t : List (List Int)}, cutR a rows = some (h, t) → ∀ r ∈ rows, r = h ∨ r ∈ t
  | [], _, _, e => by cases e
  | s :: rs, h, t, e => by
    unfold cutR at e
    intro r hr
    split at e
    · cases e
      rcases List.mem_cons.mp hr with rfl | hr
      · exact .inl rfl
      · exact .inr hr
    · obtain ⟨q, e1, e2⟩ := Option.map_eq_some_iff.mp e
      cases e2
      rcases List.mem_cons.mp hr with rfl | hr
      · exact .inr List.mem_cons_self
      · rcases cut_mem (h := q.1) (t := q.2) e1 r hr with rfl | h
        · exact .inl rfl
        · exact .inr (List.mem_cons_of_mem _ h)
theorem sol_stp {p a : Int} {n w : Nat} {x : List Int} {rows : List (List Int)} (hp : p ∈ primes6) (a0 : 0 ≤ a) (a1 : a < n) (hn : n < w) (lx : x.length = n) (h : Rw p w rows) (s : Sol p n x (stp p a rows).2) : ∃ y, y.length = n ∧ Sol p n y rows := by
  have p2 := p6_pos hp
  have p0 : 0 < p := by omega
  have sz := stp_zero (a := a) hp a0 (by omega) h
  unfold stp at s sz
  cases e : cutR a rows with
  | none =>
    rw [e] at s
    exact ⟨x, lx, s⟩
  | some q =>
    rw [e] at s sz
    obtain ⟨nz, b, c, d⟩ := cut_some (h := q.1) (t := q.2) e
    obtain ⟨ph, lh⟩ := h _ b
    have lc := (scl_rw (p := p) (at0 := a) p0 lh).2
    have one := scl_one hp a0 (by omega) ph nz
    have hb := ph _ (cg_mem (a := q.1) a0 (by omega))
    have bk := back_ok hp (by omega) hb.2
    let v := cg (scl p a q.1) n - dt x (scl p a q.1) + cg x a
    let y := x.set a.toNat v
    have ly : y.length = n := by rw [List.length_set, lx]
    have LG : Lin p w fun r => cg r n - dt y r := (Lin.at (by omega) (by omega)).less Lin.dt
    have g1 : cg (scl p a q.1) n - dt y (scl p a q.1) = 0 := by
      rw [show dt y (scl p a q.1) = _ from dt_set a0 (by omega) (by omega), one]
      show cg (scl p a q.1) n - (dt x (scl p a q.1) + (cg (scl p a q.1) n - dt x (scl p a q.1) + cg x a - cg x a) * 1) = 0
      rw [Int.mul_one]
      omega
    have g2 : Md p (cg q.1 n - dt y q.1) 0 := by
      have m1 : Md p (cg (scl p a q.1) n - dt y (scl p a q.1)) (backI (cg q.1 a) p * (cg q.1 n - dt y q.1)) := LG.mul (backI (cg q.1 a) p) q.1 lh
      rw [g1] at m1
      have m2 := m1.symm.mul (c := cg q.1 a)
      rw [Int.mul_zero, ← Int.mul_assoc] at m2
      have m3 : Md p (cg q.1 a * backI (cg q.1 a) p) 1 := by
        have := Md.rest (m := p) (a := backI (cg q.1 a) p * cg q.1 a)
        rw [bk.2.2] at this
        rw [Int.mul_comm]
        exact this.symm
      have m4 := m3.mulr (c := cg q.1 n - dt y q.1)
      rw [Int.one_mul] at m4
      exact m4.symm.trans m2
    refine ⟨y, ly, fun r hr => ?_⟩
    rcases cut_mem (h := q.1) (t := q.2) e r hr with rfl | hr
    · exact g2
    · obtain ⟨pr, lr⟩ := h r (c r hr)
      have hm : clr p a (scl p a q.1) r ∈ q.2.map (clr p a (scl p a q.1)) := List.mem_map_of_mem hr
      have k1 := s _ hm
      have k2 := sz _ hm
      have k3 : dt y (clr p a (scl p a q.1) r) = dt x (clr p a (scl p a q.1) r) := by
        rw [show dt y (clr p a (scl p a q.1) r) = _ from dt_set a0 (by omega) (by unfold clr; rw [List.length_zipWith]; omega), k2, Int.mul_zero, Int.add_zero]
      have k4 : Md p (cg (clr p a (scl p a q.1) r) n - dt y (clr p a (scl p a q.1) r)) ((cg r n - dt y r) - cg r a * (cg (scl p a q.1) n - dt y (scl p a q.1))) := LG.sub (cg r a) r (scl p a q.1) lr lc
      rw [g1, Int.mul_zero, Int.sub_zero, k3] at k4
      exact k4.symm.trans k1
theorem sol_elim {p : Int} {n w : Nat} (hp : p ∈ primes6) (hn : n < w) : ∀ {as : List Int} {rows : List (List Int)} {x : List Int}, Rw p w rows → (∀ a ∈ as, 0 ≤ a ∧ a < n) → x.length = n → Sol p n x (elim p as rows).2 → ∃ y, y.length = n ∧ Sol p n y rows
  | [], rows, x, _, _, lx, s => ⟨x, lx, s⟩
  | a :: as, rows, x, h, ha, lx, s => by
    have p0 : 0 < p := by have := p6_pos hp; omega
    obtain ⟨a0, a1⟩ := ha a List.mem_cons_self
    obtain ⟨y, ly, sy⟩ := sol_elim hp hn (as := as) (stp_rw (at0 := a) p0 h).1 (fun a h => ha a (List.mem_cons_of_mem _ h)) lx s
    exact sol_stp hp a0 a1 hn ly h sy
end NA

namespace NA
open PySem PySem.Spec PyProof.Rows L2 DL FL RF
local macro_rules | `(tactic| walk_at "fl") => `(tactic| simp only [ap_var, ap_c, ap_un, ap_unV, ap_op, ap_opO, ap_fn, ap_nil, ap_cons, ap_tr, ap_b, ap_tand, ap_tor, ap_tnot, ap_and, ap_or, ap_not, ap_if, ap_chain, ap_tup, ap_lst, ap_lstO, ap_dictO, ap_frz, ap_sl, ap_no, ap_part, ap_mut, ap_call, ap_callK, ap_get, ap_dict, ap_isi, ap_rep, ap_listO, ap_seq, ap_iargs, ap_lc, ap_lcO, ap_yes, ap_sq, ap_ret, ap_drop, ap_sif, ap_nx, ap_bk, ap_ct, ap_asg, ap_setR, ap_runT, ap_bb0, ap_bbs, ap_bbn, ap_bbd, ap_bbc, ap_bbb, ap_sfrz, ap_setI, ap_setK, ap_for, ap_par, ap_asgT, ap_run, ap_see, ap_seeo, ap_seer, ap_getC, ap_setC, ap_sees0, ap_sees1, ap_parN, ap_view, ap_frza0, ap_frza, ap_frzc, ap_frzb, ap_frzd, ap_frzn, ap_call1, ap_c1o, ap_sar0, ap_sar1, ap_frv, ap_fro, ap_tgN, ap_tgT, fin_val, fin_own, fin_ref, fin_nx, bors_nil, bors_d, bors_b, R.bind_ok, ofO_some, ofB_some, ofOL_list, seeV, frV, vals, setAllF, wipeF, restF, callR, refsOf, argVs, putBack, setR2, setI, setK, ap_glt, ap_gle, ap_ggt, ap_gge, ap_gsub, ap_gadd, ap_gneg, ap_gix, ap_cutl, ap_cutt, ap_gtup, ap_glist, ap_glen, ap_gint, ap_gintb, ap_gabs, ap_gmax, ap_gmin, ap_isN, ap_notN, ap_geq, ap_gne, ap_eqi, ap_eqb, ap_eqs, ap_iol, ap_iot, ap_gtn, ap_gtb, ap_gti, ap_gtl, ap_gtt, ap_isn0, ap_isni, ap_isnl, ap_isnt, ap_revl, ap_revt, ap_enum, ap_zipl, ap_zipt, intsOf_map, boolsOf_map, ap_cellL, startF, List.map_cons, List.map_nil, List.length_cons, List.length_nil, List.replicate_succ, List.replicate_zero, List.cons_append, List.nil_append, List.append_nil, List.getElem?_cons_zero, List.getElem?_cons_succ, List.getElem?_nil, List.set_cons_zero, List.set_cons_succ, List.set_nil, Option.map_some, Option.map_none, Option.bind_some, Option.bind_none, Nat.reduceSub, Nat.reduceAdd, if_true, if_false, Bool.false_eq_true, reduceIte, true_and, and_true, Nat.sub_zero, Nat.zero_add, reduceCtorEq, List.nodup_nil, List.nodup_cons, List.not_mem_nil, not_false_eq_true, and_self, Bool.not_true, Bool.not_false, Bool.not_not, decide_true, decide_false, Nat.reduceLeDiff, atI0, atI1, req_true])
def col (qs : List (List Int × Int)) (j : Int) : List Int := qs.map fun q => cg (q.1 ++ [q.2]) j
def Goo (p : Int) (n : Nat) (ws : List Int) (qs : List (List Int × Int)) : Prop := (∀ j : Nat, j < n → Md p (dt ws (col qs j)) 0) ∧ ¬ Md p (dt ws (col qs n)) 0
theorem dt_unit0 {i : Nat} : ∀ {v : List Int} {s : Nat}, i < s → dt ((List.range' s v.length).map fun (j : Nat) => if (i : Int) = (j : Int) then 1 else 0) v = 0
  | [], s, _ => rfl
  | x :: v, s, h => by
    rw [List.length_cons, List.range'_succ, List.map_cons, if_neg (by omega)]
    unfold dt
    rw [dt_unit0 (v := v) (s := s + 1) (by omega)]
    omega
theorem dt_unit {i : Nat} : ∀ {v : List Int} {s : Nat}, s ≤ i → i < s + v.length → dt ((List.range' s v.length).map fun (j : Nat) => if (i : Int) = (j : Int) then 1 else 0) v = cg v ((i - s : Nat) : Int)
  | [], s, _, h => by simp at h; omega
  | x :: v, s, h, h1 => by
    rw [List.length_cons, List.range'_succ, List.map_cons]
    unfold dt
    by_cases e : i = s
    · subst e
      rw [if_pos rfl, dt_unit0 (by omega), Nat.sub_self]
      show 1 * x + 0 = x
      omega
    · rw [if_neg (by omega), dt_unit (v := v) (s := s + 1) (by omega) (by simp at h1; omega)]
      have : i - s = (i - (s + 1)) + 1 := by omega
      rw [this]
      have e2 : cg (x :: v) ((i - (s + 1) + 1 : Nat) : Int) = cg v ((i - (s + 1) : Nat) : Int) := by
        unfold cg
        rw [Int.toNat_natCast, Int.toNat_natCast, List.getElem?_cons_succ]
      rw [e2]
      omega
theorem srows_mem {p : Int} {L : Nat} : ∀ {qs : List (List Int × Int)} {k : Nat}, ∀ r ∈ srows p L k qs, ∃ (i : Nat) (q : List Int × Int), qs[i]? = some q ∧ r = srow p L (k + i) q
  | [], _, _, h => by cases h
  | q :: qs, k, r, h => by
    rcases List.mem_cons.mp h with rfl | h
    · exact ⟨0, q, rfl, rfl⟩
    · obtain ⟨i, s, h1, h2⟩ := srows_mem (qs := qs) (k := k + 1) r h
      exact ⟨i + 1, s, h1, by rw [h2, show k + 1 + i = k + (i + 1) by omega]⟩
theorem srow_mem {p : Int} {L : Nat} : ∀ {qs : List (List Int × Int)} {k : Nat}, ∀ q ∈ qs, ∃ i, srow p L i q ∈ srows p L k qs
  | [], _, _, h => by cases h
  | q :: qs, k, r, h => by
    rcases List.mem_cons.mp h with rfl | h
    · exact ⟨k, List.mem_cons_self⟩
    · obtain ⟨i, h⟩ := srow_mem (qs := qs) (k := k + 1) r h
      exact ⟨i, List.mem_cons_of_mem _ h⟩
theorem srow_cg {p : Int} {L k n : Nat} {q : List Int × Int} {j : Int} (h0 : 0 ≤ j) (h1 : j ≤ n) (hl : q.1.length = n) : cg (srow p L k q) j = cg (q.1 ++ [q.2]) j % p := by
  have e := cg_map (f := (· % p)) (r := q.1 ++ [q.2]) h0 (by rw [List.length_append, List.length_singleton]; omega)
  rw [← e]
  unfold srow cg
  rw [List.getElem?_append_left (by rw [List.length_map, List.length_append, List.length_singleton]; omega)]
theorem srow_drop {p : Int} {L k n : Nat} {q : List Int × Int} (hl : q.1.length = n) : (srow p L k q).drop (n + 1) = (List.range L).map fun (j : Nat) => if (k : Int) = (j : Int) then 1 else 0 := by
  unfold srow
  rw [List.drop_append_of_le_length (by rw [List.length_map, List.length_append, List.length_singleton]; omega), List.drop_eq_nil_of_le (by rw [List.length_map, List.length_append, List.length_singleton]; omega), List.nil_append]
theorem srows_lin {p : Int} {n : Nat} {qs : List (List Int × Int)} {j : Int} (h0 : 0 ≤ j) (h1 : j ≤ n) (hq : ∀ q ∈ qs, q.1.length = n) : ∀ r ∈ srows p qs.length 0 qs, Md p (cg r j - dt (r.drop (n + 1)) (col qs j)) 0 := fun r hr => by
  obtain ⟨i, q, hi, rfl⟩ := srows_mem r hr
  have lq := hq q (List.mem_of_getElem? hi)
  have li : i < qs.length := (List.getElem?_eq_some_iff.mp hi).1
  rw [Nat.zero_add, srow_drop lq, srow_cg h0 h1 lq]
  have lc : qs.length = (col qs j).length := by simp [col]
  have e := dt_unit (i := i) (v := col qs j) (s := 0) (by omega) (by omega)
  rw [← lc, ← List.range_eq_range', Nat.sub_zero] at e
  rw [e]
  have e2 : cg (col qs j) (i : Int) = cg (q.1 ++ [q.2]) j := by
    unfold col
    show (((qs.map _)[((i : Int)).toNat]?).getD 0) = _
    rw [Int.toNat_natCast, List.getElem?_map, hi]
    rfl
  rw [e2]
  have := (Md.rest (m := p) (a := cg (q.1 ++ [q.2]) j)).sub (Md.refl (a := cg (q.1 ++ [q.2]) j))
  rw [Int.sub_self] at this
  exact this
theorem upN_mem {n : Nat} : ∀ a ∈ upN n, 0 ≤ a ∧ a < n := fun a h => by
  unfold upN at h
  obtain ⟨i, hi, rfl⟩ := List.mem_map.mp h
  have := List.mem_range.mp hi
  omega
theorem upN_has {n j : Nat} (h : j < n) : (j : Int) ∈ upN n := List.mem_map.mpr ⟨j, List.mem_range.mpr h, rfl⟩
theorem upN_succ {n : Nat} : upN (n + 1) = upN n ++ [(n : Int)] := by
  unfold upN
  rw [List.range_succ, List.map_append]
  rfl
theorem bad_none {n : Nat} {rows : List (List Int)} : bad n rows = none ↔ ∀ r ∈ rows, cg r n = 0 := by
  unfold bad
  rw [List.find?_eq_none]
  constructor
  · intro h r hr
    simpa using h r hr
  · intro h r hr
    simpa using h r hr
theorem bad_some {n : Nat} {rows : List (List Int)} {r : List Int} (h : bad n rows = some r) : r ∈ rows ∧ cg r n ≠ 0 := by
  unfold bad at h
  refine ⟨List.mem_of_find?_eq_some h, ?_⟩
  have := List.find?_some h
  simpa using this
theorem rest_good {p : Int} {n : Nat} {qs : List (List Int × Int)} (hp : p ∈ primes6) (hq : ∀ q ∈ qs, q.1.length = n) : ∀ r ∈ restR p n qs, Pn p (r.drop (n + 1)) ∧ (r.drop (n + 1)).length = qs.length ∧ (cg r n ≠ 0 → Goo p n (r.drop (n + 1)) qs) := fun r hr => by
  have p2 := p6_pos hp
  have p0 : 0 < p := by omega
  have hR : Rw p (n + 1 + qs.length) (srows p qs.length 0 qs) := srows_rw p2 hq
  obtain ⟨pr, lr⟩ := (elim_rw p0 (as := upN n) hR).1 r hr
  have key : ∀ j : Nat, j ≤ n → Md p (cg r j) (dt (r.drop (n + 1)) (col qs j)) := fun j hj => by
    have L : Lin p (n + 1 + qs.length) fun r => cg r j - dt (r.drop (n + 1)) (col qs j) := (Lin.at (by omega) (by omega)).less (Lin.drop (k := n + 1) (G := fun ws => dt ws (col qs j)) Lin.dtr)
    have := L.elim p0 (as := upN n) hR (srows_lin (by omega) (by omega) hq) r hr
    have := this.add (Md.refl (m := p) (a := dt (r.drop (n + 1)) (col qs j)))
    rw [Int.sub_add_cancel, Int.zero_add] at this
    exact this
  refine ⟨fun x hx => pr x (List.mem_of_mem_drop hx), by rw [List.length_drop]; omega, fun nz => ⟨fun j hj => ?_, fun h => nz ?_⟩⟩
  · have z := elim_zero hp (as := upN n) hR (fun a h => by have := upN_mem a h; omega) (j : Int) (upN_has hj) r hr
    have k := key j (by omega)
    rw [z] at k
    exact k.symm
  · have hb := pr _ (cg_mem (a := r) (i := (n : Int)) (by omega) (by omega))
    exact md_pn hb.1 hb.2 ((key n (by omega)).trans h)
theorem ref_some {n : Nat} {qs : List (List Int × Int)} (hq : ∀ q ∈ qs, q.1.length = n) {p : Int} {ws : List Int} : ∀ {ps : List Int}, (∀ p ∈ ps, p ∈ primes6) → refL n qs ps = some (p, ws) → p ∈ ps ∧ Pn p ws ∧ ws.length = qs.length ∧ Goo p n ws qs
  | [], _, h => by cases h
  | q :: ps, hp, h => by
    unfold refL at h
    cases e : bad n (restR q n qs) with
    | none =>
      rw [e] at h
      obtain ⟨a, b⟩ := ref_some hq (ps := ps) (fun p h => hp p (List.mem_cons_of_mem _ h)) h
      exact ⟨List.mem_cons_of_mem _ a, b⟩
    | some r =>
      rw [e] at h
      cases h
      obtain ⟨hr, nz⟩ := bad_some e
      obtain ⟨a, b, c⟩ := rest_good (hp _ List.mem_cons_self) hq r hr
      exact ⟨List.mem_cons_self, a, b, c nz⟩
theorem ref_none {n : Nat} {qs : List (List Int × Int)} : ∀ {ps : List Int}, refL n qs ps = none ↔ ∀ p ∈ ps, bad n (restR p n qs) = none
  | [] => ⟨fun _ _ h => (by cases h), fun _ => rfl⟩
  | q :: ps => by
    unfold refL
    cases e : bad n (restR q n qs) with
    | none =>
      refine Iff.trans (ref_none (ps := ps)) ⟨fun h p hp => ?_, fun h p hp => h p (List.mem_cons_of_mem _ hp)⟩
      rcases List.mem_cons.mp hp with rfl | hp
      · exact e
      · exact h p hp
    | some r =>
      refine ⟨fun h => (by cases h), fun h => ?_⟩
      have := h q List.mem_cons_self
      rw [e] at this
      cases this
theorem acc_cg {n : Nat} {j : Int} (h0 : 0 ≤ j) (h1 : j ≤ n) : ∀ {ws : List Int} {qs : List (List Int × Int)} {T : List Int}, T.length = n + 1 → (∀ q ∈ qs, q.1.length = n) → cg (accL ws qs T) j = cg T j + dt ws (col qs j)
  | [], qs, T, _, _ => by
    show cg T j = cg T j + 0
    omega
  | w :: ws, [], T, _, _ => by
    show cg T j = cg T j + 0
    omega
  | w :: ws, q :: qs, T, hT, hq => by
    have lq := hq q List.mem_cons_self
    have lr : (q.1 ++ [q.2]).length = n + 1 := by rw [List.length_append, List.length_singleton, lq]
    show cg (accL ws qs (addL T w q)) j = cg T j + (w * cg (q.1 ++ [q.2]) j + dt ws (col qs j))
    rw [acc_cg h0 h1 (by unfold addL; rw [List.length_zipWith]; omega) fun q h => hq q (List.mem_cons_of_mem _ h)]
    unfold addL
    rw [cg_zip h0 (by omega) (by omega)]
    omega
theorem okL_iff {p : Int} {n : Nat} {T : List Int} (h : T.length = n + 1) : okL p n T = true ↔ (∀ j : Nat, j < n → Md p (cg T j) 0) ∧ ¬ Md p (cg T n) 0 := by
  have e : ∀ x : Int, Md p x 0 ↔ x % p = 0 := fun x => by
    unfold Md
    rw [Int.sub_zero]
    exact Int.dvd_iff_emod_eq_zero
  have g : ∀ j : Nat, j < n + 1 → (T.map fun t => decide (t % p = 0))[j]? = some (decide (cg T j % p = 0)) := fun j hj => by
    have hj2 : j < T.length := by omega
    rw [List.getElem?_map]
    unfold cg
    rw [Int.toNat_natCast, List.getElem?_eq_getElem hj2]
    rfl
  unfold okL
  rw [decide_eq_true_iff]
  constructor
  · intro a
    refine ⟨fun j hj => ?_, ?_⟩
    · have := g j (by omega)
      rw [a, List.getElem?_append_left (by rw [List.length_replicate]; exact hj), List.getElem?_replicate_of_lt hj] at this
      exact (e _).mpr (by simpa using this.symm)
    · have := g n (by omega)
      rw [a, List.getElem?_append_right (by rw [List.length_replicate]; omega), List.length_replicate, Nat.sub_self] at this
      exact fun h => by simpa [(e _).mp h] using this
  · rintro ⟨a, b⟩
    refine List.ext_getElem? fun j => ?_
    by_cases hj : j < n
    · rw [g j (by omega), List.getElem?_append_left (by rw [List.length_replicate]; exact hj), List.getElem?_replicate_of_lt hj, decide_eq_true ((e _).mp (a j hj))]
    · by_cases hj2 : j = n
      · subst hj2
        rw [g j (by omega), List.getElem?_append_right (by rw [List.length_replicate]; omega), List.length_replicate, Nat.sub_self, decide_eq_false fun h => b ((e _).mpr h)]
        rfl
      · rw [List.getElem?_eq_none (by rw [List.length_map]; omega), List.getElem?_eq_none (by rw [List.length_append, List.length_replicate, List.length_singleton]; omega)]
theorem cg_zeros {n : Nat} {j : Int} : cg (List.replicate n 0) j = 0 := by
  unfold cg
  by_cases h : j.toNat < n
  · rw [List.getElem?_replicate_of_lt h]
    rfl
  · rw [List.getElem?_eq_none (by rw [List.length_replicate]; omega)]
    rfl
theorem okL_goo {p : Int} {n : Nat} {ws : List Int} {qs : List (List Int × Int)} (hq : ∀ q ∈ qs, q.1.length = n) : okL p n (accL ws qs (List.replicate (n + 1) 0)) = true ↔ Goo p n ws qs := by
  have lT : (List.replicate (n + 1) (0 : Int)).length = n + 1 := List.length_replicate
  rw [okL_iff (accL_len lT hq)]
  have e : ∀ j : Nat, j ≤ n → cg (accL ws qs (List.replicate (n + 1) 0)) j = dt ws (col qs j) := fun j hj => by
    rw [acc_cg (by omega) (by omega) lT hq, cg_zeros]
    omega
  unfold Goo
  rw [e n (by omega)]
  exact and_congr_left' ⟨fun h j hj => e j (by omega) ▸ h j hj, fun h j hj => by rw [e j (by omega)]; exact h j hj⟩
theorem acc_sol {p : Int} {n : Nat} {x : List Int} (lx : x.length = n) : ∀ {ws : List Int} {qs : List (List Int × Int)} {T : List Int}, T.length = n + 1 → (∀ q ∈ qs, q.1.length = n) → (∀ q ∈ qs, Md p (cg (q.1 ++ [q.2]) n - dt x (q.1 ++ [q.2])) 0) → Md p (cg T n - dt x T) 0 → Md p (cg (accL ws qs T) n - dt x (accL ws qs T)) 0
  | [], qs, T, _, _, _, h => h
  | w :: ws, [], T, _, _, _, h => h
  | w :: ws, q :: qs, T, hT, hq, hs, h => by
    have lq := hq q List.mem_cons_self
    have lr : (q.1 ++ [q.2]).length = n + 1 := by rw [List.length_append, List.length_singleton, lq]
    have hq0 := hs q List.mem_cons_self
    show Md p (cg (accL ws qs (addL T w q)) n - dt x (accL ws qs (addL T w q))) 0
    refine acc_sol lx (by unfold addL; rw [List.length_zipWith]; omega) (fun q h => hq q (List.mem_cons_of_mem _ h)) (fun q h => hs q (List.mem_cons_of_mem _ h)) ?_
    have e : ∀ {x T U : List Int}, T.length = U.length → dt x (List.zipWith (fun t v => t + w * v) T U) = dt x T + w * dt x U := fun {x} => by
      induction x with
      | nil => intro T U _; simp [dt]
      | cons y x ih =>
        intro T U h
        cases T with
        | nil => cases U with
          | nil => simp [dt]
          | cons _ _ => cases h
        | cons t T => cases U with
          | nil => cases h
          | cons u U =>
            rw [List.zipWith_cons_cons]
            unfold dt
            rw [ih (by simpa using h), Int.mul_add, Int.mul_add, Int.mul_left_comm]
            omega
    unfold addL
    rw [cg_zip (by omega) (by omega) (by omega), e (by omega)]
    have := h.add (hq0.mul (c := w))
    rw [Int.mul_zero, Int.add_zero, Int.mul_sub] at this
    refine (Md.of ?_).trans this
    omega
theorem sol_no {p : Int} {n : Nat} {x ws : List Int} {qs : List (List Int × Int)} (lx : x.length = n) (hq : ∀ q ∈ qs, q.1.length = n) (hs : ∀ q ∈ qs, Md p (cg (q.1 ++ [q.2]) n - dt x (q.1 ++ [q.2])) 0) : ¬ Goo p n ws qs := fun g => by
  have lT : (List.replicate (n + 1) (0 : Int)).length = n + 1 := List.length_replicate
  obtain ⟨a, b⟩ := (okL_iff (accL_len lT hq)).mp ((okL_goo hq).mpr g)
  have s0 : Md p (cg (List.replicate (n + 1) 0) n - dt x (List.replicate (n + 1) 0)) 0 := by
    rw [cg_zeros, dt_comm, dt_zeros]
    exact Md.refl
  have s := acc_sol (ws := ws) lx lT hq hs s0
  have z := dt_zero (x := x) (T := accL ws qs (List.replicate (n + 1) 0)) (p := p) (by rw [lx]; exact a)
  have := s.add z
  rw [Int.sub_add_cancel, Int.zero_add] at this
  exact b this
theorem no_goo {p : Int} {n : Nat} {ws : List Int} {qs : List (List Int × Int)} (hp : p ∈ primes6) (hq : ∀ q ∈ qs, q.1.length = n) (h : bad n (restR p n qs) = none) : ¬ Goo p n ws qs := by
  have p2 := p6_pos hp
  have hR : Rw p (n + 1 + qs.length) (srows p qs.length 0 qs) := srows_rw p2 hq
  have z := bad_none.mp h
  obtain ⟨y, ly, sy⟩ := sol_elim (n := n) hp (by omega) (as := upN n) (x := List.replicate n 0) hR upN_mem List.length_replicate (fun r hr => by
    have := z r hr
    rw [this, dt_zeros]
    exact Md.refl)
  refine sol_no ly hq fun q h => ?_
  have lq := hq q h
  obtain ⟨i, hm⟩ := srow_mem (p := p) (L := qs.length) (k := 0) q h
  have := sy _ hm
  rw [srow_cg (by omega) (by omega) lq] at this
  unfold srow at this
  rw [dt_app (by rw [List.length_map, List.length_append, List.length_singleton]; omega)] at this
  have e : Md p (dt y ((q.1 ++ [q.2]).map (· % p))) (dt y (q.1 ++ [q.2])) := by
    have : ∀ {x T : List Int}, Md p (dt x (T.map (· % p))) (dt x T) := fun {x} => by
      induction x with
      | nil => intro T; exact Md.refl
      | cons y x ih =>
        intro T
        cases T with
        | nil => exact Md.refl
        | cons t T =>
          rw [List.map_cons]
          unfold dt
          exact (Md.rest.mul).add ih
    exact this
  exact ((Md.rest.sub e).symm).trans this
theorem goo_scaled {p s : Int} {n : Nat} {ws : List Int} {qs : List (List Int × Int)} (hp : p ∈ primes6) (s0 : 0 < s) (s1 : s < p) (g : Goo p n ws qs) : Goo p n (ws.map fun v => v * s % p) qs := by
  have key : ∀ j : Int, Md p (dt (ws.map fun v => v * s % p) (col qs j)) (s * dt ws (col qs j)) := fun j => (Lin.dtr (p := p) (w := ws.length) (x := col qs j)).mul s ws rfl
  refine ⟨fun j hj => ?_, fun h => g.2 ?_⟩
  · have := (key j).trans ((g.1 j hj).mul (c := s))
    rw [Int.mul_zero] at this
    exact this
  · have h1 := ((key n).symm.trans h).mul (c := backI s p)
    rw [Int.mul_zero, ← Int.mul_assoc] at h1
    have h2 := Md.rest (m := p) (a := backI s p * s)
    rw [(back_ok hp s0 s1).2.2] at h2
    have h3 := h2.mulr (c := dt ws (col qs n))
    rw [Int.one_mul] at h3
    exact h3.trans h1
theorem cut_zero {a : Int} : ∀ {rows : List (List Int)}, (∀ r ∈ rows, cg r a = 0) → cutR a rows = none
  | [], _ => rfl
  | r :: rs, h => by
    unfold cutR
    rw [if_neg (by rw [h r List.mem_cons_self]; simp), cut_zero fun r h' => h r (List.mem_cons_of_mem _ h')]
    rfl
theorem rank_bad {p : Int} {n : Nat} {qs : List (List Int × Int)} (hq : ∀ q ∈ qs, q.1.length = n) : (elim p (upN n) ((qs.map fun q => q.1 ++ [q.2]).map fun r => r.map fun x => x % p)).1 = (elim p (upN (n + 1)) ((qs.map fun q => q.1 ++ [q.2]).map fun r => r.map fun x => x % p)).1 ↔ bad n (restR p n qs) = none := by
  have e : ∀ {qs : List (List Int × Int)} {k L : Nat}, (∀ q ∈ qs, q.1.length = n) → ((qs.map fun q => q.1 ++ [q.2]).map fun r => r.map fun x => x % p) = (srows p L k qs).map (List.take (n + 1)) := fun {qs} => by
    induction qs with
    | nil => intro k L _; rfl
    | cons q qs ih =>
      intro k L h
      have lq := h q List.mem_cons_self
      rw [List.map_cons, List.map_cons, srows, List.map_cons, ← ih (k := k + 1) fun q h' => h q (List.mem_cons_of_mem _ h')]
      congr 1
      unfold srow
      rw [List.take_append_of_le_length (by rw [List.length_map, List.length_append, List.length_singleton]; omega), List.take_of_length_le (by rw [List.length_map, List.length_append, List.length_singleton]; omega)]
  rw [e (k := 0) (L := qs.length) hq, elim_take fun a h => by have := upN_mem a h; omega, elim_take fun a h => upN_mem a h, upN_succ, elim_app]
  show (elim p (upN n) (srows p qs.length 0 qs)).1 = (elim p (upN n) (srows p qs.length 0 qs)).1 + ((stp p n (restR p n qs)).1 + 0) ↔ _
  constructor
  · intro h
    rw [bad_none]
    have h0 : (stp p n (restR p n qs)).1 = 0 := by omega
    unfold stp at h0
    cases e : cutR (n : Int) (restR p n qs) with
    | none => exact cut_none e
    | some q =>
      rw [e] at h0
      simp at h0
  · intro h
    have := cut_zero (bad_none.mp h)
    have e2 : (stp p n (restR p n qs)).1 = 0 := by
      unfold stp
      rw [this]
    omega
end NA

namespace NA
open PySem PySem.Spec PyProof.Rows L2 DL FL RF
local macro_rules | `(tactic| walk_at "fl") => `(tactic| simp only [ap_var, ap_c, ap_un, ap_unV, ap_op, ap_opO, ap_fn, ap_nil, ap_cons, ap_tr, ap_b, ap_tand, ap_tor, ap_tnot, ap_and, ap_or, ap_not, ap_if, ap_chain, ap_tup, ap_lst, ap_lstO, ap_dictO, ap_frz, ap_sl, ap_no, ap_part, ap_mut, ap_call, ap_callK, ap_get, ap_dict, ap_isi, ap_rep, ap_listO, ap_seq, ap_iargs, ap_lc, ap_lcO, ap_yes, ap_sq, ap_ret, ap_drop, ap_sif, ap_nx, ap_bk, ap_ct, ap_asg, ap_setR, ap_runT, ap_bb0, ap_bbs, ap_bbn, ap_bbd, ap_bbc, ap_bbb, ap_sfrz, ap_setI, ap_setK, ap_for, ap_par, ap_asgT, ap_run, ap_see, ap_seeo, ap_seer, ap_getC, ap_setC, ap_sees0, ap_sees1, ap_parN, ap_view, ap_frza0, ap_frza, ap_frzc, ap_frzb, ap_frzd, ap_frzn, ap_call1, ap_c1o, ap_sar0, ap_sar1, ap_frv, ap_fro, ap_tgN, ap_tgT, fin_val, fin_own, fin_ref, fin_nx, bors_nil, bors_d, bors_b, R.bind_ok, ofO_some, ofB_some, ofOL_list, seeV, frV, vals, setAllF, wipeF, restF, callR, refsOf, argVs, putBack, setR2, setI, setK, ap_glt, ap_gle, ap_ggt, ap_gge, ap_gsub, ap_gadd, ap_gneg, ap_gix, ap_cutl, ap_cutt, ap_gtup, ap_glist, ap_glen, ap_gint, ap_gintb, ap_gabs, ap_gmax, ap_gmin, ap_isN, ap_notN, ap_geq, ap_gne, ap_eqi, ap_eqb, ap_eqs, ap_iol, ap_iot, ap_gtn, ap_gtb, ap_gti, ap_gtl, ap_gtt, ap_isn0, ap_isni, ap_isnl, ap_isnt, ap_revl, ap_revt, ap_enum, ap_zipl, ap_zipt, intsOf_map, boolsOf_map, ap_cellL, startF, List.map_cons, List.map_nil, List.length_cons, List.length_nil, List.replicate_succ, List.replicate_zero, List.cons_append, List.nil_append, List.append_nil, List.getElem?_cons_zero, List.getElem?_cons_succ, List.getElem?_nil, List.set_cons_zero, List.set_cons_succ, List.set_nil, Option.map_some, Option.map_none, Option.bind_some, Option.bind_none, Nat.reduceSub, Nat.reduceAdd, if_true, if_false, Bool.false_eq_true, reduceIte, true_and, and_true, Nat.sub_zero, Nat.zero_add, reduceCtorEq, List.nodup_nil, List.nodup_cons, List.not_mem_nil, not_false_eq_true, and_self, Bool.not_true, Bool.not_false, Bool.not_not, decide_true, decide_false, Nat.reduceLeDiff, atI0, atI1, req_true])
theorem lc_in {gf : GF} {fe : FT} {vs : List Nat} {ε : FSt} {ds : List PyData} {m : Int} (hl : ds.length ≤ 1000000)
    (h : ∀ d ∈ ds, ∃ v : Int, (0 ≤ v ∧ v < m) ∧ ∃ ε1, gf d (wipeF ε vs) = some ε1 ∧ restF ε ε1 vs = ε ∧ fe ε1 = .ok (.val (.int v)) ε1) :
    ∃ ws : List Int, fLcGo gf fYes fe vs ds [] ε = .ok (iv ws) ε ∧ Pn m ws ∧ ws.length = ds.length := by
  obtain ⟨ys, ε', e1, e2, rfl⟩ := lc_rel (gf := gf) (tt := fYes) (fe := fe) (vs := vs) (fun _ e => e = ε) (fun _ r => ∃ v : Int, r = PyData.int v ∧ 0 ≤ v ∧ v < m) 0 0 ds [] 0 ε (by simpa using hl) (by omega) rfl (by
    rintro d hd j e rfl hk
    obtain ⟨v, ⟨v0, v1⟩, ε1, a, b, c⟩ := h d hd
    exact ⟨ε1, ε1, .int v, ε1, a, rfl, c, ⟨v, rfl, v0, v1⟩, b⟩)
  obtain ⟨ws, rfl, pw, lw⟩ := paired_rg e2
  exact ⟨ws, by rw [e1, List.nil_append], pw, lw⟩
theorem mulT_zeros {C : Nat} (hC : C ≤ 1000) : gMulT (.tuple [.int 0]) (.int (C : Int)) = some (.tuple (iv (List.replicate C 0))) := by
  refine (req_pos ⟨?_, by omega, by omega, ?_⟩).trans ?_
  · rw [Int.toNat_natCast]
    congr 2
    unfold iv
    rw [List.map_replicate]
    have : ∀ k : Nat, (List.replicate k [PyData.int 0]).flatten = List.replicate k (PyData.int 0) := fun k => by
      induction k with
      | zero => rfl
      | succ k ih => rw [List.replicate_succ, List.flatten_cons, ih, List.replicate_succ]; rfl
    rw [this]
  · simp
  · first | (simp; done) | (simp; omega)
end NA

namespace NA
open PySem PySem.Spec PyProof.Rows L2 DL FL RF
local macro_rules | `(tactic| walk_at "fl") => `(tactic| simp only [ap_var, ap_c, ap_un, ap_unV, ap_op, ap_opO, ap_fn, ap_nil, ap_cons, ap_tr, ap_b, ap_tand, ap_tor, ap_tnot, ap_and, ap_or, ap_not, ap_if, ap_chain, ap_tup, ap_lst, ap_lstO, ap_dictO, ap_frz, ap_sl, ap_no, ap_part, ap_mut, ap_call, ap_callK, ap_get, ap_dict, ap_isi, ap_rep, ap_listO, ap_seq, ap_iargs, ap_lc, ap_lcO, ap_yes, ap_sq, ap_ret, ap_drop, ap_sif, ap_nx, ap_bk, ap_ct, ap_asg, ap_setR, ap_runT, ap_bb0, ap_bbs, ap_bbn, ap_bbd, ap_bbc, ap_bbb, ap_sfrz, ap_setI, ap_setK, ap_for, ap_par, ap_asgT, ap_run, ap_see, ap_seeo, ap_seer, ap_getC, ap_setC, ap_sees0, ap_sees1, ap_parN, ap_view, ap_frza0, ap_frza, ap_frzc, ap_frzb, ap_frzd, ap_frzn, ap_call1, ap_c1o, ap_sar0, ap_sar1, ap_frv, ap_fro, ap_tgN, ap_tgT, fin_val, fin_own, fin_ref, fin_nx, bors_nil, bors_d, bors_b, R.bind_ok, ofO_some, ofB_some, ofOL_list, seeV, frV, vals, setAllF, wipeF, restF, callR, refsOf, argVs, putBack, setR2, setI, setK, ap_glt, ap_gle, ap_ggt, ap_gge, ap_gsub, ap_gadd, ap_gneg, ap_gix, ap_cutl, ap_cutt, ap_gtup, ap_glist, ap_glen, ap_gint, ap_gintb, ap_gabs, ap_gmax, ap_gmin, ap_isN, ap_notN, ap_geq, ap_gne, ap_eqi, ap_eqb, ap_eqs, ap_iol, ap_iot, ap_gtn, ap_gtb, ap_gti, ap_gtl, ap_gtt, ap_isn0, ap_isni, ap_isnl, ap_isnt, ap_revl, ap_revt, ap_enum, ap_zipl, ap_zipt, intsOf_map, boolsOf_map, ap_cellL, startF, List.map_cons, List.map_nil, List.length_cons, List.length_nil, List.replicate_succ, List.replicate_zero, List.cons_append, List.nil_append, List.append_nil, List.getElem?_cons_zero, List.getElem?_cons_succ, List.getElem?_nil, List.set_cons_zero, List.set_cons_succ, List.set_nil, Option.map_some, Option.map_none, Option.bind_some, Option.bind_none, Nat.reduceSub, Nat.reduceAdd, if_true, if_false, Bool.false_eq_true, reduceIte, true_and, and_true, Nat.sub_zero, Nat.zero_add, reduceCtorEq, List.nodup_nil, List.nodup_cons, List.not_mem_nil, not_false_eq_true, and_self, Bool.not_true, Bool.not_false, Bool.not_not, decide_true, decide_false, Nat.reduceLeDiff, atI0, atI1, req_true])
def up14 (p : Int) : List Int := (List.range p.toNat).map fun (i : Nat) => (i : Int)
theorem up14_mem {p x : Int} : x ∈ up14 p ↔ 0 ≤ x ∧ x < p := by
  unfold up14
  rw [List.mem_map]
  constructor
  · rintro ⟨i, hi, rfl⟩
    have := List.mem_range.mp hi
    omega
  · intro h
    exact ⟨x.toNat, List.mem_range.mpr (by omega), by omega⟩
mutual
/-- leaves that are short, told by their size -/
def okI : PyData → Bool
  | .none => true
  | .bool _ => true
  | .int i => decide (i.natAbs < 10 ^ 63)
  | .str x => x.cps.toList.all fun c => decide (c < 16 ^ 8)
  | .list xs => okIA xs
  | .tuple xs => okIA xs
  | .dict kvs => okIK kvs
def okIA : List PyData → Bool
  | [] => true
  | x :: xs => okI x && okIA xs
def okIK : List (PyData × PyData) → Bool
  | [] => true
  | (k, v) :: r => okI k && okI v && okIK r
end
mutual
theorem okI_l : ∀ d : PyData, okI d = true → d.leavesShort 70 = true ∧ d.showable = true
  | .none, _ => by simp [PyData.leavesShort, PyData.showable]
  | .bool _, _ => by simp [PyData.leavesShort, PyData.showable]
  | .int i, h => by
    have h' : i.natAbs < 10 ^ 63 := by simpa only [okI, decide_eq_true_eq] using h
    refine ⟨?_, ?_⟩
    · have e : (PyData.shown (.int i)).length ≤ 70 := by
        show (Str.ofString (toString i)).length ≤ 70
        rw [PySem.ofString_length]
        exact Nat.le_trans (int_text_length_le10 (k := 63) (by decide) h') (by decide)
      simp only [PyData.leavesShort, decide_eq_true_eq]
      exact e
    · simp only [PyData.showable, decide_eq_true_eq]
      by_cases h0 : i.natAbs = 0
      · rw [h0]; decide
      · exact Nat.lt_of_lt_of_le ((Nat.log2_lt h0).mpr (Nat.lt_of_lt_of_le h' (by decide : 10 ^ 63 ≤ 2 ^ 210))) (by decide)
  | .str x, h => ⟨by simpa only [okI, PyData.leavesShort] using h, by simp [PyData.showable]⟩
  | .list xs, h => by
    have := okIA_l xs (by simpa only [okI] using h)
    simpa only [PyData.leavesShort, PyData.showable] using this
  | .tuple xs, h => by
    have := okIA_l xs (by simpa only [okI] using h)
    simpa only [PyData.leavesShort, PyData.showable] using this
  | .dict kvs, h => by
    have := okIK_l kvs (by simpa only [okI] using h)
    simpa only [PyData.leavesShort, PyData.showable] using this
theorem okIA_l : ∀ xs : List PyData, okIA xs = true → PyData.leavesShortAll 70 xs = true ∧ PyData.showableAll xs = true
  | [], _ => by simp [PyData.leavesShortAll, PyData.showableAll]
  | x :: xs, h => by
    simp only [okIA, Bool.and_eq_true] at h
    have a := okI_l x h.1
    have b := okIA_l xs h.2
    simp [PyData.leavesShortAll, PyData.showableAll, a, b]
theorem okIK_l : ∀ xs : List (PyData × PyData), okIK xs = true → PyData.leavesShortKv 70 xs = true ∧ PyData.showableKv xs = true
  | [], _ => by simp [PyData.leavesShortKv, PyData.showableKv]
  | (k, v) :: xs, h => by
    simp only [okIK, Bool.and_eq_true] at h
    have a := okI_l k h.1.1
    have a2 := okI_l v h.1.2
    have b := okIK_l xs h.2
    simp [PyData.leavesShortKv, PyData.showableKv, a, a2, b]
end
theorem okIA_all : ∀ {xs : List PyData}, (∀ x ∈ xs, okI x = true) → okIA xs = true
  | [], _ => rfl
  | x :: xs, h => by
    simp only [okIA, h x List.mem_cons_self, Bool.true_and]
    exact okIA_all fun y hy => h y (List.mem_cons_of_mem _ hy)
theorem nodict_all : ∀ {xs : List PyData}, (∀ x ∈ xs, x.hasDict = false) → PyData.hasDictAll xs = false
  | [], _ => by simp [PyData.hasDictAll]
  | x :: xs, h => by
    simp only [PyData.hasDictAll, h x List.mem_cons_self, Bool.false_or]
    exact nodict_all fun y hy => h y (List.mem_cons_of_mem _ hy)
structure Sh (k n : Nat) (d : PyData) : Prop where
  ok : okI d = true
  dp : d.depth ≤ k
  bk : d.bulk ≤ n
  nd : d.hasDict = false
theorem Sh.mono {k n k' n' : Nat} {d : PyData} (h : Sh k n d) (hk : k ≤ k') (hn : n ≤ n') : Sh k' n' d := ⟨h.ok, Nat.le_trans h.dp hk, Nat.le_trans h.bk hn, h.nd⟩
theorem shown_sz {n : Nat} {d : PyData} (h : okI d = true) (hb : d.bulk ≤ n) (hn : n ≤ 100000) : d.shown.length ≤ sizeLine := by
  have h1 := PyData.shown_le_bulk 70 (by decide) d (okI_l d h).1
  rw [sizeLine_eq]
  have h3 : (70 + 2) * d.bulk ≤ 72 * 100000 := Nat.mul_le_mul (by decide) (by omega)
  omega
theorem Sh.show {k n : Nat} {d : PyData} (h : Sh k n d) (hk : k ≤ 60) (hn : n ≤ 100000) : Show d :=
  ⟨(okI_l d h.ok).2, shown_sz h.ok h.bk hn, Nat.le_trans h.dp hk, fun z => by rw [h.nd] at z; cases z⟩
theorem Sh.int {i : Int} (h : i.natAbs < 10 ^ 63) : Sh 0 0 (.int i) := ⟨by simp only [okI, h, decide_true], by simp [PyData.depth], by simp [PyData.bulk], by simp [PyData.hasDict]⟩
theorem Sh.none : Sh 0 0 .none := ⟨rfl, by simp [PyData.depth], by simp [PyData.bulk], by simp [PyData.hasDict]⟩
theorem Sh.bool {b : Bool} : Sh 0 0 (.bool b) := ⟨rfl, by simp [PyData.depth], by simp [PyData.bulk], by simp [PyData.hasDict]⟩
theorem Sh.tup {k n : Nat} {xs : List PyData} (m : Nat) (h : ∀ x ∈ xs, Sh k n x) (hl : xs.length ≤ m) : Sh (k + 1) (m * (n + 1)) (.tuple xs) := by
  refine ⟨by simp only [okI]; exact okIA_all fun x hx => (h x hx).ok, ?_, ?_, by simp only [PyData.hasDict]; exact nodict_all fun x hx => (h x hx).nd⟩
  · simp only [PyData.depth]
    have := depthAll_le (k := k) fun x hx => (h x hx).dp
    omega
  · simp only [PyData.bulk]
    exact Nat.le_trans (bulkAll_le (n := n) fun x hx => (h x hx).bk) (Nat.mul_le_mul_right _ hl)
theorem Sh.lst {k n : Nat} {xs : List PyData} (m : Nat) (h : ∀ x ∈ xs, Sh k n x) (hl : xs.length ≤ m) : Sh (k + 1) (m * (n + 1)) (.list xs) := by
  refine ⟨by simp only [okI]; exact okIA_all fun x hx => (h x hx).ok, ?_, ?_, by simp only [PyData.hasDict]; exact nodict_all fun x hx => (h x hx).nd⟩
  · simp only [PyData.depth]
    have := depthAll_le (k := k) fun x hx => (h x hx).dp
    omega
  · simp only [PyData.bulk]
    exact Nat.le_trans (bulkAll_le (n := n) fun x hx => (h x hx).bk) (Nat.mul_le_mul_right _ hl)
theorem small63 {i : Int} (h : i.natAbs ≤ 100) : i.natAbs < 10 ^ 63 := Nat.lt_of_le_of_lt h (by decide)
theorem Sh.str {i : Int} (h0 : 0 ≤ i) (h1 : i ≤ 13) : Sh 0 5 (.str (toString i)) := by
  have key : ∀ j ∈ up14 14, okI (.str (toString j)) = true ∧ (PyData.str (toString j)).bulk ≤ 5 := by
    have e : up14 14 = [0, 1, 2, 3, 4, 5, 6, 7, 8, 9, 10, 11, 12, 13] := by decide
    rw [e]
    intro j hj
    simp only [List.mem_cons, List.not_mem_nil, or_false] at hj
    rcases hj with rfl | rfl | rfl | rfl | rfl | rfl | rfl | rfl | rfl | rfl | rfl | rfl | rfl | rfl <;> exact ⟨by decide +kernel, by simp only [PyData.bulk]; decide +kernel⟩
  obtain ⟨h2, h3⟩ := key i (up14_mem.mpr (by omega))
  exact ⟨h2, by simp [PyData.depth], h3, by simp [PyData.hasDict]⟩
theorem g_str {i : Int} (h0 : 0 ≤ i) (h1 : i ≤ 13) : gStr [.int i] = some (.str (toString i)) := req_pos (by
  by_cases h : i.natAbs = 0
  · rw [h]; decide
  · exact (Nat.log2_lt h).mpr (Nat.lt_of_lt_of_le (m := 16) (by omega) (Nat.le_trans (m := 2 ^ 4) (by decide) (Nat.pow_le_pow_right (by decide) (by decide)))))
theorem cut_iv {l : List Int} {lo hi : Option Int} : ∃ r : List Int, DL.cutD (iv l) lo hi = iv r ∧ r.Sublist l := by
  unfold DL.cutD iv
  rw [← List.map_drop, ← List.map_take]
  exact ⟨_, rfl, (List.take_sublist _ _).trans (List.drop_sublist _ _)⟩
theorem ints_sh {l : List Int} {p : Int} (h : Pn p l) (hp : p ≤ 13) : ∀ x ∈ iv l, Sh 1 20 x := fun x hx => by
  obtain ⟨i, hi, rfl⟩ := iv_mem hx
  have := h i hi
  exact (Sh.int (small63 (by omega))).mono (by decide) (by decide)
theorem wt_sh {xs : List PyData} (h : ∀ x ∈ xs, Sh 1 20 x) (hl : xs.length ≤ 130) : Sh 2 2730 (.tuple xs) := Sh.tup 130 h hl
theorem Sh.pair {k n : Nat} {x y : PyData} (h1 : Sh k n x) (h2 : Sh k n y) : Sh (k + 1) (2 * (n + 1)) (.tuple [x, y]) := Sh.tup 2 (fun z hz => by
  simp only [List.mem_cons, List.not_mem_nil, or_false] at hz
  rcases hz with rfl | rfl
  · exact h1
  · exact h2) (by simp)
end NA

namespace K25
open PySem PySem.Spec PyProof.Rows L2 DL FL
open NA

def g_refusal_looks_reach_modulus {α : Type} : List α → List α
  | [x0, x1, x2] => [x2, x1, x0]
  | l => l
theorem pm_refusal_looks_reach_modulus : Perm @g_refusal_looks_reach_modulus 3 := ⟨fun l h => match l, h with | [_, _, _], _ => rfl, fun {_ _ _ l r} h p => match l, r, h, p with | [_, _, _], [_, _, _], _, .cons h0 (.cons h1 (.cons h2 (.nil))) => (.cons h2 (.cons h1 (.cons h0 .nil)))⟩
def g_refuses_value_looks_reach_modulus {α : Type} : List α → List α
  | [x0, x1, x2, x3] => [x3, x2, x1, x0]
  | l => l
theorem pm_refuses_value_looks_reach_modulus : Perm @g_refuses_value_looks_reach_modulus 4 := ⟨fun l h => match l, h with | [_, _, _, _], _ => rfl, fun {_ _ _ l r} h p => match l, r, h, p with | [_, _, _, _], [_, _, _, _], _, .cons h0 (.cons h1 (.cons h2 (.cons h3 (.nil)))) => (.cons h3 (.cons h2 (.cons h1 (.cons h0 .nil))))⟩
noncomputable def fb__law_told : FS := (fsRet (fOp gMod (fFn gInt (faCons (fFn gSum (faCons (fLc (fiArgs gZipLT (faCons (fVar 0) (faCons (fVar 1) faNil))) (tgT [3, 4]) fYes (fOp gMul (fVar 3) (fVar 4)) [3, 4]) faNil)) faNil)) (fVar 2)))
noncomputable def F__law_told : Fn := runF 5 fb__law_told
noncomputable def fb__law_cells : FS := (fsSeq (fsAsg 4 (fLc (fiArgs gRange1 (faCons (fVar 2) faNil)) (tgN 5) fYes (fCall F__law_draw (faCons (fVar 0) (faCons (fVar 1) faNil))) [5]))
    (fsSeq (fsAsg 6 (fCall F__law_draw (faCons (fVar 0) (faCons (fC (.int 7)) faNil))))
    (fsSeq (fsIf (fB (fOp gEq (fVar 6) (fC (.int 0)))) (fsSeq (fsAsg 7 (fCall F__law_draw (faCons (fVar 0) (faCons (fVar 1) faNil))))
    (fsRet (fFn gTuple (faCons (fLc (fiSeq (fVar 4)) (tgN 8) fYes (fOp gMod (fFn gInt (faCons (fOp gMul (fVar 8) (fVar 7)) faNil)) (fVar 1)) [8]) faNil)))) fsNext)
    (fsSeq (fsIf (fB (fOp gEq (fVar 6) (fC (.int 1)))) (fsSeq (fsAsg 9 (fCall F__law_draw (faCons (fVar 0) (faCons (fVar 2) faNil))))
    (fsRet (fFn gTuple (faCons (fLc (fiArgs gEnum (faCons (fVar 4) faNil)) (tgT [5, 8]) fYes (fIf (fB (fOp gEq (fVar 5) (fVar 9))) (fVar 8) (fC (.int 0))) [5, 8]) faNil)))) fsNext)
    (fsSeq (fsIf (ftAnd (fB (fOp gEq (fVar 6) (fC (.int 2)))) (fB (fOp gGt (fFn gLen (faCons (fVar 3) faNil)) (fC (.int 0))))) (fsSeq (fsPar 10 11 (faCons (fOp gIx (fOp gIx (fVar 3) (fCall F__law_draw (faCons (fVar 0) (faCons (fFn gLen (faCons (fVar 3) faNil)) faNil)))) (fC (.int 0))) (faCons (fOp gIx (fOp gIx (fVar 3) (fCall F__law_draw (faCons (fVar 0) (faCons (fFn gLen (faCons (fVar 3) faNil)) faNil)))) (fC (.int 0))) faNil)))
    (fsRet (fFn gTuple (faCons (fLc (fiArgs gZip (faCons (fVar 10) (faCons (fVar 11) faNil))) (tgT [8, 12]) fYes (fOp gMod (fFn gInt (faCons (fOp gAdd (fVar 8) (fVar 12)) faNil)) (fVar 1)) [8, 12]) faNil)))) fsNext)
    (fsSeq (fsIf (ftAnd (fB (fOp gEq (fVar 6) (fC (.int 3)))) (fB (fOp gEq (fCall F__law_draw (faCons (fVar 0) (faCons (fC (.int 3)) faNil))) (fC (.int 0))))) (fsRet (fOp gMulT (fTup (faCons (fC (.int 0)) faNil)) (fVar 2))) fsNext)
    (fsRet (fFn gTuple (faCons (fVar 4) faNil)))))))))
noncomputable def F__law_cells : Fn := runF 13 fb__law_cells
noncomputable def lb__law_looks_1 : FS := (fsSeq (fsAsg 10 (fCall F__law_cells (faCons (fVar 0) (faCons (fVar 1) (faCons (fVar 4) (faCons (fVar 8) faNil))))))
    (fsSeq (fsAsg 11 (fCall F__law_told (faCons (fVar 5) (faCons (fVar 10) (faCons (fVar 1) faNil)))))
    (fsSeq (fsIf (fB (fOp gEq (fVar 7) (fC (.int 2)))) (fsAsg 11 (fCall F__law_draw (faCons (fVar 0) (faCons (fVar 1) faNil)))) fsNext)
    (fsDrop (fMut gAppend (fVar 8) (faCons (fTup (faCons (fVar 10) (faCons (fVar 11) faNil))) faNil))))))
noncomputable def fb__law_looks : FS := (fsSeq (fsAsg 4 (fOp gAdd (fOp gMul (fC (.int 2)) (fVar 2)) (fC (.int 1))))
    (fsSeq (fsAsg 5 (fLc (fiArgs gRange1 (faCons (fVar 4) faNil)) (tgN 6) fYes (fCall F__law_draw (faCons (fVar 0) (faCons (fVar 1) faNil))) [6]))
    (fsSeq (fsPar 7 8 (faCons (fCall F__law_draw (faCons (fVar 0) (faCons (fC (.int 3)) faNil))) (faCons (fLstO faNil) faNil)))
    (fsSeq (fsFor (fiArgs gRange1 (faCons (fCall F__law_draw (faCons (fVar 0) (faCons (fOp gAdd (fVar 3) (fC (.int 1))) faNil))) faNil)) (tgN 9) lb__law_looks_1)
    (fsSeq (fsIf (ftAnd (fB (fOp gEq (fVar 7) (fC (.int 1)))) (fB (fOp gNe (fVar 8) (fLst faNil)))) (fsSeq (fsAsg 12 (fCall F__law_draw (faCons (fVar 0) (faCons (fFn gLen (faCons (fVar 8) faNil)) faNil))))
    (fsSetI (fVar 8) (fVar 12) (fTup (faCons (fOp gIx (fOp gIx (fVar 8) (fVar 12)) (fC (.int 0))) (faCons (fOp gMod (fFn gInt (faCons (fOp gAdd (fOp gAdd (fOp gIx (fOp gIx (fVar 8) (fVar 12)) (fC (.int 1))) (fC (.int 1))) (fCall F__law_draw (faCons (fVar 0) (faCons (fOp gSub (fVar 1) (fC (.int 1))) faNil)))) faNil)) (fVar 1)) faNil))))) fsNext)
    (fsRet (fFn gTuple (faCons (fVar 8) faNil))))))))
noncomputable def F__law_looks : Fn := runF 13 fb__law_looks
noncomputable def fb__law_less : FS := (fsSeq (fsAsg 4 (fOp gIx (fVar 0) (fVar 2)))
    (fsRet (fLcO (fiArgs gZip (faCons (fVar 0) (faCons (fVar 1) faNil))) (tgT [5, 6]) fYes (fOp gMod (fFn gInt (faCons (fOp gSub (fVar 5) (fOp gMul (fVar 4) (fVar 6))) faNil)) (fVar 3)) [5, 6])))
noncomputable def F__law_less : Fn := runF 7 fb__law_less
noncomputable def lb__law_rank_1 : FS := (fsSeq (fsLcX 8 (faCons (fVar 3) faNil) (tgT [9, 5]) (fB (fOp gNe (fOp gIx (fVar 5) (fVar 7)) (fC (.int 0)))) (fVar 9) [9, 5])
    (fsIf (fB (fOp gNe (fVar 8) (fLst faNil))) (fsSeq (fsAsg 10 (fMut gPopAt (fVar 3) (faCons (fOp gIx (fVar 8) (fC (.int 0))) faNil)))
    (fsSeq (fsAsg 11 (fOp gIx (fLc (fiArgs gRange1 (faCons (fVar 2) faNil)) (tgN 12) (fB (fOp gEq (fOp gMod (fFn gInt (faCons (fOp gMul (fVar 12) (fOp gIx (fVar 10) (fVar 7))) faNil)) (fVar 2)) (fC (.int 1)))) (fVar 12) [12]) (fC (.int 0))))
    (fsSeq (fsAsg 10 (fLc (fiSeq (fVar 10)) (tgN 6) fYes (fOp gMod (fFn gInt (faCons (fOp gMul (fVar 6) (fVar 11)) faNil)) (fVar 2)) [6]))
    (fsSeq (fsSeq (fsFrz 3) (fsAsg 3 (fLcO (fiSeq (fVar 3)) (tgN 5) fYes (frz (fCall F__law_less (faCons (fVar 5) (faCons (fVar 10) (faCons (fVar 7) (faCons (fVar 2) faNil)))))) [5])))
    (fsAsg 4 (fOp gAdd (fVar 4) (fC (.int 1)))))))) fsNext))
noncomputable def fb__law_rank : FS := (fsSeq (fsPar 3 4 (faCons (fLcO (fiSeq (fVar 0)) (tgN 5) fYes (fLc (fiSeq (fVar 5)) (tgN 6) fYes (fOp gMod (fFn gInt (faCons (fVar 6) faNil)) (fVar 2)) [6]) [5]) (faCons (fC (.int 0)) faNil)))
    (fsSeq (fsFor (fiArgs gRange1 (faCons (fVar 1) faNil)) (tgN 7) lb__law_rank_1)
    (fsRet (fVar 4))))
noncomputable def F__law_rank : Fn := runF 13 fb__law_rank
noncomputable def lb__law_count_2 : FS := (fsAsg 4 (fOp gMul (fVar 4) (fVar 8)))
noncomputable def lb__law_count_1 : FS := (fsSeq (fsAsg 9 (fCall F__law_rank (faCons (fVar 5) (faCons (fVar 3) (faCons (fVar 8) faNil)))))
    (fsSeq (fsIf (fB (fOp gNe (fVar 9) (fCall F__law_rank (faCons (fVar 5) (faCons (fOp gAdd (fVar 3) (fC (.int 1))) (faCons (fVar 8) faNil)))))) (fsRet (fC (.int 0))) fsNext)
    (fsFor (fiArgs gRange1 (faCons (fOp gSub (fVar 3) (fVar 9)) faNil)) (tgN 10) lb__law_count_2)))
noncomputable def fb__law_count : FS := (fsSeq (fsPar 3 4 (faCons (fOp gAdd (fOp gMul (fC (.int 2)) (fVar 1)) (fC (.int 1))) (faCons (fC (.int 1)) faNil)))
    (fsSeq (fsAsg 5 (fLc (fiSeq (fVar 2)) (tgT [6, 7]) fYes (fOp gAdd (fFn gList (faCons (fVar 6) faNil)) (fLst (faCons (fVar 7) faNil))) [6, 7]))
    (fsSeq (fsFor (fiSeq (frz (fCall F__law_primes (faCons (fVar 0) faNil)))) (tgN 8) lb__law_count_1)
    (fsRet (fVar 4)))))
noncomputable def F__law_count : Fn := runF 11 fb__law_count
noncomputable def lb__law_sums_1 : FS := (fsAsg 4 (fLc (fiArgs gZipLT (faCons (fVar 4) (faCons (fOp gAdd (fVar 6) (fTup (faCons (fVar 7) faNil))) faNil))) (tgT [8, 9]) fYes (fOp gMod (fFn gInt (faCons (fOp gAdd (fVar 8) (fOp gMul (fVar 5) (fVar 9))) faNil)) (fVar 0)) [8, 9]))
noncomputable def fb__law_sums : FS := (fsSeq (fsAsg 4 (frz (fRep (fLstO (faCons (fC (.int 0)) faNil)) (fOp gAdd (fVar 3) (fC (.int 1))))))
    (fsSeq (fsFor (fiArgs gZip (faCons (fVar 1) (faCons (fVar 2) faNil))) (tgT2 [.inl 5, .inr [6, 7]]) lb__law_sums_1)
    (fsRet (fVar 4))))
noncomputable def F__law_sums : Fn := runF 10 fb__law_sums
noncomputable def lb__law_due_1 : FS := (fsIf (ftOr (ftNot (fTr (fIsi "int" (fVar 4)))) (ftOr (fTr (fIsi "bool" (fVar 4))) (ftOr (fB (fOp gLt (fVar 4) (fC (.int 0)))) (fB (fOp gGe (fVar 4) (fOp gIx (fVar 0) (fC (.int 0)))))))) (fsRet (fC (.bool false))) fsNext)
noncomputable def fb__law_due : FS := (fsSeq (fsIf (ftOr (ftNot (fTr (fIsi "tuple" (fVar 0)))) (fB (fOp gNe (fFn gLen (faCons (fVar 0) faNil)) (fC (.int 2))))) (fsRet (fC (.bool false))) fsNext)
    (fsSeq (fsIf (ftOr (ftNot (fTr (fIsi "int" (fOp gIx (fVar 0) (fC (.int 0)))))) (fTr (fIsi "bool" (fOp gIx (fVar 0) (fC (.int 0)))))) (fsRet (fC (.bool false))) fsNext)
    (fsSeq (fsIf (ftOr (fB (fOp gNin (fOp gIx (fVar 0) (fC (.int 0))) (frz (fCall F__law_primes (faCons (fVar 1) faNil))))) (ftOr (ftNot (fTr (fIsi "tuple" (fOp gIx (fVar 0) (fC (.int 1)))))) (fB (fOp gNe (fFn gLen (faCons (fOp gIx (fVar 0) (fC (.int 1))) faNil)) (fFn gLen (faCons (fVar 3) faNil)))))) (fsRet (fC (.bool false))) fsNext)
    (fsSeq (fsFor (fiSeq (fOp gIx (fVar 0) (fC (.int 1)))) (tgN 4) lb__law_due_1)
    (fsSeq (fsAsg 5 (fCall F__law_sums (faCons (fOp gIx (fVar 0) (fC (.int 0))) (faCons (fOp gIx (fVar 0) (fC (.int 1))) (faCons (fVar 3) (faCons (fOp gAdd (fOp gMul (fC (.int 2)) (fVar 2)) (fC (.int 1))) faNil))))))
    (fsRet (fAndV (fOp gEq (fSl (fVar 5) fNo (fPart (fUn gNeg (fC (.int 1))))) (frz (fRep (fLstO (faCons (fC (.int 0)) faNil)) (fOp gAdd (fOp gMul (fC (.int 2)) (fVar 2)) (fC (.int 1)))))) (fOp gNe (fOp gIx (fVar 5) (fUn gNeg (fC (.int 1)))) (fC (.int 0))))))))))
noncomputable def F__law_due : Fn := runF 6 fb__law_due
noncomputable def fb__law_judged : FS := (fsSeq (fsPar 4 5 (faCons (fCall F__law_due (faCons (fVar 0) (faCons (fVar 1) (faCons (fVar 2) (faCons (fVar 3) faNil))))) (faCons (fFn gRepr (faCons (fVar 0) faNil)) faNil)))
    (fsSeq (fsAsg 6 (fCall F_refuses (faCons (fVar 1) (faCons (fVar 2) (faCons (fVar 3) (faCons (fVar 0) faNil))))))
    (fsRet (fAndV (fIsi "bool" (fVar 6)) (fAndV (fOp gEq (fVar 6) (fVar 4)) (fOp gEq (fFn gRepr (faCons (fVar 0) faNil)) (fVar 5)))))))
noncomputable def F__law_judged : Fn := runF 7 fb__law_judged
noncomputable def fb__law_paper : FS := (fsRet (fTup (faCons (fVar 1) (faCons (fFn gTuple (faCons (fLc (fiArgs gRange1 (faCons (fVar 2) faNil)) (tgN 3) fYes (fCall F__law_draw (faCons (fVar 0) (faCons (fVar 1) faNil))) [3]) faNil)) faNil))))
noncomputable def F__law_paper : Fn := runF 4 fb__law_paper
noncomputable def fb__law_odd : FS := (fsSeq (fsAsgT [2, 3] (fVar 1))
    (fsSeq (fsAsg 4 (fLst (faCons (fC .none) (faCons (fLst faNil) (faCons (fTup faNil) (faCons (fC (.int 0)) (faCons (fC (.bool true)) (faCons (fC (.str "")) (faCons (fC (.dict [])) (faCons (fLst (faCons (fVar 2) (faCons (fVar 3) faNil))) (faCons (fTup (faCons (fVar 2) (faCons (fFn gList (faCons (fVar 3) faNil)) faNil))) (faCons (fTup (faCons (fVar 3) (faCons (fVar 2) faNil))) faNil))))))))))))
    (fsSeq (fsAsg 4 (fOp gAdd (fVar 4) (fLst (faCons (fTup (faCons (fVar 2) faNil)) (faCons (fTup (faCons (fVar 2) (faCons (fVar 3) (faCons (fC (.int 0)) faNil)))) (faCons (fTup (faCons (fVar 2) (faCons (fSl (fVar 3) fNo (fPart (fUn gNeg (fC (.int 1))))) faNil))) (faCons (fTup (faCons (fVar 2) (faCons (fOp gAdd (fVar 3) (fTup (faCons (fC (.int 0)) faNil))) faNil))) (faCons (fVar 3) faNil))))))))
    (fsSeq (fsAsg 4 (fOp gAdd (fVar 4) (fLst (faCons (fTup (faCons (fVar 2) (faCons (fTup faNil) faNil))) (faCons (fTup (faCons (fVar 2) (faCons (fOp gMulT (fTup (faCons (fC (.int 0)) faNil)) (fFn gLen (faCons (fVar 3) faNil))) faNil))) (faCons (fTup (faCons (fC (.int 0)) (faCons (fVar 3) faNil))) (faCons (fTup (faCons (fC (.int 1)) (faCons (fVar 3) faNil))) (faCons (fTup (faCons (fUn gNeg (fVar 2)) (faCons (fVar 3) faNil))) faNil))))))))
    (fsSeq (fsAsg 4 (fOp gAdd (fVar 4) (fLst (faCons (fTup (faCons (fFn gStr (faCons (fVar 2) faNil)) (faCons (fVar 3) faNil))) (faCons (fTup (faCons (fLst (faCons (fVar 2) faNil)) (faCons (fVar 3) faNil))) (faCons (fTup (faCons (fOp gMul (fVar 2) (fVar 2)) (faCons (fVar 3) faNil))) (faCons (fTup (faCons (fC (.bool true)) (faCons (fVar 3) faNil))) faNil)))))))
    (fsSeq (fsAsg 4 (fOp gAdd (fVar 4) (fLst (faCons (fTup (faCons (fVar 2) (faCons (fC .none) faNil))) faNil))))
    (fsSeq (fsIf (ftOr (fB (fOp gEq (fFn gLen (faCons (fVar 3) faNil)) (fC (.int 0)))) (fB (fOp gEq (fCall F__law_draw (faCons (fVar 0) (faCons (fC (.int 2)) faNil))) (fC (.int 0))))) (fsRet (fOp gIx (fVar 4) (fCall F__law_draw (faCons (fVar 0) (faCons (fFn gLen (faCons (fVar 4) faNil)) faNil))))) fsNext)
    (fsSeq (fsAsg 5 (fCall F__law_draw (faCons (fVar 0) (faCons (fFn gLen (faCons (fVar 3) faNil)) faNil))))
    (fsSeq (fsAsg 6 (fOp gIx (fVar 3) (fVar 5)))
    (fsSeq (fsAsg 7 (fLst (faCons (fOp gAdd (fVar 6) (fVar 2)) (faCons (fOp gSub (fVar 6) (fVar 2)) (faCons (fOp gMod (fFn gInt (faCons (fOp gAdd (fVar 6) (fC (.int 1))) faNil)) (fVar 2)) (faCons (fC .none) (faCons (fTup (faCons (fVar 6) faNil)) (faCons (fLst (faCons (fVar 6) faNil)) (faCons (fFn gStr (faCons (fVar 6) faNil)) (faCons (fC (.bool true)) (faCons (fC (.bool false)) faNil)))))))))))
    (fsRet (fTup (faCons (fVar 2) (faCons (fOp gAdd (fOp gAdd (fSl (fVar 3) fNo (fPart (fVar 5))) (fTup (faCons (fOp gIx (fVar 7) (fCall F__law_draw (faCons (fVar 0) (faCons (fFn gLen (faCons (fVar 7) faNil)) faNil)))) faNil))) (fSl (fVar 3) (fPart (fOp gAdd (fVar 5) (fC (.int 1)))) fNo)) faNil))))))))))))))
noncomputable def F__law_odd : Fn := runF 8 fb__law_odd
noncomputable def lb__law_papers_right_1 : FS := (fsIf (ftNot (fTr (fCall F__law_judged (faCons (fVar 15) (faCons (fVar 2) (faCons (fVar 3) (faCons (fVar 4) faNil))))))) (fsRet (fC (.bool false))) fsNext)
noncomputable def fb__law_papers_right : FS := (fsSeq (fsAsgT [5, 6] (fVar 1))
    (fsSeq (fsAsgT [7, 8] (fTup (faCons (fOp gAdd (fC (.int 1)) (fCall F__law_draw (faCons (fVar 0) (faCons (fOp gSub (fVar 5) (fC (.int 1))) faNil)))) (faCons (fCall F__law_paper (faCons (fVar 0) (faCons (fVar 5) (faCons (fFn gLen (faCons (fVar 4) faNil)) faNil)))) faNil))))
    (fsSeq (fsAsg 9 (fTup (faCons (fVar 5) (faCons (fFn gTuple (faCons (fLc (fiSeq (fVar 6)) (tgN 10) fYes (fOp gMod (fFn gInt (faCons (fOp gMul (fVar 10) (fVar 7)) faNil)) (fVar 5)) [10]) faNil)) faNil))))
    (fsSeq (fsAsg 11 (fTup (faCons (fVar 5) (faCons (fFn gTuple (faCons (fLc (fiArgs gZip (faCons (fVar 6) (faCons (fOp gIx (fVar 8) (fC (.int 1))) faNil))) (tgT [10, 12]) fYes (fOp gMod (fFn gInt (faCons (fOp gAdd (fVar 10) (fVar 12)) faNil)) (fVar 5)) [10, 12]) faNil)) faNil))))
    (fsSeq (fsAsg 13 (fTup (faCons (fOp gIx (frz (fCall F__law_primes (faCons (fVar 2) faNil))) (fCall F__law_draw (faCons (fVar 0) (faCons (fFn gLen (faCons (frz (fCall F__law_primes (faCons (fVar 2) faNil))) faNil)) faNil)))) (faCons (fVar 6) faNil))))
    (fsSeq (fsAsg 14 (fLst (faCons (fCall F__law_odd (faCons (fVar 0) (faCons (fVar 1) faNil))) (faCons (fCall F__law_odd (faCons (fVar 0) (faCons (fVar 1) faNil))) (faCons (fCall F__law_odd (faCons (fVar 0) (faCons (fVar 9) faNil))) faNil)))))
    (fsSeq (fsFor (fiSeq (fOp gAdd (fLst (faCons (fVar 1) (faCons (fVar 9) (faCons (fVar 11) (faCons (fVar 8) (faCons (fVar 13) faNil)))))) (fVar 14))) (tgN 15) lb__law_papers_right_1)
    (fsRet (fCall F__law_due (faCons (fVar 9) (faCons (fVar 2) (faCons (fVar 3) (faCons (fVar 4) faNil)))))))))))))
noncomputable def F__law_papers_right : Fn := runF 16 fb__law_papers_right
noncomputable def fb__law_torn : FS := (fsSeq (fsAsg 4 (frz (fCall F__law_primes (faCons (fVar 1) faNil))))
    (fsSeq (fsAsg 5 (fOp gIx (fVar 4) (fCall F__law_draw (faCons (fVar 0) (faCons (fFn gLen (faCons (fVar 4) faNil)) faNil)))))
    (fsSeq (fsPar 6 7 (faCons (fOp gIx (fVar 2) (fCall F__law_draw (faCons (fVar 0) (faCons (fFn gLen (faCons (fVar 2) faNil)) faNil)))) (faCons (fOp gIx (fVar 2) (fCall F__law_draw (faCons (fVar 0) (faCons (fFn gLen (faCons (fVar 2) faNil)) faNil)))) faNil)))
    (fsSeq (fsAsg 8 (fFn gTuple (faCons (fLc (fiArgs gZip (faCons (fOp gIx (fVar 6) (fC (.int 0))) (faCons (fOp gIx (fVar 7) (fC (.int 0))) faNil))) (tgT [9, 10]) fYes (fOp gMod (fFn gInt (faCons (fOp gAdd (fVar 9) (fVar 10)) faNil)) (fVar 1)) [9, 10]) faNil)))
    (fsSeq (fsAsg 11 (fOp gMul (fOp gFdiv (fVar 1) (fVar 5)) (fOp gAdd (fC (.int 1)) (fCall F__law_draw (faCons (fVar 0) (faCons (fOp gSub (fVar 5) (fC (.int 1))) faNil))))))
    (fsRet (fOp gAdd (fVar 2) (fTup (faCons (fTup (faCons (fVar 8) (faCons (fOp gMod (fFn gInt (faCons (fOp gAdd (fOp gAdd (fOp gIx (fVar 6) (fC (.int 1))) (fOp gIx (fVar 7) (fC (.int 1)))) (fVar 11)) faNil)) (fVar 1)) faNil))) faNil)))))))))
noncomputable def F__law_torn : Fn := runF 12 fb__law_torn
noncomputable def lb__law_right_1 : FS := (fsIf (fB (fOp gNotB (fCallK F_refuses g_refuses_value_looks_reach_modulus (faCons (fVar 7) (faCons (fVar 3) (faCons (fVar 2) (faCons (fVar 1) faNil))))) (fC (.bool false)))) (fsRet (fC (.bool false))) fsNext)
noncomputable def fb__law_right : FS := (fsSeq (fsPar 1 2 (faCons (fOp gIx (fLst (faCons (fC (.int 2)) (faCons (fC (.int 3)) (faCons (fC (.int 5)) (faCons (fC (.int 6)) (faCons (fC (.int 7)) (faCons (fC (.int 10)) (faCons (fC (.int 11)) (faCons (fC (.int 13)) (faCons (fC (.int 14)) (faCons (fC (.int 15)) faNil))))))))))) (fCall F__law_draw (faCons (fVar 0) (faCons (fC (.int 10)) faNil)))) (faCons (fCall F__law_draw (faCons (fVar 0) (faCons (fC (.int 4)) faNil))) faNil)))
    (fsSeq (fsAsg 3 (fCall F__law_looks (faCons (fVar 0) (faCons (fVar 1) (faCons (fVar 2) (faCons (fC (.int 11)) faNil))))))
    (fsSeq (fsIf (ftAnd (fB (fOp gNe (fVar 3) (fTup faNil))) (fB (fOp gEq (fCall F__law_draw (faCons (fVar 0) (faCons (fC (.int 3)) faNil))) (fC (.int 0))))) (fsAsg 3 (fCall F__law_torn (faCons (fVar 0) (faCons (fVar 1) (faCons (fVar 3) (faCons (fVar 2) faNil)))))) fsNext)
    (fsSeq (fsAsg 4 (fCall F_refusal (faCons (fVar 1) (faCons (fVar 2) (faCons (fVar 3) faNil)))))
    (fsSeq (fsAsg 5 (fOp gGt (fCall F__law_count (faCons (fVar 1) (faCons (fVar 2) (faCons (fVar 3) faNil)))) (fC (.int 0))))
    (fsSeq (fsIf (fB (fOp gNe (fOp gIsN (fVar 4) (fC .none)) (fVar 5))) (fsRet (fC (.bool false))) fsNext)
    (fsSeq (fsIf (fB (fOp gIsN (fVar 4) (fC .none))) (fsSeq (fsAsg 6 (fOp gIx (frz (fCall F__law_primes (faCons (fVar 1) faNil))) (fC (.int 0))))
    (fsSeq (fsFor (fiSeq (fLst (faCons (fC .none) (faCons (fCall F__law_paper (faCons (fVar 0) (faCons (fVar 6) (faCons (fFn gLen (faCons (fVar 3) faNil)) faNil)))) (faCons (fCall F__law_odd (faCons (fVar 0) (faCons (fCall F__law_paper (faCons (fVar 0) (faCons (fVar 6) (faCons (fFn gLen (faCons (fVar 3) faNil)) faNil)))) faNil))) faNil))))) (tgN 7) lb__law_right_1)
    (fsRet (fC (.bool true))))) fsNext)
    (fsSeq (fsIf (ftOr (ftNot (fTr (fCall F__law_due (faCons (fVar 4) (faCons (fVar 1) (faCons (fVar 2) (faCons (fVar 3) faNil))))))) (ftNot (fTr (fCall F__law_papers_right (faCons (fVar 0) (faCons (fVar 4) (faCons (fVar 1) (faCons (fVar 2) (faCons (fVar 3) faNil))))))))) (fsRet (fC (.bool false))) fsNext)
    (fsSeq (fsAsg 8 (fCallK F_refusal g_refusal_looks_reach_modulus (faCons (fVar 3) (faCons (fVar 2) (faCons (fVar 1) faNil)))))
    (fsRet (fAndV (fCall F__law_due (faCons (fVar 8) (faCons (fVar 1) (faCons (fVar 2) (faCons (fVar 3) faNil))))) (fOp gIsN (fCall F_refusal (faCons (fVar 1) (faCons (fVar 2) (faCons (fTup faNil) faNil)))) (fC .none)))))))))))))
noncomputable def F__law_right : Fn := runF 9 fb__law_right
noncomputable def lb_law_1 : FS := (fsIf (ftNot (fTr (fCall1O F__law_right (fCall F__law_pot (faCons (fVar 0) (faCons (fVar 1) faNil)))))) (fsRet (fC (.bool false))) fsNext)
noncomputable def fb_law : FS := (fsSeq (fsFor (fiArgs gRange1 (faCons (fFn gMax2 (faCons (fC (.int 1)) (faCons (fFn gMin2 (faCons (fC (.int 3)) (faCons (fFn gLen (faCons (fVar 0) faNil)) faNil))) faNil))) faNil)) (tgN 1) lb_law_1)
    (fsRet (fC (.bool true))))
noncomputable def F_law : Fn := runF 2 fb_law
end K25

namespace K25
open PySem hiding rule
open PySem.Spec PyProof.Rows L2 DL FL RF NA
local macro_rules | `(tactic| walk_at "fl") => `(tactic| simp only [ap_var, ap_c, ap_un, ap_unV, ap_op, ap_opO, ap_fn, ap_nil, ap_cons, ap_tr, ap_b, ap_tand, ap_tor, ap_tnot, ap_and, ap_or, ap_not, ap_if, ap_chain, ap_tup, ap_lst, ap_lstO, ap_dictO, ap_frz, ap_sl, ap_no, ap_part, ap_mut, ap_call, ap_callK, ap_get, ap_dict, ap_isi, ap_rep, ap_listO, ap_seq, ap_iargs, ap_lc, ap_lcO, ap_yes, ap_sq, ap_ret, ap_drop, ap_sif, ap_nx, ap_bk, ap_ct, ap_asg, ap_setR, ap_runT, ap_bb0, ap_bbs, ap_bbn, ap_bbd, ap_bbc, ap_bbb, ap_sfrz, ap_setI, ap_setK, ap_for, ap_par, ap_asgT, ap_run, ap_see, ap_seeo, ap_seer, ap_getC, ap_setC, ap_sees0, ap_sees1, ap_parN, ap_view, ap_frza0, ap_frza, ap_frzc, ap_frzb, ap_frzd, ap_frzn, ap_call1, ap_c1o, ap_sar0, ap_sar1, ap_frv, ap_fro, ap_tgN, ap_tgT, fin_val, fin_own, fin_ref, fin_nx, bors_nil, bors_d, bors_b, R.bind_ok, ofO_some, ofB_some, ofOL_list, seeV, frV, vals, setAllF, wipeF, restF, callR, refsOf, argVs, putBack, setR2, setI, setK, ap_glt, ap_gle, ap_ggt, ap_gge, ap_gsub, ap_gadd, ap_gneg, ap_gix, ap_cutl, ap_cutt, ap_gtup, ap_glist, ap_glen, ap_gint, ap_gintb, ap_gabs, ap_gmax, ap_gmin, ap_isN, ap_notN, ap_geq, ap_gne, ap_eqi, ap_eqb, ap_eqs, ap_iol, ap_iot, ap_gtn, ap_gtb, ap_gti, ap_gtl, ap_gtt, ap_isn0, ap_isni, ap_isnl, ap_isnt, ap_revl, ap_revt, ap_enum, ap_zipl, ap_zipt, intsOf_map, boolsOf_map, ap_cellL, startF, List.map_cons, List.map_nil, List.length_cons, List.length_nil, List.replicate_succ, List.replicate_zero, List.cons_append, List.nil_append, List.append_nil, List.getElem?_cons_zero, List.getElem?_cons_succ, List.getElem?_nil, List.set_cons_zero, List.set_cons_succ, List.set_nil, Option.map_some, Option.map_none, Option.bind_some, Option.bind_none, Nat.reduceSub, Nat.reduceAdd, if_true, if_false, Bool.false_eq_true, reduceIte, true_and, and_true, Nat.sub_zero, Nat.zero_add, reduceCtorEq, List.nodup_nil, List.nodup_cons, List.not_mem_nil, not_false_eq_true, and_self, Bool.not_true, Bool.not_false, Bool.not_not, decide_true, decide_false, Nat.reduceLeDiff, atI0, atI1, req_true])
def dot (ws us : List Int) : Int := (List.zipWith (fun x y => x * y) ws us).sum
def mulZ : PyData → PyData
  | .tuple [.int x, .int y] => .int (x * y)
  | _ => .none
theorem mulZ_zip : ∀ {ws us : List Int}, (zipD (iv ws) (iv us)).map mulZ = iv (List.zipWith (fun x y => x * y) ws us)
  | [], _ => by simp [iv, zipD]
  | _ :: _, [] => by simp [iv, zipD]
  | x :: ws, y :: us => by
    have ih := mulZ_zip (ws := ws) (us := us)
    simp only [iv, List.map_cons, zipD, List.zipWith_cons_cons] at ih ⊢
    rw [ih]
    rfl
theorem sum_dot {ws us : List Int} : gSum [.list (iv (List.zipWith (fun x y => x * y) ws us))] = some (.int (dot ws us)) := gSum_iv _
theorem e_told {m : Int} {a b : List Int} (hm : m ∈ mods) (pa : Pn m a) (pb : Pn m b) (la : a.length ≤ 1000) : F__law_told [.d (.list (iv a)), .d (.tuple (iv b)), .d (.int m)] = tell (.int (dot a b % m)) := by
  have mb := modsB hm
  have gz : gZipLT [.list (iv a), .tuple (iv b)] = some (zipD (iv a) (iv b)) := rfl
  unfold F__law_told fb__law_told
  repeat first | simp only [gz] | walk_at "fl"
  rw [lc_all mulZ (by have := zipD_len (iv a) (iv b); rw [show (iv a).length = a.length from List.length_map _] at this; omega), mulZ_zip]
  · repeat first | simp only [sum_dot, g_mod (show 0 < m by omega)] | walk_at "fl"
  · intro d hd
    obtain ⟨x, y, hx, hy, rfl⟩ := zip_mem _ _ _ hd
    obtain ⟨i, hi, rfl⟩ := iv_mem hx
    obtain ⟨j, hj, rfl⟩ := iv_mem hy
    have := pa i hi
    have := pb j hj
    refine ⟨_, rfl, by walk_at "fl", ?_⟩
    repeat first | simp only [mulZ, g_mul (bits_small (v := i) (c := j) (by omega) (by omega))] | walk_at "fl"
theorem e_less {p at0 : Int} {w : Nat} {h r : List Int} (hp : 2 ≤ p ∧ p ≤ 13) (a0 : 0 ≤ at0) (a1 : at0 < w) (hw : w ≤ 1000) (ph : Pn p h) (pr : Pn p r) (lr : r.length = w) :
    F__law_less [.d (ld r), .d (ld h), .d (.int at0), .d (.int p)] = .ok (.own (.lst (iv (clr p at0 h r)))) [] := by
  have p0 : 0 < p := by omega
  have ix := cg_ix (a := r) a0 (by omega)
  have hb := pr _ (cg_mem (a := r) a0 (by omega))
  unfold F__law_less fb__law_less NA.ld
  repeat first | simp only [ix] | walk_at "fl"
  rw [lc_all (clF p (cg r at0)) (by have := zipD_len (iv r) (iv h); rw [show (iv r).length = r.length from List.length_map _] at *; omega), clF_zip]
  · walk_at "fl"
    rfl
  · intro d hd
    obtain ⟨x, y, hx, hy, rfl⟩ := zip_mem _ _ _ hd
    obtain ⟨i, hi, rfl⟩ := iv_mem hx
    obtain ⟨j, hj, rfl⟩ := iv_mem hy
    have := ph j hj
    refine ⟨_, rfl, by walk_at "fl", ?_⟩
    repeat first | simp only [clF, g_mod p0, g_mul (bits_small (v := cg r at0) (c := j) (by omega) (by omega))] | walk_at "fl"
theorem enum_iv {P : PyData → Bool} : ∀ {rows : List (List Int)} {k : Nat}, ∃ l : List Int, ((enumD k (rows.map ld)).filter P).map fiA = iv l
  | [], k => ⟨[], rfl⟩
  | r :: rows, k => by
    obtain ⟨l, e⟩ := enum_iv (P := P) (rows := rows) (k := k + 1)
    rw [show enumD k ((r :: rows).map ld) = .tuple [.int k, ld r] :: enumD (k + 1) (rows.map ld) from rfl]
    by_cases h : P (.tuple [.int k, ld r]) = true
    · exact ⟨(k : Int) :: l, by rw [List.filter_cons_of_pos h, List.map_cons, e]; rfl⟩
    · exact ⟨l, by rw [List.filter_cons_of_neg h, e]⟩
end K25

namespace K25
open PySem hiding rule
open PySem.Spec PyProof.Rows L2 DL FL RF NA
local macro_rules | `(tactic| walk_at "fl") => `(tactic| simp only [ap_var, ap_c, ap_un, ap_unV, ap_op, ap_opO, ap_fn, ap_nil, ap_cons, ap_tr, ap_b, ap_tand, ap_tor, ap_tnot, ap_and, ap_or, ap_not, ap_if, ap_chain, ap_tup, ap_lst, ap_lstO, ap_dictO, ap_frz, ap_sl, ap_no, ap_part, ap_mut, ap_call, ap_callK, ap_get, ap_dict, ap_isi, ap_rep, ap_listO, ap_seq, ap_iargs, ap_lc, ap_lcO, ap_yes, ap_sq, ap_ret, ap_drop, ap_sif, ap_nx, ap_bk, ap_ct, ap_asg, ap_setR, ap_runT, ap_bb0, ap_bbs, ap_bbn, ap_bbd, ap_bbc, ap_bbb, ap_sfrz, ap_setI, ap_setK, ap_for, ap_par, ap_asgT, ap_run, ap_see, ap_seeo, ap_seer, ap_getC, ap_setC, ap_sees0, ap_sees1, ap_parN, ap_view, ap_frza0, ap_frza, ap_frzc, ap_frzb, ap_frzd, ap_frzn, ap_call1, ap_c1o, ap_sar0, ap_sar1, ap_frv, ap_fro, ap_tgN, ap_tgT, fin_val, fin_own, fin_ref, fin_nx, bors_nil, bors_d, bors_b, R.bind_ok, ofO_some, ofB_some, ofOL_list, seeV, frV, vals, setAllF, wipeF, restF, callR, refsOf, argVs, putBack, setR2, setI, setK, ap_glt, ap_gle, ap_ggt, ap_gge, ap_gsub, ap_gadd, ap_gneg, ap_gix, ap_cutl, ap_cutt, ap_gtup, ap_glist, ap_glen, ap_gint, ap_gintb, ap_gabs, ap_gmax, ap_gmin, ap_isN, ap_notN, ap_geq, ap_gne, ap_eqi, ap_eqb, ap_eqs, ap_iol, ap_iot, ap_gtn, ap_gtb, ap_gti, ap_gtl, ap_gtt, ap_isn0, ap_isni, ap_isnl, ap_isnt, ap_revl, ap_revt, ap_enum, ap_zipl, ap_zipt, intsOf_map, boolsOf_map, ap_cellL, startF, List.map_cons, List.map_nil, List.length_cons, List.length_nil, List.replicate_succ, List.replicate_zero, List.cons_append, List.nil_append, List.append_nil, List.getElem?_cons_zero, List.getElem?_cons_succ, List.getElem?_nil, List.set_cons_zero, List.set_cons_succ, List.set_nil, Option.map_some, Option.map_none, Option.bind_some, Option.bind_none, Nat.reduceSub, Nat.reduceAdd, if_true, if_false, Bool.false_eq_true, reduceIte, true_and, and_true, Nat.sub_zero, Nat.zero_add, reduceCtorEq, List.nodup_nil, List.nodup_cons, List.not_mem_nil, not_false_eq_true, and_self, Bool.not_true, Bool.not_false, Bool.not_not, decide_true, decide_false, Nat.reduceLeDiff, atI0, atI1, req_true])
theorem lcX_eq3 {rows : List (List Int)} {p a : Int} {w : Nat} {x0 x1 x4 x6 x8 x10 x11 x12 x5 : Option FV} (a0 : 0 ≤ a) (a1 : a < w) (hr : Rw p w rows) (lr : rows.length ≤ 1000) (b8 : bb x8 = false) :
    fsLcX 8 (faCons (fVar 3) faNil) (tgT [9, 5]) (fB (fOp gNe (fOp gIx (fVar 5) (fVar 7)) (fC (.int 0)))) (fVar 9) [9, 5] [x0, x1, some (.d (.int p)), some (.c (.lst (rows.map NA.ld))), x4, x5, x6, some (.d (.int a)), x8, none, x10, x11, x12]
      = .ok .nx [x0, x1, some (.d (.int p)), some (.c (.lst (rows.map NA.ld))), x4, x5, x6, some (.d (.int a)), some (.d (.list (((enumD 0 (rows.map NA.ld)).filter (nzA a)).map fiA))), none, x10, x11, x12] := by
  refine (lcX_eq (xs := rows.map NA.ld) (acc := ((enumD 0 (rows.map NA.ld)).filter (nzA a)).map fiA) (j := 3) (by walk_at "fl") rfl ?_).trans (by repeat first | simp only [b8] | walk_at "fl")
  rw [lc_some fiA (nzA a) (by rw [enumD_len, List.length_map]; omega)]
  intro d hd
  obtain ⟨i, x, _, _, hx, rfl⟩ := enumD_mem _ _ _ hd
  obtain ⟨r, hr', rfl⟩ := List.mem_map.mp (List.mem_of_getElem? hx)
  have lr := (hr r hr').2
  have ix := cg_ix (a := r) a0 (by omega)
  refine ⟨[x0, x1, some (.d (.int p)), some (.c (.lst (rows.map NA.ld))), x4, some (.d (NA.ld r)), x6, some (.d (.int a)), x8, some (.d (.int i)), x10, x11, x12], ?_, ?_, ?_, fun _ => ?_⟩
  · rw [ap_gfX rfl]
    walk_at "fl"
  · walk_at "fl"
  · rw [nzA_ld a0 (by omega)]
    unfold NA.ld
    repeat first | simp only [ix, eqP] | walk_at "fl"
  · walk_at "fl"
    rfl
end K25

namespace K25
open PySem hiding rule
open PySem.Spec PyProof.Rows L2 DL FL RF NA
local macro_rules | `(tactic| walk_at "fl") => `(tactic| simp only [ap_var, ap_c, ap_un, ap_unV, ap_op, ap_opO, ap_fn, ap_nil, ap_cons, ap_tr, ap_b, ap_tand, ap_tor, ap_tnot, ap_and, ap_or, ap_not, ap_if, ap_chain, ap_tup, ap_lst, ap_lstO, ap_dictO, ap_frz, ap_sl, ap_no, ap_part, ap_mut, ap_call, ap_callK, ap_get, ap_dict, ap_isi, ap_rep, ap_listO, ap_seq, ap_iargs, ap_lc, ap_lcO, ap_yes, ap_sq, ap_ret, ap_drop, ap_sif, ap_nx, ap_bk, ap_ct, ap_asg, ap_setR, ap_runT, ap_bb0, ap_bbs, ap_bbn, ap_bbd, ap_bbc, ap_bbb, ap_sfrz, ap_setI, ap_setK, ap_for, ap_par, ap_asgT, ap_run, ap_see, ap_seeo, ap_seer, ap_getC, ap_setC, ap_sees0, ap_sees1, ap_parN, ap_view, ap_frza0, ap_frza, ap_frzc, ap_frzb, ap_frzd, ap_frzn, ap_call1, ap_c1o, ap_sar0, ap_sar1, ap_frv, ap_fro, ap_tgN, ap_tgT, fin_val, fin_own, fin_ref, fin_nx, bors_nil, bors_d, bors_b, R.bind_ok, ofO_some, ofB_some, ofOL_list, seeV, frV, vals, setAllF, wipeF, restF, callR, refsOf, argVs, putBack, setR2, setI, setK, ap_glt, ap_gle, ap_ggt, ap_gge, ap_gsub, ap_gadd, ap_gneg, ap_gix, ap_cutl, ap_cutt, ap_gtup, ap_glist, ap_glen, ap_gint, ap_gintb, ap_gabs, ap_gmax, ap_gmin, ap_isN, ap_notN, ap_geq, ap_gne, ap_eqi, ap_eqb, ap_eqs, ap_iol, ap_iot, ap_gtn, ap_gtb, ap_gti, ap_gtl, ap_gtt, ap_isn0, ap_isni, ap_isnl, ap_isnt, ap_revl, ap_revt, ap_enum, ap_zipl, ap_zipt, intsOf_map, boolsOf_map, ap_cellL, startF, List.map_cons, List.map_nil, List.length_cons, List.length_nil, List.replicate_succ, List.replicate_zero, List.cons_append, List.nil_append, List.append_nil, List.getElem?_cons_zero, List.getElem?_cons_succ, List.getElem?_nil, List.set_cons_zero, List.set_cons_succ, List.set_nil, Option.map_some, Option.map_none, Option.bind_some, Option.bind_none, Nat.reduceSub, Nat.reduceAdd, if_true, if_false, Bool.false_eq_true, reduceIte, true_and, and_true, Nat.sub_zero, Nat.zero_add, reduceCtorEq, List.nodup_nil, List.nodup_cons, List.not_mem_nil, not_false_eq_true, and_self, Bool.not_true, Bool.not_false, Bool.not_not, decide_true, decide_false, Nat.reduceLeDiff, atI0, atI1, req_true])
theorem rank_turn {p a f : Int} {w : Nat} {rows : List (List Int)} {x0 x1 y7 y8 y10 y11 : Option FV} (hp : p ∈ primes6) (a0 : 0 ≤ a) (a1 : a < w) (hw : w ≤ 1000) (hr : Rw p w rows) (lr : rows.length ≤ 1000) (b7 : bb y7 = false) (b8 : bb y8 = false) (b10 : bb y10 = false) (b11 : bb y11 = false) :
    ∃ z8 z10 z11, runT (tgN 7) lb__law_rank_1 (.int a) [x0, x1, some (.d (.int p)), some (.c (.lst (rows.map NA.ld))), some (.d (.int f)), none, none, y7, y8, none, y10, y11, none]
      = .ok .nx [x0, x1, some (.d (.int p)), some (.c (.lst ((stp p a rows).2.map NA.ld))), some (.d (.int (f + ((stp p a rows).1 : Nat)))), none, none, some (.d (.int a)), z8, none, z10, z11, none] ∧ bb z8 = false ∧ bb z10 = false ∧ bb z11 = false := by
  have mb := modsB (p6_mods hp)
  have pb : 2 ≤ p ∧ p ≤ 13 := by
    simp only [primes6, List.mem_cons, List.not_mem_nil, or_false] at hp
    omega
  have p0 : 0 < p := by omega
  have ef := @lcX_eq3 rows p a w x0 x1 (some (.d (.int f))) none y8 y10 y11 none none a0 a1 hr lr b8
  obtain ⟨l, el⟩ := enum_iv (P := nzA a) (rows := rows) (k := 0)
  have eqn : eqP (.list (iv l)) (.list []) = some (decide (l = [])) := eqL_iv (b := [])
  cases ec : cutR a rows with
  | none =>
    have es : stp p a rows = (0, rows) := by unfold stp; rw [ec]
    rw [enum_none a0 a1 hr ec] at ef
    refine ⟨some (.d (.list [])), y10, y11, ?_, rfl, b10, b11⟩
    have e0 : eqP (.list []) (.list []) = some true := eqL_iv (a := []) (b := [])
    rw [es]
    unfold lb__law_rank_1
    repeat first | simp only [b7, ef, e0, Bool.not_true] | walk_at "fl"
    simp
  | some q =>
    obtain ⟨h, t⟩ := q
    have es : stp p a rows = (1, t.map (clr p a (scl p a h))) := by unfold stp; rw [ec]
    obtain ⟨nz, hm, ht, lt⟩ := cut_some ec
    obtain ⟨i, rest, f1, f2, f3⟩ := enum_some (k := 0) a0 a1 hr ec
    have ne : l ≠ [] := fun z => by rw [f1, z] at el; cases el
    rw [f1] at ef el
    rw [← el] at eqn
    rw [Nat.zero_add] at ef eqn
    have ed : decide (l = []) = false := decide_eq_false ne
    rw [ed] at eqn
    obtain ⟨ph, lh⟩ := hr h hm
    obtain ⟨ps, ls⟩ := scl_rw (p := p) (at0 := a) (h := h) p0 lh
    have ix := cg_ix (a := h) a0 (by omega)
    have hv := ph _ (cg_mem (a := h) a0 (by omega))
    have hv0 : 0 < cg h a := by omega
    have bo := back_ok hp hv0 hv.2
    have g1 : gPopAt (rows.map NA.ld) [.int (i : Int)] = some (NA.ld h, t.map NA.ld) := by
      have := g_popAt (xs := rows.map NA.ld) (y := NA.ld h) (i := i) (by rw [List.getElem?_map, f2]; rfl) (by rw [List.length_map]; omega)
      rw [this, ← f3, map_erase]
    have rg : gRange1 [.int p] = some (rangeD 0 p.toNat) := req_pos (by omega)
    have l1 : ∀ x3 x4 x8 x11 : Option FV, fLcGo (tgN 12) (fB (fOp gEq (fOp gMod (fFn gInt (faCons (fOp gMul (fVar 12) (fOp gIx (fVar 10) (fVar 7))) faNil)) (fVar 2)) (fC (.int 1)))) (fVar 12) [12] (rangeD 0 p.toNat) [] [x0, x1, some (.d (.int p)), x3, x4, none, none, some (.d (.int a)), x8, none, some (.d (NA.ld h)), x11, none]
        = .ok (iv (backL (cg h a) p)) [x0, x1, some (.d (.int p)), x3, x4, none, none, some (.d (.int a)), x8, none, some (.d (NA.ld h)), x11, none] := fun x3 x4 x8 x11 => by
      rw [lc_some (fun d => d) (fun d => match d with
        | .int k => decide (k * cg h a % p = 1)
        | _ => false) (by simp [rangeD]; omega)]
      · congr 1
        rw [List.map_id', rangeD0]
        unfold iv backL
        rw [List.filter_map]
        rfl
      · intro d hd
        rw [rangeD0] at hd
        obtain ⟨k, hk, rfl⟩ := iv_mem hd
        obtain ⟨j, hj, rfl⟩ := List.mem_map.mp hk
        have hj := List.mem_range.mp hj
        refine ⟨_, rfl, by walk_at "fl", ?_, fun _ => by walk_at "fl"⟩
        unfold NA.ld
        repeat first | simp only [ix, g_mul (i := (j : Int)) (j := cg h a) (bits_small (by omega) (by omega)), g_mod p0, eqP] | walk_at "fl"
    have l2 : ∀ x3 x4 x8 : Option FV, fLcGo (tgN 6) fYes (fOp gMod (fFn gInt (faCons (fOp gMul (fVar 6) (fVar 11)) faNil)) (fVar 2)) [6] (iv h) [] [x0, x1, some (.d (.int p)), x3, x4, none, none, some (.d (.int a)), x8, none, some (.d (NA.ld h)), some (.d (.int (backI (cg h a) p))), none]
        = .ok (iv (scl p a h)) [x0, x1, some (.d (.int p)), x3, x4, none, none, some (.d (.int a)), x8, none, some (.d (NA.ld h)), some (.d (.int (backI (cg h a) p))), none] := fun x3 x4 x8 => by
      rw [lc_all (fun d => match d with
        | .int v => .int (v * backI (cg h a) p % p)
        | _ => .none) (by rw [show (iv h).length = h.length from List.length_map _]; omega)]
      · unfold scl iv
        rw [List.map_map, List.map_map]
        rfl
      · intro d hd
        obtain ⟨v, hv', rfl⟩ := iv_mem hd
        have := ph v hv'
        refine ⟨_, rfl, by walk_at "fl", ?_⟩
        repeat first | simp only [g_mod p0, g_mul (bits_small (v := v) (c := backI (cg h a) p) (by omega) (by omega))] | walk_at "fl"
    have hst : Rw p w t := fun r h => hr r (ht r h)
    have l3 : ∀ x3 x4 x8 x11 : Option FV, fLcGo (tgN 5) fYes (frz (fCall F__law_less (faCons (fVar 5) (faCons (fVar 10) (faCons (fVar 7) (faCons (fVar 2) faNil)))))) [5] (t.map NA.ld) [] [x0, x1, some (.d (.int p)), x3, x4, none, none, some (.d (.int a)), x8, none, some (.d (NA.ld (scl p a h))), x11, none]
        = .ok ((t.map (clr p a (scl p a h))).map NA.ld) [x0, x1, some (.d (.int p)), x3, x4, none, none, some (.d (.int a)), x8, none, some (.d (NA.ld (scl p a h))), x11, none] := fun x3 x4 x8 x11 => by
      rw [lc_all (fun d => match d with
        | .list xs => NA.ld (clr p a (scl p a h) (xs.map fun d => match d with
          | .int v => v
          | _ => 0))
        | _ => .none) (by rw [List.length_map]; omega)]
      · congr 1
        rw [List.map_map, List.map_map]
        refine List.map_congr_left fun r _ => ?_
        show NA.ld (clr p a (scl p a h) ((iv r).map _)) = NA.ld _
        unfold iv
        rw [List.map_map]
        congr 2
        exact List.map_id _
      · intro d hd
        obtain ⟨r, hr', rfl⟩ := List.mem_map.mp hd
        obtain ⟨pr, lr⟩ := hst r hr'
        refine ⟨_, rfl, by walk_at "fl", ?_⟩
        repeat first | simp only [e_less pb a0 a1 hw ps pr lr] | walk_at "fl"
        congr 2
        show NA.ld _ = NA.ld (clr p a (scl p a h) ((iv r).map _))
        unfold iv
        rw [List.map_map]
        congr 2
        exact (List.map_id _).symm
    refine ⟨some (.d (.list (.int (i : Int) :: rest))), some (.d (NA.ld (scl p a h))), some (.d (.int (backI (cg h a) p))), ?_, rfl, rfl, rfl⟩
    rw [es]
    have hld : PyData.list (iv (scl p a h)) = NA.ld (scl p a h) := rfl
    have ild : itemsOf (NA.ld h) = some (iv h) := rfl
    have b0 := back_at hp hv0 hv.2
    unfold lb__law_rank_1
    repeat first | simp only [b7, b10, b11, ef, eqn, Bool.not_false, g1, rg, l1, b0, ild, l2, hld, l3, g_add] | walk_at "fl"
    simp
end K25

namespace K25
open PySem hiding rule
open PySem.Spec PyProof.Rows L2 DL FL RF NA
local macro_rules | `(tactic| walk_at "fl") => `(tactic| simp only [ap_var, ap_c, ap_un, ap_unV, ap_op, ap_opO, ap_fn, ap_nil, ap_cons, ap_tr, ap_b, ap_tand, ap_tor, ap_tnot, ap_and, ap_or, ap_not, ap_if, ap_chain, ap_tup, ap_lst, ap_lstO, ap_dictO, ap_frz, ap_sl, ap_no, ap_part, ap_mut, ap_call, ap_callK, ap_get, ap_dict, ap_isi, ap_rep, ap_listO, ap_seq, ap_iargs, ap_lc, ap_lcO, ap_yes, ap_sq, ap_ret, ap_drop, ap_sif, ap_nx, ap_bk, ap_ct, ap_asg, ap_setR, ap_runT, ap_bb0, ap_bbs, ap_bbn, ap_bbd, ap_bbc, ap_bbb, ap_sfrz, ap_setI, ap_setK, ap_for, ap_par, ap_asgT, ap_run, ap_see, ap_seeo, ap_seer, ap_getC, ap_setC, ap_sees0, ap_sees1, ap_parN, ap_view, ap_frza0, ap_frza, ap_frzc, ap_frzb, ap_frzd, ap_frzn, ap_call1, ap_c1o, ap_sar0, ap_sar1, ap_frv, ap_fro, ap_tgN, ap_tgT, fin_val, fin_own, fin_ref, fin_nx, bors_nil, bors_d, bors_b, R.bind_ok, ofO_some, ofB_some, ofOL_list, seeV, frV, vals, setAllF, wipeF, restF, callR, refsOf, argVs, putBack, setR2, setI, setK, ap_glt, ap_gle, ap_ggt, ap_gge, ap_gsub, ap_gadd, ap_gneg, ap_gix, ap_cutl, ap_cutt, ap_gtup, ap_glist, ap_glen, ap_gint, ap_gintb, ap_gabs, ap_gmax, ap_gmin, ap_isN, ap_notN, ap_geq, ap_gne, ap_eqi, ap_eqb, ap_eqs, ap_iol, ap_iot, ap_gtn, ap_gtb, ap_gti, ap_gtl, ap_gtt, ap_isn0, ap_isni, ap_isnl, ap_isnt, ap_revl, ap_revt, ap_enum, ap_zipl, ap_zipt, intsOf_map, boolsOf_map, ap_cellL, startF, List.map_cons, List.map_nil, List.length_cons, List.length_nil, List.replicate_succ, List.replicate_zero, List.cons_append, List.nil_append, List.append_nil, List.getElem?_cons_zero, List.getElem?_cons_succ, List.getElem?_nil, List.set_cons_zero, List.set_cons_succ, List.set_nil, Option.map_some, Option.map_none, Option.bind_some, Option.bind_none, Nat.reduceSub, Nat.reduceAdd, if_true, if_false, Bool.false_eq_true, reduceIte, true_and, and_true, Nat.sub_zero, Nat.zero_add, reduceCtorEq, List.nodup_nil, List.nodup_cons, List.not_mem_nil, not_false_eq_true, and_self, Bool.not_true, Bool.not_false, Bool.not_not, decide_true, decide_false, Nat.reduceLeDiff, atI0, atI1, req_true])
theorem loop_rank {p : Int} {w : Nat} {x0 x1 : Option FV} (hp : p ∈ primes6) (hw : w ≤ 1000) : ∀ (js : List Int) (rows : List (List Int)) (f : Int) (y7 y8 y10 y11 : Option FV), (∀ j ∈ js, 0 ≤ j ∧ j < w) → Rw p w rows → rows.length ≤ 1000 → bb y7 = false → bb y8 = false → bb y10 = false → bb y11 = false →
    ∃ z7 z8 z10 z11 c, fsGo (tgN 7) lb__law_rank_1 (iv js) [x0, x1, some (.d (.int p)), some (.c (.lst (rows.map NA.ld))), some (.d (.int f)), none, none, y7, y8, none, y10, y11, none]
      = .ok .nx [x0, x1, some (.d (.int p)), some (.c c), some (.d (.int (f + ((elim p js rows).1 : Nat)))), none, none, z7, z8, none, z10, z11, none]
  | [], rows, f, y7, y8, y10, y11, _, _, _, _, _, _, _ => ⟨y7, y8, y10, y11, _, by
    rw [show (elim p [] rows).1 = 0 from rfl, show f + ((0 : Nat) : Int) = f by omega]
    rfl⟩
  | j :: js, rows, f, y7, y8, y10, y11, hj, hr, lr, b7, b8, b10, b11 => by
    have p0 : 0 < p := by have := modsB (p6_mods hp); omega
    obtain ⟨a0, a1⟩ := hj j List.mem_cons_self
    obtain ⟨z8, z10, z11, e1, c8, c10, c11⟩ := rank_turn (x0 := x0) (x1 := x1) (f := f) hp a0 a1 hw hr lr b7 b8 b10 b11
    obtain ⟨hr1, lr1⟩ := stp_rw (at0 := j) p0 hr
    obtain ⟨u7, u8, u10, u11, c, e2⟩ := loop_rank (x0 := x0) (x1 := x1) hp hw js (stp p j rows).2 (f + ((stp p j rows).1 : Nat)) (some (.d (.int j))) z8 z10 z11 (fun j h => hj j (List.mem_cons_of_mem _ h)) hr1 (by omega) rfl c8 c10 c11
    refine ⟨u7, u8, u10, u11, c, ?_⟩
    rw [show iv (j :: js) = .int j :: iv js from rfl]
    refine (go_nx e1).trans (e2.trans ?_)
    have : f + ((stp p j rows).1 : Int) + ((elim p js (stp p j rows).2).1 : Int) = f + ((elim p (j :: js) rows).1 : Int) := by
      rw [elim_cons]
      omega
    rw [this]
def modR (p : Int) (rows : List (List Int)) : List (List Int) := rows.map fun r => r.map fun x => x % p
theorem e_rank {p : Int} {w C : Nat} {rows : List (List Int)} (hp : p ∈ primes6) (hw : w ≤ 1000) (hC : C ≤ w) (hr : ∀ r ∈ rows, r.length = w) (lr : rows.length ≤ 1000) :
    F__law_rank [.d (.list (rows.map NA.ld)), .d (.int C), .d (.int p)] = tell (.int ((elim p (upN C) (modR p rows)).1 : Nat)) := by
  have mb := modsB (p6_mods hp)
  have p0 : 0 < p := by omega
  have rg : gRange1 [.int (C : Int)] = some (rangeD 0 C) := by
    rw [gRange1]
    exact (req_pos (by omega)).trans (by rw [Int.toNat_natCast])
  have hR : Rw p w (modR p rows) := fun r h => by
    unfold modR at h
    obtain ⟨s, hs, rfl⟩ := List.mem_map.mp h
    refine ⟨fun x hx => ?_, by rw [List.length_map, hr s hs]⟩
    obtain ⟨v, _, rfl⟩ := List.mem_map.mp hx
    exact ⟨Int.emod_nonneg _ (by omega), Int.emod_lt_of_pos _ p0⟩
  obtain ⟨z7, z8, z10, z11, c, e⟩ := loop_rank (x0 := some (.d (.list (rows.map NA.ld)))) (x1 := some (.d (.int C))) hp hw (upN C) (modR p rows) 0 none none none none (fun j hj => by
    unfold upN at hj
    obtain ⟨i, hi, rfl⟩ := List.mem_map.mp hj
    have := List.mem_range.mp hi
    omega) hR (by simp [modR]; omega) rfl rfl rfl rfl
  unfold upN at e
  rw [← rangeD0] at e
  rw [Int.zero_add] at e
  have hlc : ∀ x3 x4 x7 x8 x9 x10 x11 x12 : Option FV, fLcGo (tgN 5) fYes (fLc (fiSeq (fVar 5)) (tgN 6) fYes (fOp gMod (fFn gInt (faCons (fVar 6) faNil)) (fVar 2)) [6]) [5] (rows.map NA.ld) [] [some (.d (.list (rows.map NA.ld))), some (.d (.int C)), some (.d (.int p)), x3, x4, none, none, x7, x8, x9, x10, x11, x12]
      = .ok ((modR p rows).map NA.ld) [some (.d (.list (rows.map NA.ld))), some (.d (.int C)), some (.d (.int p)), x3, x4, none, none, x7, x8, x9, x10, x11, x12] := fun x3 x4 x7 x8 x9 x10 x11 x12 => by
    rw [lc_all (fun d => match d with
      | .list xs => .list (xs.map fun d => match d with
        | .int v => .int (v % p)
        | _ => .none)
      | _ => .none) (by rw [List.length_map]; omega)]
    · congr 1
      unfold modR
      rw [List.map_map, List.map_map]
      refine List.map_congr_left fun r _ => ?_
      show PyData.list ((iv r).map _) = NA.ld (r.map _)
      unfold NA.ld iv
      rw [List.map_map, List.map_map]
      rfl
    · intro d hd
      obtain ⟨r, hr', rfl⟩ := List.mem_map.mp hd
      refine ⟨_, rfl, by walk_at "fl", ?_⟩
      unfold NA.ld
      walk_at "fl"
      rw [lc_all (fun d => match d with
        | .int v => .int (v % p)
        | _ => .none) (by rw [show (iv r).length = r.length from List.length_map _, hr r hr']; omega)]
      · walk_at "fl"
      · intro d hd
        obtain ⟨v, _, rfl⟩ := iv_mem hd
        refine ⟨_, rfl, by walk_at "fl", ?_⟩
        repeat first | simp only [g_mod p0] | walk_at "fl"
  unfold F__law_rank fb__law_rank
  unfold upN
  repeat first | simp only [hlc, rg, e] | walk_at "fl"
end K25

namespace K25
open PySem hiding rule
open PySem.Spec PyProof.Rows L2 DL FL RF NA
local macro_rules | `(tactic| walk_at "fl") => `(tactic| simp only [ap_var, ap_c, ap_un, ap_unV, ap_op, ap_opO, ap_fn, ap_nil, ap_cons, ap_tr, ap_b, ap_tand, ap_tor, ap_tnot, ap_and, ap_or, ap_not, ap_if, ap_chain, ap_tup, ap_lst, ap_lstO, ap_dictO, ap_frz, ap_sl, ap_no, ap_part, ap_mut, ap_call, ap_callK, ap_get, ap_dict, ap_isi, ap_rep, ap_listO, ap_seq, ap_iargs, ap_lc, ap_lcO, ap_yes, ap_sq, ap_ret, ap_drop, ap_sif, ap_nx, ap_bk, ap_ct, ap_asg, ap_setR, ap_runT, ap_bb0, ap_bbs, ap_bbn, ap_bbd, ap_bbc, ap_bbb, ap_sfrz, ap_setI, ap_setK, ap_for, ap_par, ap_asgT, ap_run, ap_see, ap_seeo, ap_seer, ap_getC, ap_setC, ap_sees0, ap_sees1, ap_parN, ap_view, ap_frza0, ap_frza, ap_frzc, ap_frzb, ap_frzd, ap_frzn, ap_call1, ap_c1o, ap_sar0, ap_sar1, ap_frv, ap_fro, ap_tgN, ap_tgT, fin_val, fin_own, fin_ref, fin_nx, bors_nil, bors_d, bors_b, R.bind_ok, ofO_some, ofB_some, ofOL_list, seeV, frV, vals, setAllF, wipeF, restF, callR, refsOf, argVs, putBack, setR2, setI, setK, ap_glt, ap_gle, ap_ggt, ap_gge, ap_gsub, ap_gadd, ap_gneg, ap_gix, ap_cutl, ap_cutt, ap_gtup, ap_glist, ap_glen, ap_gint, ap_gintb, ap_gabs, ap_gmax, ap_gmin, ap_isN, ap_notN, ap_geq, ap_gne, ap_eqi, ap_eqb, ap_eqs, ap_iol, ap_iot, ap_gtn, ap_gtb, ap_gti, ap_gtl, ap_gtt, ap_isn0, ap_isni, ap_isnl, ap_isnt, ap_revl, ap_revt, ap_enum, ap_zipl, ap_zipt, intsOf_map, boolsOf_map, ap_cellL, startF, List.map_cons, List.map_nil, List.length_cons, List.length_nil, List.replicate_succ, List.replicate_zero, List.cons_append, List.nil_append, List.append_nil, List.getElem?_cons_zero, List.getElem?_cons_succ, List.getElem?_nil, List.set_cons_zero, List.set_cons_succ, List.set_nil, Option.map_some, Option.map_none, Option.bind_some, Option.bind_none, Nat.reduceSub, Nat.reduceAdd, if_true, if_false, Bool.false_eq_true, reduceIte, true_and, and_true, Nat.sub_zero, Nat.zero_add, reduceCtorEq, List.nodup_nil, List.nodup_cons, List.not_mem_nil, not_false_eq_true, and_self, Bool.not_true, Bool.not_false, Bool.not_not, decide_true, decide_false, Nat.reduceLeDiff, atI0, atI1, req_true])
def aM (p w : Int) : PyData → PyData
  | .tuple [.int t, .int v] => .int ((t + w * v) % p)
  | _ => .none
theorem aM_zip {p w : Int} : ∀ {ts us : List Int}, (zipD (iv ts) (iv us)).map (aM p w) = iv (List.zipWith (fun t v => (t + w * v) % p) ts us)
  | [], _ => by simp [iv, zipD]
  | _ :: _, [] => by simp [iv, zipD]
  | x :: ts, y :: us => by
    have ih := aM_zip (p := p) (w := w) (ts := ts) (us := us)
    simp only [iv, List.map_cons, zipD, List.zipWith_cons_cons] at ih ⊢
    rw [ih]
    rfl
def mdL (p : Int) (T : List Int) : List Int := T.map fun x => x % p
theorem add_mod {p w : Int} : ∀ {T U : List Int}, List.zipWith (fun t v => (t + w * v) % p) (mdL p T) U = mdL p (List.zipWith (fun t v => t + w * v) T U)
  | [], _ => by simp [mdL]
  | _ :: _, [] => by simp [mdL]
  | t :: T, u :: U => by
    have ih := add_mod (p := p) (w := w) (T := T) (U := U)
    unfold mdL at ih ⊢
    rw [List.map_cons, List.zipWith_cons_cons, List.zipWith_cons_cons, List.map_cons, ih, Int.emod_add_emod]
theorem loop_sums {m p : Int} {n : Nat} {x1 x2 x3 : Option FV} (hm : m ≤ 15) (hp : 0 < p) (hp2 : p ≤ 13) (hn : n ≤ 100) : ∀ (ws : List Int) (qs : List (List Int × Int)) (T : List Int) (y z v : Option FV), Pn p ws → (∀ q ∈ qs, Pn m q.1 ∧ q.1.length = n ∧ 0 ≤ q.2 ∧ q.2 < m) → T.length ≤ 1000 → bb y = false → bb z = false → bb v = false →
    ∃ y' z' v', fsGo (tgT2 [.inl 5, .inr [6, 7]]) lb__law_sums_1 (zipD (iv ws) (qs.map lk)) [some (.d (.int p)), x1, x2, x3, some (.d (.list (iv (mdL p T)))), y, z, v, none, none]
      = .ok .nx [some (.d (.int p)), x1, x2, x3, some (.d (.list (iv (mdL p (accL ws qs T))))), y', z', v', none, none]
  | [], qs, T, y, z, v, _, _, _, _, _, _ => ⟨y, z, v, by unfold accL; rfl⟩
  | w :: ws, [], T, y, z, v, _, _, _, _, _, _ => ⟨y, z, v, by unfold accL; rfl⟩
  | w :: ws, q :: qs, T, y, z, v, pw, hq, hT, hy, hz, hv => by
    obtain ⟨pq, lq, q0, q1⟩ := hq q List.mem_cons_self
    have hw := pw w List.mem_cons_self
    obtain ⟨y', z', v', e⟩ := loop_sums (x1 := x1) (x2 := x2) (x3 := x3) hm hp hp2 hn ws qs (addL T w q) (some (.d (.int w))) (some (.d (.tuple (iv q.1)))) (some (.d (.int q.2))) (fun x h => pw x (List.mem_cons_of_mem _ h)) (fun q h => hq q (List.mem_cons_of_mem _ h)) (by unfold addL; rw [List.length_zipWith]; omega) rfl rfl rfl
    refine ⟨y', z', v', ?_⟩
    rw [show zipD (iv (w :: ws)) ((q :: qs).map lk) = .tuple [.int w, .tuple [.tuple (iv q.1), .int q.2]] :: zipD (iv ws) (qs.map lk) from rfl, show accL (w :: ws) (q :: qs) T = accL ws qs (addL T w q) from rfl]
    refine (go_nx ?_).trans e
    have iq : (iv q.1).length = q.1.length := List.length_map _
    have ga : FL.gAdd (.tuple (iv q.1)) (.tuple [.int q.2]) = some (.tuple (iv (q.1 ++ [q.2]))) := (gadd_tup (by rw [iq]; simp; omega)).trans (by simp [iv])
    have hlc : ∀ x4 x6 x7 : Option FV, fLcGo (tgT [8, 9]) fYes (fOp gMod (fFn gInt (faCons (fOp gAdd (fVar 8) (fOp gMul (fVar 5) (fVar 9))) faNil)) (fVar 0)) [8, 9] (zipD (iv (mdL p T)) (iv (q.1 ++ [q.2]))) [] [some (.d (.int p)), x1, x2, x3, x4, some (.d (.int w)), x6, x7, none, none]
        = .ok (iv (mdL p (addL T w q))) [some (.d (.int p)), x1, x2, x3, x4, some (.d (.int w)), x6, x7, none, none] := fun x4 x6 x7 => by
      rw [lc_all (aM p w) (by have := zipD_len (iv (mdL p T)) (iv (q.1 ++ [q.2])); rw [show (iv (mdL p T)).length = (mdL p T).length from List.length_map _, show (mdL p T).length = T.length from List.length_map _] at this; omega), aM_zip, add_mod]
      · rfl
      · intro d hd
        obtain ⟨t, u, ht, hu, rfl⟩ := zip_mem _ _ _ hd
        obtain ⟨i, hi, rfl⟩ := iv_mem ht
        obtain ⟨j, hj, rfl⟩ := iv_mem hu
        have hj2 : 0 ≤ j ∧ j < m := by
          rcases List.mem_append.mp hj with h | h
          · exact pq j h
          · rw [List.mem_singleton.mp h]; exact ⟨q0, q1⟩
        refine ⟨_, rfl, by walk_at "fl", ?_⟩
        repeat first | simp only [aM, g_add, g_mod hp, g_mul (bits_small (v := w) (c := j) (by omega) (by omega))] | walk_at "fl"
    have gz : gZipLT [.list (iv (mdL p T)), .tuple (iv (q.1 ++ [q.2]))] = some (zipD (iv (mdL p T)) (iv (q.1 ++ [q.2]))) := rfl
    unfold lb__law_sums_1
    repeat first | simp only [ap_tgT2, ap_set20, ap_set2n, ap_set2t, hy, hz, hv, ga, gz, hlc] | walk_at "fl"
theorem e_sums {m p : Int} {n : Nat} {ws : List Int} {qs : List (List Int × Int)} (hm : m ≤ 15) (hp : 0 < p) (hp2 : p ≤ 13) (hn : n ≤ 100) (h : Lks m n qs) (pw : Pn p ws) :
    F__law_sums [.d (.int p), .d (.tuple (iv ws)), .d (lks qs), .d (.int n)] = tell (.list (iv (mdL p (accL ws qs (List.replicate (n + 1) 0))))) := by
  obtain ⟨y, z, v, e⟩ := loop_sums (x1 := some (.d (.tuple (iv ws)))) (x2 := some (.d (lks qs))) (x3 := some (.d (.int n))) hm hp hp2 hn ws qs (List.replicate (n + 1) 0) none none none pw h.ok (by simp; omega) rfl rfl rfl
  have e0 : mdL p (List.replicate (n + 1) 0) = List.replicate (n + 1) 0 := by simp [mdL]
  rw [e0] at e
  have a3 : frz (fRep (fLstO (faCons (fC (.int 0)) faNil)) (fOp gAdd (fVar 3) (fC (.int 1)))) [some (.d (.int p)), some (.d (.tuple (iv ws))), some (.d (lks qs)), some (.d (.int n)), none, none, none, none, none, none]
      = .ok (.val (.list (iv (List.replicate (n + 1) 0)))) [some (.d (.int p)), some (.d (.tuple (iv ws))), some (.d (lks qs)), some (.d (.int n)), none, none, none, none, none, none] := by
    have e2 : (n : Int) + 1 = ((n + 1 : Nat) : Int) := by omega
    have t1 : fLstO (faCons (fC (.int 0)) faNil) [some (.d (.int p)), some (.d (.tuple (iv ws))), some (.d (lks qs)), some (.d (.int n)), none, none, none, none, none, none] = .ok (.own (.lst [.int 0])) [some (.d (.int p)), some (.d (.tuple (iv ws))), some (.d (lks qs)), some (.d (.int n)), none, none, none, none, none, none] := by walk_at "fl"
    have t2 : fOp gAdd (fVar 3) (fC (.int 1)) [some (.d (.int p)), some (.d (.tuple (iv ws))), some (.d (lks qs)), some (.d (.int n)), none, none, none, none, none, none] = .ok (.val (.int ((n + 1 : Nat) : Int))) [some (.d (.int p)), some (.d (.tuple (iv ws))), some (.d (lks qs)), some (.d (.int n)), none, none, none, none, none, none] := by
      repeat first | simp only [g_add, e2] | walk_at "fl"
    rw [ap_frz, ap_rep, t1, R.bind_ok, t2, R.bind_ok]
    generalize n + 1 = k at *
    show R.bind (repR (some [.int 0]) (some (.int (k : Int))) _) _ = _
    rw [repR_ok' (by omega) (by omega) (by rw [Int.toNat_natCast, List.length_singleton]; omega), Int.toNat_natCast, flat_rep, rep_iv, R.bind_ok]
    rfl
  generalize iv (List.replicate (n + 1) 0) = Z at a3 e
  have gz : gZip [.tuple (iv ws), .tuple (qs.map lk)] = some (zipD (iv ws) (qs.map lk)) := rfl
  unfold F__law_sums fb__law_sums
  generalize frz (fRep (fLstO (faCons (fC (.int 0)) faNil)) (fOp gAdd (fVar 3) (fC (.int 1)))) = G at a3 ⊢
  unfold lks at a3 e ⊢
  repeat first | simp only [a3, gz, e] | walk_at "fl"
end K25

namespace K25
open PySem hiding rule
open PySem.Spec PyProof.Rows L2 DL FL RF NA
local macro_rules | `(tactic| walk_at "fl") => `(tactic| simp only [ap_var, ap_c, ap_un, ap_unV, ap_op, ap_opO, ap_fn, ap_nil, ap_cons, ap_tr, ap_b, ap_tand, ap_tor, ap_tnot, ap_and, ap_or, ap_not, ap_if, ap_chain, ap_tup, ap_lst, ap_lstO, ap_dictO, ap_frz, ap_sl, ap_no, ap_part, ap_mut, ap_call, ap_callK, ap_get, ap_dict, ap_isi, ap_rep, ap_listO, ap_seq, ap_iargs, ap_lc, ap_lcO, ap_yes, ap_sq, ap_ret, ap_drop, ap_sif, ap_nx, ap_bk, ap_ct, ap_asg, ap_setR, ap_runT, ap_bb0, ap_bbs, ap_bbn, ap_bbd, ap_bbc, ap_bbb, ap_sfrz, ap_setI, ap_setK, ap_for, ap_par, ap_asgT, ap_run, ap_see, ap_seeo, ap_seer, ap_getC, ap_setC, ap_sees0, ap_sees1, ap_parN, ap_view, ap_frza0, ap_frza, ap_frzc, ap_frzb, ap_frzd, ap_frzn, ap_call1, ap_c1o, ap_sar0, ap_sar1, ap_frv, ap_fro, ap_tgN, ap_tgT, fin_val, fin_own, fin_ref, fin_nx, bors_nil, bors_d, bors_b, R.bind_ok, ofO_some, ofB_some, ofOL_list, seeV, frV, vals, setAllF, wipeF, restF, callR, refsOf, argVs, putBack, setR2, setI, setK, ap_glt, ap_gle, ap_ggt, ap_gge, ap_gsub, ap_gadd, ap_gneg, ap_gix, ap_cutl, ap_cutt, ap_gtup, ap_glist, ap_glen, ap_gint, ap_gintb, ap_gabs, ap_gmax, ap_gmin, ap_isN, ap_notN, ap_geq, ap_gne, ap_eqi, ap_eqb, ap_eqs, ap_iol, ap_iot, ap_gtn, ap_gtb, ap_gti, ap_gtl, ap_gtt, ap_isn0, ap_isni, ap_isnl, ap_isnt, ap_revl, ap_revt, ap_enum, ap_zipl, ap_zipt, intsOf_map, boolsOf_map, ap_cellL, startF, List.map_cons, List.map_nil, List.length_cons, List.length_nil, List.replicate_succ, List.replicate_zero, List.cons_append, List.nil_append, List.append_nil, List.getElem?_cons_zero, List.getElem?_cons_succ, List.getElem?_nil, List.set_cons_zero, List.set_cons_succ, List.set_nil, Option.map_some, Option.map_none, Option.bind_some, Option.bind_none, Nat.reduceSub, Nat.reduceAdd, if_true, if_false, Bool.false_eq_true, reduceIte, true_and, and_true, Nat.sub_zero, Nat.zero_add, reduceCtorEq, List.nodup_nil, List.nodup_cons, List.not_mem_nil, not_false_eq_true, and_self, Bool.not_true, Bool.not_false, Bool.not_not, decide_true, decide_false, Nat.reduceLeDiff, atI0, atI1, req_true])
theorem dr {c : Cell} {n : Nat} {many : Int} (h : Pot n c) (h1 : 1 ≤ many) (h2 : many ≤ 1000) (hn : n ≤ 100000) :
    ∃ r c', F__law_draw [.b c, .d (.int many)] = .ok (.val (.int r)) [c'] ∧ 0 ≤ r ∧ r < many ∧ Pot (n + 1) c' := e_draw h h1 (Int.le_trans h2 (by decide)) (by omega)
theorem zip_eqlen : ∀ {xs ys : List PyData}, xs.length = ys.length → (zipD xs ys).length = xs.length
  | [], [], _ => rfl
  | x :: xs, y :: ys, h => by
    show (zipD xs ys).length + 1 = xs.length + 1
    rw [zip_eqlen (by simpa using h)]
theorem emodP {m v : Int} (h : 0 < m) : 0 ≤ v % m ∧ v % m < m := ⟨Int.emod_nonneg _ (by omega), Int.emod_lt_of_pos _ h⟩
theorem e_cells {c : Cell} {n C : Nat} {m : Int} {qs : List (List Int × Int)} (h : Pot n c) (hm : m ∈ mods) (h1 : 1 ≤ C) (hC : C ≤ 7) (hq : Lks m C qs) (hn : n + 100 ≤ 100000) :
    ∃ vs c', F__law_cells [.b c, .d (.int m), .d (.int C), .b (.lst (qs.map lk))] = .ok (.val (.tuple (iv vs))) [c', .lst (qs.map lk)] ∧ Pn m vs ∧ vs.length = C ∧ Pot (n + 20) c' := by
  have mb := modsB hm
  have m0 : 0 < m := by omega
  have hL : (rangeD 0 ((C : Int)).toNat).length = C := by simp [rangeD]
  have rg : gRange1 [.int (C : Int)] = some (rangeD 0 ((C : Int)).toNat) := req_pos (by omega)
  obtain ⟨ys, ε', e1, e2, c1, rfl, p1⟩ := lc_rel (gf := tgN 5) (tt := fYes) (fe := fCall F__law_draw (faCons (fVar 0) (faCons (fVar 1) faNil))) (vs := [5])
    (fun j ε => ∃ c, ε = [some (.b c), some (.d (.int m)), some (.d (.int C)), some (.b (.lst (qs.map lk))), none, none, none, none, none, none, none, none, none] ∧ Pot j c)
    (fun _ r => ∃ v : Int, r = PyData.int v ∧ 0 ≤ v ∧ v < m) 1 100000 (rangeD 0 ((C : Int)).toNat) [] n _ (by rw [List.length_nil, hL]; omega) (by rw [hL]; omega) ⟨c, rfl, h⟩ (by
      rintro d hd j ε ⟨c, rfl, hc⟩ hk
      obtain ⟨f, c', e, f0, f1, hp⟩ := dr hc (many := m) (by omega) (by omega) (by omega)
      refine ⟨_, _, .int f, [some (.b c'), some (.d (.int m)), some (.d (.int C)), some (.b (.lst (qs.map lk))), none, some (.d d), none, none, none, none, none, none, none], rfl, rfl, ?_, ⟨f, rfl, f0, f1⟩, c', by walk_at "fl", hp⟩
      repeat first | simp only [e] | walk_at "fl")
  obtain ⟨vs, rfl, pn, hl⟩ := paired_rg e2
  rw [hL] at hl p1
  rw [List.nil_append] at e1
  obtain ⟨w, c2, e3, w0, w1, p2⟩ := dr p1 (many := 7) (by decide) (by decide) (by omega)
  have liv : (iv vs).length = C := by rw [← hl]; exact List.length_map _
  have hlen : ((qs.map lk).length : Int) = (qs.length : Int) := by simp
  have lnq := hq.ln
  by_cases k0 : w = 0
  · subst k0
    obtain ⟨s, c3, e4, s0, s1, p3⟩ := dr p2 (many := m) (by omega) (by omega) (by omega)
    obtain ⟨ws, e5, pw, lw⟩ := lc_in (gf := tgN 8) (fe := fOp gMod (fFn gInt (faCons (fOp gMul (fVar 8) (fVar 7)) faNil)) (fVar 1)) (vs := [8]) (ε := [some (.b c3), some (.d (.int m)), some (.d (.int C)), some (.b (.lst (qs.map lk))), some (.d (.list (iv vs))), none, some (.d (.int 0)), some (.d (.int s)), none, none, none, none, none]) (ds := iv vs) (m := m) (by omega) (by
      intro d hd
      obtain ⟨x, hx, rfl⟩ := iv_mem hd
      have := pn x hx
      refine ⟨x * s % m, emodP m0, _, rfl, by walk_at "fl", ?_⟩
      repeat first | simp only [g_mod m0, g_mul (bits_small (v := x) (c := s) (by omega) (by omega))] | walk_at "fl")
    refine ⟨ws, c3, ?_, pw, by omega, p3.mono (by omega)⟩
    unfold F__law_cells fb__law_cells
    repeat first | simp only [rg, e1, e3, eqP, e4, e5] | walk_at "fl"
  by_cases k1 : w = 1
  · subst k1
    obtain ⟨s, c3, e4, s0, s1, p3⟩ := dr p2 (many := (C : Int)) (by omega) (by omega) (by omega)
    obtain ⟨ws, e5, pw, lw⟩ := lc_in (gf := tgT [5, 8]) (fe := fIf (fB (fOp gEq (fVar 5) (fVar 9))) (fVar 8) (fC (.int 0))) (vs := [5, 8]) (ε := [some (.b c3), some (.d (.int m)), some (.d (.int C)), some (.b (.lst (qs.map lk))), some (.d (.list (iv vs))), none, some (.d (.int 1)), none, none, some (.d (.int s)), none, none, none]) (ds := enumD 0 (iv vs)) (m := m) (by rw [enumD_len]; omega) (by
      intro d hd
      obtain ⟨i, x, _, _, hx, rfl⟩ := enumD_mem _ _ _ hd
      obtain ⟨v, hv, rfl⟩ := iv_mem (List.mem_of_getElem? hx)
      have := pn v hv
      by_cases hi : (i : Int) = s
      · refine ⟨v, this, _, rfl, by walk_at "fl", ?_⟩
        repeat first | simp only [eqP, hi, decide_true] | walk_at "fl"
      · refine ⟨0, by omega, _, rfl, by walk_at "fl", ?_⟩
        repeat first | simp only [eqP, hi, decide_false] | walk_at "fl")
    rw [enumD_len] at lw
    refine ⟨ws, c3, ?_, pw, by omega, p3.mono (by omega)⟩
    have q0 : decide ((1 : Int) = 0) = false := rfl
    unfold F__law_cells fb__law_cells
    repeat first | simp only [rg, e1, e3, eqP, q0, e4, e5] | walk_at "fl"
  have n0 : decide (w = 0) = false := decide_eq_false k0
  have n1 : decide (w = 1) = false := decide_eq_false k1
  by_cases k2 : w = 2 ∧ 0 < qs.length
  · obtain ⟨rfl, ql⟩ := k2
    obtain ⟨s, c3, e4, s0, s1, p3⟩ := dr p2 (many := (qs.length : Int)) (by omega) (by omega) (by omega)
    obtain ⟨t, c4, e5, t0, t1, p4⟩ := dr p3 (many := (qs.length : Int)) (by omega) (by omega) (by omega)
    obtain ⟨da, i1, ha⟩ := getI (xs := qs.map lk) s0 (by rw [hlen]; exact s1)
    obtain ⟨db, i2, hb⟩ := getI (xs := qs.map lk) t0 (by rw [hlen]; exact t1)
    obtain ⟨qa, ma, rfl⟩ := List.mem_map.mp ha
    obtain ⟨qb, mb2, rfl⟩ := List.mem_map.mp hb
    obtain ⟨pa, la, _, _⟩ := hq.ok qa ma
    obtain ⟨pb, lb, _, _⟩ := hq.ok qb mb2
    have ia : (iv qa.1).length = C := by rw [← la]; exact List.length_map _
    have ib : (iv qb.1).length = C := by rw [← lb]; exact List.length_map _
    have zl : (zipD (iv qa.1) (iv qb.1)).length = C := by rw [zip_eqlen (by omega)]; exact ia
    obtain ⟨ws, e6, pw, lw⟩ := lc_in (gf := tgT [8, 12]) (fe := fOp gMod (fFn gInt (faCons (fOp gAdd (fVar 8) (fVar 12)) faNil)) (fVar 1)) (vs := [8, 12]) (ε := [some (.b c4), some (.d (.int m)), some (.d (.int C)), some (.b (.lst (qs.map lk))), some (.d (.list (iv vs))), none, some (.d (.int 2)), none, none, none, some (.d (.tuple (iv qa.1))), some (.d (.tuple (iv qb.1))), none]) (ds := zipD (iv qa.1) (iv qb.1)) (m := m) (by omega) (by
      intro d hd
      obtain ⟨x, y, hx, hy, rfl⟩ := zip_mem _ _ _ hd
      obtain ⟨i, hi, rfl⟩ := iv_mem hx
      obtain ⟨j, hj, rfl⟩ := iv_mem hy
      refine ⟨(i + j) % m, emodP m0, _, rfl, by walk_at "fl", ?_⟩
      repeat first | simp only [g_mod m0, g_add] | walk_at "fl")
    refine ⟨ws, c4, ?_, pw, by omega, p4.mono (by omega)⟩
    have gz : gZip [.tuple (iv qa.1), .tuple (iv qb.1)] = some (zipD (iv qa.1) (iv qb.1)) := rfl
    have q0 : decide ((2 : Int) = 0) = false := rfl
    have q1 : decide ((2 : Int) = 1) = false := rfl
    have gq : decide ((qs.length : Int) > 0) = true := decide_eq_true (by omega)
    have j1 : atI [PyData.tuple (iv qa.1), .int qa.2] 0 = some (.tuple (iv qa.1)) := atI0
    have j2 : atI [PyData.tuple (iv qb.1), .int qb.2] 0 = some (.tuple (iv qb.1)) := atI0
    unfold F__law_cells fb__law_cells
    unfold lk at i1 i2
    unfold lk at *
    repeat first | simp only [rg, e1, e3, eqP, q0, q1, gq, hlen, e4, e5, i1, i2, j1, j2, gz, e6] | walk_at "fl"
  have fin : ∀ {c3 : Cell} {k : Nat}, Pot k c3 → k ≤ n + 20 → F__law_cells [.b c, .d (.int m), .d (.int C), .b (.lst (qs.map lk))] = .ok (.val (.tuple (iv vs))) [c3, .lst (qs.map lk)] → ∃ vs c', F__law_cells [.b c, .d (.int m), .d (.int C), .b (.lst (qs.map lk))] = .ok (.val (.tuple (iv vs))) [c', .lst (qs.map lk)] ∧ Pn m vs ∧ vs.length = C ∧ Pot (n + 20) c' := fun p hk e => ⟨vs, _, e, pn, hl, p.mono hk⟩
  by_cases k3 : w = 3
  · subst k3
    have q0 : decide ((3 : Int) = 0) = false := rfl
    have q1 : decide ((3 : Int) = 1) = false := rfl
    have q2 : decide ((3 : Int) = 2) = false := rfl
    obtain ⟨s, c3, e4, s0, s1, p3⟩ := dr p2 (many := 3) (by decide) (by decide) (by omega)
    by_cases z : s = 0
    · subst z
      refine ⟨List.replicate C 0, c3, ?_, fun x hx => ?_, List.length_replicate, p3.mono (by omega)⟩
      · have gm := mulT_zeros (C := C) (by omega)
        unfold F__law_cells fb__law_cells
        repeat first | simp only [rg, e1, e3, eqP, q0, q1, q2, e4, gm] | walk_at "fl"
      · rw [List.eq_of_mem_replicate hx]; omega
    · have z0 : decide (s = 0) = false := decide_eq_false z
      refine fin p3 (by omega) ?_
      unfold F__law_cells fb__law_cells
      repeat first | simp only [rg, e1, e3, eqP, q0, q1, q2, e4, z0] | walk_at "fl"
  · have n3 : decide (w = 3) = false := decide_eq_false k3
    refine fin p2 (by omega) ?_
    by_cases k4 : w = 2
    · subst k4
      have q0 : decide ((2 : Int) = 0) = false := rfl
      have q1 : decide ((2 : Int) = 1) = false := rfl
      have q3 : decide ((2 : Int) = 3) = false := rfl
      have gq : decide ((qs.length : Int) > 0) = false := decide_eq_false (by omega)
      unfold F__law_cells fb__law_cells
      repeat first | simp only [rg, e1, e3, eqP, q0, q1, q3, gq, hlen] | walk_at "fl"
    · have n2 : decide (w = 2) = false := decide_eq_false k4
      unfold F__law_cells fb__law_cells
      repeat first | simp only [rg, e1, e3, eqP, n0, n1, n2, n3] | walk_at "fl"
end K25

namespace K25
open PySem hiding rule
open PySem.Spec PyProof.Rows L2 DL FL RF NA
local macro_rules | `(tactic| walk_at "fl") => `(tactic| simp only [ap_var, ap_c, ap_un, ap_unV, ap_op, ap_opO, ap_fn, ap_nil, ap_cons, ap_tr, ap_b, ap_tand, ap_tor, ap_tnot, ap_and, ap_or, ap_not, ap_if, ap_chain, ap_tup, ap_lst, ap_lstO, ap_dictO, ap_frz, ap_sl, ap_no, ap_part, ap_mut, ap_call, ap_callK, ap_get, ap_dict, ap_isi, ap_rep, ap_listO, ap_seq, ap_iargs, ap_lc, ap_lcO, ap_yes, ap_sq, ap_ret, ap_drop, ap_sif, ap_nx, ap_bk, ap_ct, ap_asg, ap_setR, ap_runT, ap_bb0, ap_bbs, ap_bbn, ap_bbd, ap_bbc, ap_bbb, ap_sfrz, ap_setI, ap_setK, ap_for, ap_par, ap_asgT, ap_run, ap_see, ap_seeo, ap_seer, ap_getC, ap_setC, ap_sees0, ap_sees1, ap_parN, ap_view, ap_frza0, ap_frza, ap_frzc, ap_frzb, ap_frzd, ap_frzn, ap_call1, ap_c1o, ap_sar0, ap_sar1, ap_frv, ap_fro, ap_tgN, ap_tgT, fin_val, fin_own, fin_ref, fin_nx, bors_nil, bors_d, bors_b, R.bind_ok, ofO_some, ofB_some, ofOL_list, seeV, frV, vals, setAllF, wipeF, restF, callR, refsOf, argVs, putBack, setR2, setI, setK, ap_glt, ap_gle, ap_ggt, ap_gge, ap_gsub, ap_gadd, ap_gneg, ap_gix, ap_cutl, ap_cutt, ap_gtup, ap_glist, ap_glen, ap_gint, ap_gintb, ap_gabs, ap_gmax, ap_gmin, ap_isN, ap_notN, ap_geq, ap_gne, ap_eqi, ap_eqb, ap_eqs, ap_iol, ap_iot, ap_gtn, ap_gtb, ap_gti, ap_gtl, ap_gtt, ap_isn0, ap_isni, ap_isnl, ap_isnt, ap_revl, ap_revt, ap_enum, ap_zipl, ap_zipt, intsOf_map, boolsOf_map, ap_cellL, startF, List.map_cons, List.map_nil, List.length_cons, List.length_nil, List.replicate_succ, List.replicate_zero, List.cons_append, List.nil_append, List.append_nil, List.getElem?_cons_zero, List.getElem?_cons_succ, List.getElem?_nil, List.set_cons_zero, List.set_cons_succ, List.set_nil, Option.map_some, Option.map_none, Option.bind_some, Option.bind_none, Nat.reduceSub, Nat.reduceAdd, if_true, if_false, Bool.false_eq_true, reduceIte, true_and, and_true, Nat.sub_zero, Nat.zero_add, reduceCtorEq, List.nodup_nil, List.nodup_cons, List.not_mem_nil, not_false_eq_true, and_self, Bool.not_true, Bool.not_false, Bool.not_not, decide_true, decide_false, Nat.reduceLeDiff, atI0, atI1, req_true])
theorem n08 : ((0 : Nat) ∈ [8]) = False := eq_false (by decide)
theorem eqI {a b : Int} : eqP (.int a) (.int b) = some (decide (a = b)) := rfl
def OkQ (m : Int) (n : Nat) (qs : List (List Int × Int)) : Prop := ∀ q ∈ qs, Pn m q.1 ∧ q.1.length = n ∧ 0 ≤ q.2 ∧ q.2 < m
theorem dep_lks : ∀ {qs : List (List Int × Int)}, PyData.depthAll (qs.map lk) ≤ 2
  | [] => by decide
  | q :: qs => by
    have ih := dep_lks (qs := qs)
    rw [List.map_cons]
    unfold lk
    simp only [PyData.depthAll, PyData.depth, dep_iv']
    unfold lk at ih
    omega
theorem lay_lks : ∀ {qs : List (List Int × Int)}, PyData.canLayAll0 (qs.map lk) = true
  | [] => rfl
  | q :: qs => by
    have ih := lay_lks (qs := qs)
    rw [List.map_cons]
    unfold lk at ih ⊢
    simp only [PyData.canLayAll0, PyData.canLay0, lay_iv', ih, Bool.and_self, Bool.and_true]
theorem eq_lksL {qs : List (List Int × Int)} : eqP (.list (qs.map lk)) (.list []) = some (decide (qs = [])) := by
  have sh : SeqAt.shaped (.list (qs.map lk)) = true := by
    have := dep_lks (qs := qs)
    unfold SeqAt.shaped
    simp [PyData.canLay0, PyData.depth, lay_lks]
    omega
  refine (req_pos ⟨sh, rfl⟩).trans ?_
  congr 1
  cases qs <;> rfl
theorem eq_lksT {qs : List (List Int × Int)} : eqP (.tuple (qs.map lk)) (.tuple []) = some (decide (qs = [])) := by
  have sh : SeqAt.shaped (.tuple (qs.map lk)) = true := by
    have := dep_lks (qs := qs)
    unfold SeqAt.shaped
    simp [PyData.canLay0, PyData.depth, lay_lks]
    omega
  refine (req_pos ⟨sh, rfl⟩).trans ?_
  congr 1
  cases qs <;> rfl
theorem loop_looks {m : Int} {C : Nat} {hid : List Int} {w : Int} {x2 x3 : Option FV} (hm : m ∈ mods) (h1 : 1 ≤ C) (hC : C ≤ 7) (ph : Pn m hid) (lh : hid.length ≤ 1000) :
    ∀ (ds : List PyData) (c : Cell) (n : Nat) (qs : List (List Int × Int)) (y9 y10 y11 : Option FV), Pot n c → n + 100 * ds.length + 200 ≤ 100000 → OkQ m C qs → qs.length + ds.length ≤ 100 → bb y9 = false → bb y10 = false → bb y11 = false →
    ∃ c' qs' z9 z10 z11, fsGo (tgN 9) lb__law_looks_1 ds [some (.b c), some (.d (.int m)), x2, x3, some (.d (.int C)), some (.d (.list (iv hid))), none, some (.d (.int w)), some (.c (.lst (qs.map lk))), y9, y10, y11, none]
      = .ok .nx [some (.b c'), some (.d (.int m)), x2, x3, some (.d (.int C)), some (.d (.list (iv hid))), none, some (.d (.int w)), some (.c (.lst (qs'.map lk))), z9, z10, z11, none] ∧
      Pot (n + 100 * ds.length) c' ∧ OkQ m C qs' ∧ qs'.length ≤ qs.length + ds.length
  | [], c, n, qs, y9, y10, y11, hp, _, hq, _, _, _, _ => ⟨c, qs, y9, y10, y11, rfl, hp.mono (by omega), hq, by omega⟩
  | d :: ds, c, n, qs, y9, y10, y11, hp, hn, hq, hl, b9, b10, b11 => by
    have mb := modsB hm
    simp only [List.length_cons] at hn hl
    obtain ⟨vs, c1, e1, pv, lv, p1⟩ := e_cells hp hm h1 hC ⟨hq, by omega⟩ (by omega)
    have e2 := e_told hm ph pv lh
    have r2 : 0 ≤ dot hid vs % m ∧ dot hid vs % m < m := emodP (by omega)
    obtain ⟨v, v0, v1, c2, hp2, turn⟩ : ∃ v : Int, 0 ≤ v ∧ v < m ∧ ∃ c2, Pot (n + 100) c2 ∧ runT (tgN 9) lb__law_looks_1 d [some (.b c), some (.d (.int m)), x2, x3, some (.d (.int C)), some (.d (.list (iv hid))), none, some (.d (.int w)), some (.c (.lst (qs.map lk))), y9, y10, y11, none]
        = .ok .nx [some (.b c2), some (.d (.int m)), x2, x3, some (.d (.int C)), some (.d (.list (iv hid))), none, some (.d (.int w)), some (.c (.lst ((qs ++ [(vs, v)]).map lk))), some (.d d), some (.d (.tuple (iv vs))), some (.d (.int v)), none] := by
      have ga : ∀ v : Int, gAppend (qs.map lk) [.tuple [.tuple (iv vs), .int v]] = some (.none, (qs ++ [(vs, v)]).map lk) := fun v => (g_app1 (by rw [List.length_map]; omega)).trans (by simp [lk])
      by_cases hw : w = 2
      · subst hw
        obtain ⟨f, c2, e3, f0, f1, p2⟩ := dr p1 (many := m) (by omega) (by omega) (by omega)
        refine ⟨f, f0, f1, c2, p2.mono (by omega), ?_⟩
        have ga := ga f
        unfold lb__law_looks_1
        repeat first | simp only [b9, b10, b11, n08, e1, e2, eqP, e3, ga] | walk_at "fl"
      · have z : decide (w = 2) = false := decide_eq_false hw
        refine ⟨_, r2.1, r2.2, c1, p1.mono (by omega), ?_⟩
        have ga := ga (dot hid vs % m)
        unfold lb__law_looks_1
        repeat first | simp only [b9, b10, b11, n08, e1, e2, eqP, z, ga] | walk_at "fl"
    obtain ⟨c', qs', z9, z10, z11, e, p', h', l'⟩ := loop_looks (x2 := x2) (x3 := x3) (w := w) hm h1 hC ph lh ds c2 (n + 100) (qs ++ [(vs, v)]) (some (.d d)) (some (.d (.tuple (iv vs)))) (some (.d (.int v))) hp2 (by omega) (fun q hq' => by
      rcases List.mem_append.mp hq' with h | h
      · exact hq q h
      · rw [List.mem_singleton.mp h]; exact ⟨pv, lv, v0, v1⟩) (by rw [List.length_append, List.length_singleton]; omega) rfl rfl rfl
    rw [List.length_append, List.length_singleton] at l'
    refine ⟨c', qs', z9, z10, z11, (go_nx turn).trans e, ?_, h', by rw [List.length_cons]; omega⟩
    rw [List.length_cons, Nat.mul_add]
    exact p'.mono (by omega)
theorem e_looks {c : Cell} {n g : Nat} {m : Int} (h : Pot n c) (hm : m ∈ mods) (hg : g ≤ 3) (hn : n ≤ 1000) :
    ∃ qs c', F__law_looks [.b c, .d (.int m), .d (.int g), .d (.int 11)] = .ok (.val (lks qs)) [c'] ∧ Lks m (2 * g + 1) qs ∧ qs.length ≤ 11 ∧ Pot (n + 3000) c' := by
  have mb := modsB hm
  have m0 : 0 < m := by omega
  have eC : 2 * (g : Int) + 1 = ((2 * g + 1 : Nat) : Int) := by omega
  have g2 := g_mul (bits_small (v := 2) (c := (g : Int)) (by decide) (by omega))
  obtain ⟨C, hC⟩ : ∃ C, C = 2 * g + 1 := ⟨_, rfl⟩
  rw [← hC] at eC ⊢
  have hL : (rangeD 0 ((C : Int)).toNat).length = C := by simp [rangeD]
  have rg : gRange1 [.int (C : Int)] = some (rangeD 0 ((C : Int)).toNat) := req_pos (by omega)
  obtain ⟨ys, ε', e1, e2, c1, rfl, p1⟩ := lc_rel (gf := tgN 6) (tt := fYes) (fe := fCall F__law_draw (faCons (fVar 0) (faCons (fVar 1) faNil))) (vs := [6])
    (fun j ε => ∃ c, ε = [some (.b c), some (.d (.int m)), some (.d (.int g)), some (.d (.int 11)), some (.d (.int C)), none, none, none, none, none, none, none, none] ∧ Pot j c)
    (fun _ r => ∃ v : Int, r = PyData.int v ∧ 0 ≤ v ∧ v < m) 1 100000 (rangeD 0 ((C : Int)).toNat) [] n _ (by rw [List.length_nil, hL]; omega) (by rw [hL]; omega) ⟨c, rfl, h⟩ (by
      rintro d hd j ε ⟨c, rfl, hc⟩ hk
      obtain ⟨f, c', e, f0, f1, hp⟩ := dr hc (many := m) (by omega) (by omega) (by omega)
      refine ⟨_, _, .int f, [some (.b c'), some (.d (.int m)), some (.d (.int g)), some (.d (.int 11)), some (.d (.int C)), none, some (.d d), none, none, none, none, none, none], rfl, rfl, ?_, ⟨f, rfl, f0, f1⟩, c', by walk_at "fl", hp⟩
      repeat first | simp only [e] | walk_at "fl")
  obtain ⟨hid, rfl, pn, hl⟩ := paired_rg e2
  rw [hL] at hl p1
  rw [List.nil_append] at e1
  obtain ⟨w, c2, e3, w0, w1, p2⟩ := dr p1 (many := 3) (by decide) (by decide) (by omega)
  obtain ⟨t, c3, e4, t0, t1, p3⟩ := dr p2 (many := 12) (by decide) (by decide) (by omega)
  have hT : (rangeD 0 t.toNat).length = t.toNat := by simp [rangeD]
  have rg2 : gRange1 [.int t] = some (rangeD 0 t.toNat) := req_pos (by omega)
  obtain ⟨c4, qs, z9, z10, z11, e5, p4, hq, lq⟩ := loop_looks (x2 := some (.d (.int g))) (x3 := some (.d (.int 11))) (w := w) hm (C := C) (by omega) (by omega) pn (by omega) (rangeD 0 t.toNat) c3 _ [] none none none p3 (by rw [hT]; omega) (fun q h => by cases h) (by rw [List.length_nil, hT]; omega) rfl rfl rfl
  rw [hT] at p4 lq
  rw [List.length_nil, Nat.zero_add] at lq
  rw [List.map_nil] at e5
  have hlen : ((qs.map lk).length : Int) = (qs.length : Int) := by simp
  have a12 : (11 : Int) + 1 = 12 := rfl
  by_cases k : w = 1 ∧ qs ≠ []
  · obtain ⟨rfl, hne⟩ := k
    have l0 := List.length_pos_iff.mpr hne
    obtain ⟨s, c5, e6, s0, s1, p5⟩ := dr p4 (many := (qs.length : Int)) (by omega) (by omega) (by omega)
    obtain ⟨f, c6, e7, f0, f1, p6⟩ := dr p5 (many := m - 1) (by omega) (by omega) (by omega)
    obtain ⟨d, i1, ha⟩ := getI (xs := qs.map lk) s0 (by rw [hlen]; exact s1)
    obtain ⟨q, mq, rfl⟩ := List.mem_map.mp ha
    obtain ⟨pq, lq1, q0, q1⟩ := hq q mq
    have hq2 : OkQ m C (qs.set s.toNat (q.1, (q.2 + 1 + f) % m)) := fun r hr => by
      rcases List.mem_or_eq_of_mem_set hr with h | rfl
      · exact hq r h
      · exact ⟨pq, lq1, (emodP m0).1, (emodP m0).2⟩
    refine ⟨qs.set s.toNat (q.1, (q.2 + 1 + f) % m), c6, ?_, ⟨hq2, by rw [List.length_set]; omega⟩, by rw [List.length_set]; omega, p6.mono (by omega)⟩
    have ne : decide (qs = []) = false := decide_eq_false hne
    have j1 : atI [PyData.tuple (iv q.1), .int q.2] 0 = some (.tuple (iv q.1)) := atI0
    have j2 : atI [PyData.tuple (iv q.1), .int q.2] 1 = some (.int q.2) := atI1
    have ix := ixN_of (n := (qs.map lk).length) s0 (by rw [hlen]; exact s1)
    have st : (qs.map lk).set s.toNat (.tuple [.tuple (iv q.1), .int ((q.2 + 1 + f) % m)]) = (qs.set s.toNat (q.1, (q.2 + 1 + f) % m)).map lk := by
      rw [List.map_set]
      rfl
    unfold F__law_looks fb__law_looks
    rw [show lk q = .tuple [.tuple (iv q.1), .int q.2] from rfl] at i1
    repeat first | simp only [g2, g_add, eC, rg, e1, e3, a12, e4, rg2, e5, eqI, eq_lksL, ne, hlen, e6, e7, i1, j1, j2, ix, st, g_mod m0] | walk_at "fl"
    rfl
  · refine ⟨qs, c4, ?_, ⟨hq, by omega⟩, by omega, p4.mono (by omega)⟩
    by_cases kw : w = 1
    · subst kw
      have hne : qs = [] := Classical.byContradiction fun z => k ⟨rfl, z⟩
      subst hne
      have eL : eqP (.list []) (.list []) = some true := eq_lksL (qs := [])
      unfold F__law_looks fb__law_looks
      repeat first | simp only [g2, g_add, eC, rg, e1, e3, a12, e4, rg2, e5, eqI, eL] | walk_at "fl"
      rfl
    · have z : decide (w = 1) = false := decide_eq_false kw
      unfold F__law_looks fb__law_looks
      repeat first | simp only [g2, g_add, eC, rg, e1, e3, a12, e4, rg2, e5, eqI, z] | walk_at "fl"
      rfl
end K25

namespace K25
open PySem hiding rule
open PySem.Spec PyProof.Rows L2 DL FL RF NA
local macro_rules | `(tactic| walk_at "fl") => `(tactic| simp only [ap_var, ap_c, ap_un, ap_unV, ap_op, ap_opO, ap_fn, ap_nil, ap_cons, ap_tr, ap_b, ap_tand, ap_tor, ap_tnot, ap_and, ap_or, ap_not, ap_if, ap_chain, ap_tup, ap_lst, ap_lstO, ap_dictO, ap_frz, ap_sl, ap_no, ap_part, ap_mut, ap_call, ap_callK, ap_get, ap_dict, ap_isi, ap_rep, ap_listO, ap_seq, ap_iargs, ap_lc, ap_lcO, ap_yes, ap_sq, ap_ret, ap_drop, ap_sif, ap_nx, ap_bk, ap_ct, ap_asg, ap_setR, ap_runT, ap_bb0, ap_bbs, ap_bbn, ap_bbd, ap_bbc, ap_bbb, ap_sfrz, ap_setI, ap_setK, ap_for, ap_par, ap_asgT, ap_run, ap_see, ap_seeo, ap_seer, ap_getC, ap_setC, ap_sees0, ap_sees1, ap_parN, ap_view, ap_frza0, ap_frza, ap_frzc, ap_frzb, ap_frzd, ap_frzn, ap_call1, ap_c1o, ap_sar0, ap_sar1, ap_frv, ap_fro, ap_tgN, ap_tgT, fin_val, fin_own, fin_ref, fin_nx, bors_nil, bors_d, bors_b, R.bind_ok, ofO_some, ofB_some, ofOL_list, seeV, frV, vals, setAllF, wipeF, restF, callR, refsOf, argVs, putBack, setR2, setI, setK, ap_glt, ap_gle, ap_ggt, ap_gge, ap_gsub, ap_gadd, ap_gneg, ap_gix, ap_cutl, ap_cutt, ap_gtup, ap_glist, ap_glen, ap_gint, ap_gintb, ap_gabs, ap_gmax, ap_gmin, ap_isN, ap_notN, ap_geq, ap_gne, ap_eqi, ap_eqb, ap_eqs, ap_iol, ap_iot, ap_gtn, ap_gtb, ap_gti, ap_gtl, ap_gtt, ap_isn0, ap_isni, ap_isnl, ap_isnt, ap_revl, ap_revt, ap_enum, ap_zipl, ap_zipt, intsOf_map, boolsOf_map, ap_cellL, startF, List.map_cons, List.map_nil, List.length_cons, List.length_nil, List.replicate_succ, List.replicate_zero, List.cons_append, List.nil_append, List.append_nil, List.getElem?_cons_zero, List.getElem?_cons_succ, List.getElem?_nil, List.set_cons_zero, List.set_cons_succ, List.set_nil, Option.map_some, Option.map_none, Option.bind_some, Option.bind_none, Nat.reduceSub, Nat.reduceAdd, if_true, if_false, Bool.false_eq_true, reduceIte, true_and, and_true, Nat.sub_zero, Nat.zero_add, reduceCtorEq, List.nodup_nil, List.nodup_cons, List.not_mem_nil, not_false_eq_true, and_self, Bool.not_true, Bool.not_false, Bool.not_not, decide_true, decide_false, Nat.reduceLeDiff, atI0, atI1, req_true])
theorem p_two {m p : Int} (h : p ∈ primesOf m) : 2 ≤ p ∧ p ≤ 13 := by
  have := primes_six p h
  simp only [primes6, List.mem_cons, List.not_mem_nil, or_false] at this
  omega
theorem stp_cnt {p a : Int} {rows : List (List Int)} : (stp p a rows).1 ≤ 1 := by
  unfold stp
  split <;> simp
theorem elim_cnt {p : Int} : ∀ {as : List Int} {rows : List (List Int)}, (elim p as rows).1 ≤ as.length
  | [], _ => Nat.le_refl _
  | a :: as, rows => by
    have := elim_cnt (p := p) (as := as) (rows := (stp p a rows).2)
    have := stp_cnt (p := p) (a := a) (rows := rows)
    rw [elim_cons, List.length_cons]
    omega
theorem fd_small : ∀ m ∈ mods, ∀ p ∈ primesOf m, 0 ≤ m / p ∧ m / p ≤ 15 := by decide
theorem e_torn {c : Cell} {n C : Nat} {m : Int} {x3 : PyData} {qs : List (List Int × Int)} (h : Pot n c) (hm : m ∈ mods) (hC : C ≤ 7) (hq : Lks m C qs) (ne : qs ≠ []) (lq : qs.length ≤ 11) (hn : n ≤ 50000) :
    ∃ qs' c', F__law_torn [.b c, .d (.int m), .d (lks qs), .d x3] = .ok (.val (lks qs')) [c'] ∧ Lks m C qs' ∧ qs'.length ≤ 12 ∧ Pot (n + 10) c' := by
  have mb := modsB hm
  have m0 : 0 < m := by omega
  have l0 := List.length_pos_iff.mpr ne
  have eP := e_law_primes m
  have lP : ((iv (primesOf m)).length : Int) = ((primesOf m).length : Int) := by simp [iv]
  have lP2 : ∀ m ∈ mods, 0 < (primesOf m).length ∧ (primesOf m).length ≤ 2 := by decide
  obtain ⟨lp0, lp1⟩ := lP2 m hm
  obtain ⟨r, c1, e1, r0, r1, p1⟩ := dr h (many := ((primesOf m).length : Int)) (by omega) (by omega) (by omega)
  obtain ⟨pd, ep, hpd⟩ := getI (xs := iv (primesOf m)) r0 (by rw [lP]; exact r1)
  obtain ⟨p, hp, rfl⟩ := iv_mem hpd
  have pb := p_two hp
  have hlen : ((qs.map lk).length : Int) = (qs.length : Int) := by simp
  obtain ⟨s, c2, e2, s0, s1, p2⟩ := dr p1 (many := (qs.length : Int)) (by omega) (by omega) (by omega)
  obtain ⟨t, c3, e3, t0, t1, p3⟩ := dr p2 (many := (qs.length : Int)) (by omega) (by omega) (by omega)
  obtain ⟨u, c4, e4, u0, u1, p4⟩ := dr p3 (many := p - 1) (by omega) (by omega) (by omega)
  obtain ⟨da, i1, ha⟩ := getI (xs := qs.map lk) s0 (by rw [hlen]; exact s1)
  obtain ⟨db, i2, hb⟩ := getI (xs := qs.map lk) t0 (by rw [hlen]; exact t1)
  obtain ⟨qa, ma, rfl⟩ := List.mem_map.mp ha
  obtain ⟨qb, mb2, rfl⟩ := List.mem_map.mp hb
  obtain ⟨pa, la, _, _⟩ := hq.ok qa ma
  obtain ⟨pb2, lb, _, _⟩ := hq.ok qb mb2
  have ia : (iv qa.1).length = C := by rw [← la]; exact List.length_map _
  have ib : (iv qb.1).length = C := by rw [← lb]; exact List.length_map _
  have zl : (zipD (iv qa.1) (iv qb.1)).length = C := by rw [zip_eqlen (by omega)]; exact ia
  obtain ⟨ws, e6, pw, lw⟩ := lc_in (gf := tgT [9, 10]) (fe := fOp gMod (fFn gInt (faCons (fOp gAdd (fVar 9) (fVar 10)) faNil)) (fVar 1)) (vs := [9, 10]) (ε := [some (.b c3), some (.d (.int m)), some (.d (lks qs)), some (.d x3), some (.d (.list (iv (primesOf m)))), some (.d (.int p)), some (.d (lk qa)), some (.d (lk qb)), none, none, none, none]) (ds := zipD (iv qa.1) (iv qb.1)) (m := m) (by omega) (by
    intro d hd
    obtain ⟨x, y, hx, hy, rfl⟩ := zip_mem _ _ _ hd
    obtain ⟨i, hi, rfl⟩ := iv_mem hx
    obtain ⟨j, hj, rfl⟩ := iv_mem hy
    refine ⟨(i + j) % m, emodP m0, _, rfl, by walk_at "fl", ?_⟩
    repeat first | simp only [g_mod m0, g_add] | walk_at "fl")
  have gz : gZip [.tuple (iv qa.1), .tuple (iv qb.1)] = some (zipD (iv qa.1) (iv qb.1)) := rfl
  have j1 : atI [PyData.tuple (iv qa.1), .int qa.2] 0 = some (.tuple (iv qa.1)) := atI0
  have j2 : atI [PyData.tuple (iv qb.1), .int qb.2] 0 = some (.tuple (iv qb.1)) := atI0
  have j3 : atI [PyData.tuple (iv qa.1), .int qa.2] 1 = some (.int qa.2) := atI1
  have j4 : atI [PyData.tuple (iv qb.1), .int qb.2] 1 = some (.int qb.2) := atI1
  have fd := fd_small m hm p hp
  have gd : FL.gFdiv (.int m) (.int p) = some (.int (m / p)) := g_fdiv (divW (by omega) (Int.lt_of_le_of_lt (b := 13) (by omega) (by decide)) _)
  have gm : FL.gMul (.int (m / p)) (.int (1 + u)) = some (.int (m / p * (1 + u))) := g_mul (bits_small (by omega) (by omega))
  refine ⟨qs ++ [(ws, (qa.2 + qb.2 + m / p * (1 + u)) % m)], c4, ?_, ⟨fun q h => ?_, by rw [List.length_append, List.length_singleton]; omega⟩, by rw [List.length_append, List.length_singleton]; omega, p4.mono (by omega)⟩
  · have ga : FL.gAdd (.tuple (qs.map lk)) (.tuple [.tuple [.tuple (iv ws), .int ((qa.2 + qb.2 + m / p * (1 + u)) % m)]]) = some (lks (qs ++ [(ws, (qa.2 + qb.2 + m / p * (1 + u)) % m)])) := (gadd_tup (by rw [List.length_map]; simp; omega)).trans (by simp [lks, lk])
    generalize lks (qs ++ [(ws, (qa.2 + qb.2 + m / p * (1 + u)) % m)]) = Z at ga ⊢
    unfold F__law_torn fb__law_torn
    rw [show lk qa = .tuple [.tuple (iv qa.1), .int qa.2] from rfl] at i1 e6
    rw [show lk qb = .tuple [.tuple (iv qb.1), .int qb.2] from rfl] at i2 e6
    unfold lks at e6 ⊢
    repeat first | simp only [eP, lP, e1, ep, hlen, e2, e3, e4, i1, i2, j1, j2, j3, j4, gz, e6, gd, g_add, gm, g_mod m0, ga] | walk_at "fl"
  · rcases List.mem_append.mp h with h | h
    · exact hq.ok q h
    · rw [List.mem_singleton.mp h]
      exact ⟨pw, lw.trans zl, (emodP m0).1, (emodP m0).2⟩
theorem loop_mul {p : Int} {x0 x1 x2 x3 x5 x9 : Option FV} (p0 : 0 < p) (p1 : p < 16) : ∀ (ds : List PyData) (f : Int) (k : Nat) (y : Option FV), 0 < f → f < 2 ^ k → k + 4 * ds.length ≤ 10000 → bb y = false →
    ∃ f' y', fsGo (tgN 10) lb__law_count_2 ds [x0, x1, x2, x3, some (.d (.int f)), x5, none, none, some (.d (.int p)), x9, y]
      = .ok .nx [x0, x1, x2, x3, some (.d (.int f')), x5, none, none, some (.d (.int p)), x9, y'] ∧ 0 < f' ∧ f' < 2 ^ (k + 4 * ds.length) ∧ bb y' = false
  | [], f, k, y, f0, f1, _, b => ⟨f, y, rfl, f0, f1, b⟩
  | d :: ds, f, k, y, f0, f1, hk, b => by
    simp only [List.length_cons] at hk
    have hb : Bits f p := Bits.of (a := k) (b := 4) (bits_le (by
      have : ((2 ^ k : Nat) : Int) = (2 : Int) ^ k := by simp
      omega)) (bits_le (by omega)) (by omega)
    have q0 : 0 < f * p := Int.mul_pos f0 p0
    have q1 : f * p < 2 ^ (k + 4) := by
      rw [Int.pow_add]
      exact Int.lt_of_lt_of_le (Int.mul_lt_mul_of_pos_right f1 p0) (Int.mul_le_mul_of_nonneg_left (by omega) (by omega))
    obtain ⟨f', y', e, g0, g1, b'⟩ := loop_mul (x0 := x0) (x1 := x1) (x2 := x2) (x3 := x3) (x5 := x5) (x9 := x9) p0 p1 ds (f * p) (k + 4) (some (.d d)) q0 q1 (by omega) rfl
    refine ⟨f', y', (go_nx ?_).trans e, g0, by rw [List.length_cons, Nat.mul_add, Nat.mul_one, Nat.add_comm (4 * ds.length), ← Nat.add_assoc]; exact g1, b'⟩
    unfold lb__law_count_2
    repeat first | simp only [b, g_mul hb] | walk_at "fl"
def rowsOf (qs : List (List Int × Int)) : List (List Int) := qs.map fun q => q.1 ++ [q.2]
theorem loop_count {C : Nat} {qs : List (List Int × Int)} {x0 x1 x2 : Option FV} (hq : ∀ q ∈ qs, q.1.length = C) (hC : C ≤ 100) (lq : qs.length ≤ 1000) : ∀ (ps : List Int) (f : Int) (k : Nat) (y8 y9 y10 : Option FV), (∀ p ∈ ps, p ∈ primes6) → 0 < f → f < 2 ^ k → k + 400 * ps.length ≤ 10000 → bb y8 = false → bb y9 = false → bb y10 = false →
    (refL C qs ps = none ∧ ∃ f' z8 z9 z10, 0 < f' ∧ fsGo (tgN 8) lb__law_count_1 (iv ps) [x0, x1, x2, some (.d (.int C)), some (.d (.int f)), some (.d (.list ((rowsOf qs).map NA.ld))), none, none, y8, y9, y10]
      = .ok .nx [x0, x1, x2, some (.d (.int C)), some (.d (.int f')), some (.d (.list ((rowsOf qs).map NA.ld))), none, none, z8, z9, z10]) ∨
    (refL C qs ps ≠ none ∧ ∃ f' z8 z9 z10, fsGo (tgN 8) lb__law_count_1 (iv ps) [x0, x1, x2, some (.d (.int C)), some (.d (.int f)), some (.d (.list ((rowsOf qs).map NA.ld))), none, none, y8, y9, y10]
      = .ok (.rt (.val (.int 0))) [x0, x1, x2, some (.d (.int C)), some (.d (.int f')), some (.d (.list ((rowsOf qs).map NA.ld))), none, none, z8, z9, z10])
  | [], f, k, y8, y9, y10, _, f0, _, _, _, _, _ => .inl ⟨rfl, f, y8, y9, y10, f0, rfl⟩
  | p :: ps, f, k, y8, y9, y10, hp, f0, f1, hk, b8, b9, b10 => by
    simp only [List.length_cons] at hk
    have p6 := hp p List.mem_cons_self
    have pb := modsB (p6_mods p6)
    have pb3 : p ≤ 13 := by
      simp only [primes6, List.mem_cons, List.not_mem_nil, or_false] at p6
      omega
    have lr : (rowsOf qs).length ≤ 1000 := by unfold rowsOf; rw [List.length_map]; exact lq
    have hr : ∀ r ∈ rowsOf qs, r.length = C + 1 := fun r h => by
      unfold rowsOf at h
      obtain ⟨q, hq', rfl⟩ := List.mem_map.mp h
      rw [List.length_append, List.length_singleton, hq q hq']
    have e1 := e_rank (C := C) (w := C + 1) p6 (by omega) (by omega) hr lr
    have e2 := e_rank (C := C + 1) (w := C + 1) p6 (by omega) (by omega) hr lr
    have ec : (C : Int) + 1 = ((C + 1 : Nat) : Int) := by omega
    have hb := rank_bad (p := p) (n := C) (qs := qs) hq
    have hb : (elim p (upN C) (modR p (rowsOf qs))).1 = (elim p (upN (C + 1)) (modR p (rowsOf qs))).1 ↔ bad C (restR p C qs) = none := hb
    have hle : (elim p (upN C) (modR p (rowsOf qs))).1 ≤ C := Nat.le_trans elim_cnt (by simp [upN])
    generalize (elim p (upN C) (modR p (rowsOf qs))).1 = ra at e1 hb hle
    generalize (elim p (upN (C + 1)) (modR p (rowsOf qs))).1 = rb at e2 hb
    rw [show iv (p :: ps) = .int p :: iv ps from rfl]
    cases eb : bad C (restR p C qs) with
    | none =>
      have hab : ra = rb := hb.mpr eb
      subst hab
      have q1 : decide ((ra : Int) = (ra : Int)) = true := decide_eq_true rfl
      have rg : gRange1 [.int ((C : Int) - (ra : Int))] = some (rangeD 0 ((C : Int) - (ra : Int)).toNat) := req_pos (by omega)
      have lR : (rangeD 0 ((C : Int) - (ra : Int)).toNat).length ≤ 100 := by simp [rangeD]; omega
      obtain ⟨f2, y, e3, g0, g1, b⟩ := loop_mul (p := p) (x0 := x0) (x1 := x1) (x2 := x2) (x3 := some (.d (.int C))) (x5 := some (.d (.list ((rowsOf qs).map NA.ld)))) (x9 := some (.d (.int ra))) (by omega) (by omega) (rangeD 0 ((C : Int) - (ra : Int)).toNat) f k y10 f0 f1 (by omega) b10
      have t : runT (tgN 8) lb__law_count_1 (.int p) [x0, x1, x2, some (.d (.int C)), some (.d (.int f)), some (.d (.list ((rowsOf qs).map NA.ld))), none, none, y8, y9, y10]
          = .ok .nx [x0, x1, x2, some (.d (.int C)), some (.d (.int f2)), some (.d (.list ((rowsOf qs).map NA.ld))), none, none, some (.d (.int p)), some (.d (.int ra)), y] := by
        unfold lb__law_count_1
        repeat first | simp only [b8, b9, e1, ec, e2, eqI, q1, rg, e3] | walk_at "fl"
      have f3 : f2 < 2 ^ (k + 400) := Int.lt_of_lt_of_le g1 (by
        have : (2 : Nat) ^ (k + 4 * (rangeD 0 ((C : Int) - (ra : Int)).toNat).length) ≤ 2 ^ (k + 400) := Nat.pow_le_pow_right (by decide) (by omega)
        have e1 : ((2 ^ (k + 4 * (rangeD 0 ((C : Int) - (ra : Int)).toNat).length) : Nat) : Int) = (2 : Int) ^ (k + 4 * (rangeD 0 ((C : Int) - (ra : Int)).toNat).length) := by simp
        have e2 : ((2 ^ (k + 400) : Nat) : Int) = (2 : Int) ^ (k + 400) := by simp
        omega)
      have hL : refL C qs (p :: ps) = refL C qs ps := by
        rw [refL, eb]
      rw [hL]
      rcases loop_count (x0 := x0) (x1 := x1) (x2 := x2) hq hC lq ps f2 (k + 400) (some (.d (.int p))) (some (.d (.int ra))) y (fun p h => hp p (List.mem_cons_of_mem _ h)) g0 f3 (by omega) rfl rfl b with ⟨a, f', z8, z9, z10, h0, e⟩ | ⟨a, f', z8, z9, z10, e⟩
      · exact .inl ⟨a, f', z8, z9, z10, h0, (go_nx t).trans e⟩
      · exact .inr ⟨a, f', z8, z9, z10, (go_nx t).trans e⟩
    | some r =>
      have hab : ra ≠ rb := fun z => by rw [hb.mp z] at eb; cases eb
      have q1 : decide ((ra : Int) = (rb : Int)) = false := decide_eq_false (by omega)
      refine .inr ⟨by rw [refL, eb]; simp, f, some (.d (.int p)), some (.d (.int ra)), y10, go_rt ?_⟩
      unfold lb__law_count_1
      repeat first | simp only [b8, b9, e1, ec, e2, eqI, q1] | walk_at "fl"
theorem e_count {m : Int} {g : Nat} {qs : List (List Int × Int)} (hm : m ∈ mods) (hg : g ≤ 3) (h : Lks m (2 * g + 1) qs) :
    ∃ z : Int, F__law_count [.d (.int m), .d (.int g), .d (lks qs)] = tell (.int z) ∧ (decide (z > 0) = decide (refL (2 * g + 1) qs (primesOf m) = none)) := by
  have eC : 2 * (g : Int) + 1 = ((2 * g + 1 : Nat) : Int) := by omega
  have g2 := g_mul (bits_small (v := 2) (c := (g : Int)) (by decide) (by omega))
  obtain ⟨C, hC⟩ : ∃ C, C = 2 * g + 1 := ⟨_, rfl⟩
  rw [← hC] at eC h ⊢
  have eP := e_law_primes m
  have lnq := h.ln
  have hlc : fLcGo (tgT [6, 7]) fYes (fOp gAdd (fFn gList (faCons (fVar 6) faNil)) (fLst (faCons (fVar 7) faNil))) [6, 7] (qs.map lk) [] [some (.d (.int m)), some (.d (.int g)), some (.d (lks qs)), some (.d (.int C)), some (.d (.int 1)), none, none, none, none, none, none]
      = .ok ((rowsOf qs).map NA.ld) [some (.d (.int m)), some (.d (.int g)), some (.d (lks qs)), some (.d (.int C)), some (.d (.int 1)), none, none, none, none, none, none] := by
    rw [lc_all (fun d => match d with
      | .tuple [.tuple xs, y] => .list (xs ++ [y])
      | _ => .none) (by rw [List.length_map]; omega)]
    · congr 1
      unfold rowsOf
      rw [List.map_map, List.map_map]
      refine List.map_congr_left fun q _ => ?_
      show PyData.list (iv q.1 ++ [.int q.2]) = .list (iv (q.1 ++ [q.2]))
      rw [← iv_app]
      rfl
    · intro d hd
      obtain ⟨q, hq, rfl⟩ := List.mem_map.mp hd
      obtain ⟨_, lq, _, _⟩ := h.ok q hq
      have ga : FL.gAdd (.list (iv q.1)) (.list [.int q.2]) = some (.list (iv q.1 ++ [.int q.2])) := gadd_lst (by rw [show (iv q.1).length = q.1.length from List.length_map _]; simp; omega)
      unfold lk
      refine ⟨_, rfl, by walk_at "fl", ?_⟩
      repeat first | simp only [ga] | walk_at "fl"
  have lP2 : (primesOf m).length ≤ 6 := List.length_filter_le _ _
  rcases loop_count (C := C) (qs := qs) (x0 := some (.d (.int m))) (x1 := some (.d (.int g))) (x2 := some (.d (lks qs))) (fun q hq => (h.ok q hq).2.1) (by omega) lnq (primesOf m) 1 1 none none none primes_six (by decide) (by decide) (by omega) rfl rfl rfl with ⟨a, f', z8, z9, z10, h0, e⟩ | ⟨a, f', z8, z9, z10, e⟩
  · refine ⟨f', ?_, by rw [decide_eq_true h0, decide_eq_true a]⟩
    unfold F__law_count fb__law_count
    unfold lks at hlc e ⊢
    repeat first | simp only [g2, g_add, eC, hlc, eP, e] | walk_at "fl"
  · refine ⟨0, ?_, by rw [decide_eq_false a]; rfl⟩
    unfold F__law_count fb__law_count
    unfold lks at hlc e ⊢
    repeat first | simp only [g2, g_add, eC, hlc, eP, e] | walk_at "fl"
end K25

namespace K25
open PySem hiding rule
open PySem.Spec PyProof.Rows L2 DL FL RF NA
local macro_rules | `(tactic| walk_at "fl") => `(tactic| simp only [ap_var, ap_c, ap_un, ap_unV, ap_op, ap_opO, ap_fn, ap_nil, ap_cons, ap_tr, ap_b, ap_tand, ap_tor, ap_tnot, ap_and, ap_or, ap_not, ap_if, ap_chain, ap_tup, ap_lst, ap_lstO, ap_dictO, ap_frz, ap_sl, ap_no, ap_part, ap_mut, ap_call, ap_callK, ap_get, ap_dict, ap_isi, ap_rep, ap_listO, ap_seq, ap_iargs, ap_lc, ap_lcO, ap_yes, ap_sq, ap_ret, ap_drop, ap_sif, ap_nx, ap_bk, ap_ct, ap_asg, ap_setR, ap_runT, ap_bb0, ap_bbs, ap_bbn, ap_bbd, ap_bbc, ap_bbb, ap_sfrz, ap_setI, ap_setK, ap_for, ap_par, ap_asgT, ap_run, ap_see, ap_seeo, ap_seer, ap_getC, ap_setC, ap_sees0, ap_sees1, ap_parN, ap_view, ap_frza0, ap_frza, ap_frzc, ap_frzb, ap_frzd, ap_frzn, ap_call1, ap_c1o, ap_sar0, ap_sar1, ap_frv, ap_fro, ap_tgN, ap_tgT, fin_val, fin_own, fin_ref, fin_nx, bors_nil, bors_d, bors_b, R.bind_ok, ofO_some, ofB_some, ofOL_list, seeV, frV, vals, setAllF, wipeF, restF, callR, refsOf, argVs, putBack, setR2, setI, setK, ap_glt, ap_gle, ap_ggt, ap_gge, ap_gsub, ap_gadd, ap_gneg, ap_gix, ap_cutl, ap_cutt, ap_gtup, ap_glist, ap_glen, ap_gint, ap_gintb, ap_gabs, ap_gmax, ap_gmin, ap_isN, ap_notN, ap_geq, ap_gne, ap_eqi, ap_eqb, ap_eqs, ap_iol, ap_iot, ap_gtn, ap_gtb, ap_gti, ap_gtl, ap_gtt, ap_isn0, ap_isni, ap_isnl, ap_isnt, ap_revl, ap_revt, ap_enum, ap_zipl, ap_zipt, intsOf_map, boolsOf_map, ap_cellL, startF, List.map_cons, List.map_nil, List.length_cons, List.length_nil, List.replicate_succ, List.replicate_zero, List.cons_append, List.nil_append, List.append_nil, List.getElem?_cons_zero, List.getElem?_cons_succ, List.getElem?_nil, List.set_cons_zero, List.set_cons_succ, List.set_nil, Option.map_some, Option.map_none, Option.bind_some, Option.bind_none, Nat.reduceSub, Nat.reduceAdd, if_true, if_false, Bool.false_eq_true, reduceIte, true_and, and_true, Nat.sub_zero, Nat.zero_add, reduceCtorEq, List.nodup_nil, List.nodup_cons, List.not_mem_nil, not_false_eq_true, and_self, Bool.not_true, Bool.not_false, Bool.not_not, decide_true, decide_false, Nat.reduceLeDiff, atI0, atI1, req_true])
theorem wi_no {p : Int} {d : PyData} {ds : List PyData} (h : isWithin 0 (p - 1) d = false) : (d :: ds).all (isWithin 0 (p - 1)) = false := by rw [List.all_cons, h, Bool.false_and]
theorem loop_due {p : Int} {w : PyData} {x1 x2 x3 x5 : Option FV} : ∀ (ds : List PyData) (y : Option FV), bb y = false →
    (ds.all (isWithin 0 (p - 1)) = true ∧ ∃ z, fsGo (tgN 4) lb__law_due_1 ds [some (.d (.tuple [.int p, w])), x1, x2, x3, y, x5] = .ok .nx [some (.d (.tuple [.int p, w])), x1, x2, x3, z, x5] ∧ bb z = false) ∨
    (ds.all (isWithin 0 (p - 1)) = false ∧ ∃ z, fsGo (tgN 4) lb__law_due_1 ds [some (.d (.tuple [.int p, w])), x1, x2, x3, y, x5] = .ok (.rt (.val (.bool false))) [some (.d (.tuple [.int p, w])), x1, x2, x3, z, x5])
  | [], y, hy => .inl ⟨rfl, y, rfl, hy⟩
  | d :: ds, y, hy => by
    have no : isWithin 0 (p - 1) d = false → runT (tgN 4) lb__law_due_1 d [some (.d (.tuple [.int p, w])), x1, x2, x3, y, x5] = .ok (.rt (.val (.bool false))) [some (.d (.tuple [.int p, w])), x1, x2, x3, some (.d d), x5] → ((d :: ds).all (isWithin 0 (p - 1)) = true ∧ ∃ z, fsGo (tgN 4) lb__law_due_1 (d :: ds) [some (.d (.tuple [.int p, w])), x1, x2, x3, y, x5] = .ok .nx [some (.d (.tuple [.int p, w])), x1, x2, x3, z, x5] ∧ bb z = false) ∨
        ((d :: ds).all (isWithin 0 (p - 1)) = false ∧ ∃ z, fsGo (tgN 4) lb__law_due_1 (d :: ds) [some (.d (.tuple [.int p, w])), x1, x2, x3, y, x5] = .ok (.rt (.val (.bool false))) [some (.d (.tuple [.int p, w])), x1, x2, x3, z, x5]) :=
      fun h e => .inr ⟨wi_no h, _, go_rt e⟩
    rcases int_cases d with ⟨i, rfl⟩ | ⟨h, _⟩
    · by_cases hi : 0 ≤ i ∧ i < p
      · have t : runT (tgN 4) lb__law_due_1 (.int i) [some (.d (.tuple [.int p, w])), x1, x2, x3, y, x5] = .ok .nx [some (.d (.tuple [.int p, w])), x1, x2, x3, some (.d (.int i)), x5] := by
          have q0 : decide (i < 0) = false := decide_eq_false (by omega)
          have q1 : decide (i ≥ p) = false := decide_eq_false (by omega)
          unfold lb__law_due_1
          repeat first | simp only [hy, kI, kB, isI, NA.isB, q0, q1] | walk_at "fl"
        have e0 : (PyData.int i :: ds).all (isWithin 0 (p - 1)) = ds.all (isWithin 0 (p - 1)) := by
          rw [List.all_cons]
          have : isWithin 0 (p - 1) (.int i) = true := by
            simp only [isWithin, Bool.and_eq_true, decide_eq_true_eq]
            omega
          rw [this, Bool.true_and]
        rw [e0]
        rcases loop_due (p := p) (w := w) (x1 := x1) (x2 := x2) (x3 := x3) (x5 := x5) ds (some (.d (.int i))) rfl with ⟨a, z, e, b⟩ | ⟨a, z, e⟩
        · exact .inl ⟨a, z, (go_nx t).trans e, b⟩
        · exact .inr ⟨a, z, (go_nx t).trans e⟩
      · refine no ?_ ?_
        · simp only [isWithin, Bool.and_eq_false_iff, decide_eq_false_iff_not]
          omega
        · by_cases h0 : i < 0
          · have q0 : decide (i < 0) = true := decide_eq_true h0
            unfold lb__law_due_1
            repeat first | simp only [hy, kI, kB, isI, NA.isB, q0] | walk_at "fl"
          · have q0 : decide (i < 0) = false := decide_eq_false h0
            have q1 : decide (i ≥ p) = true := decide_eq_true (by omega)
            unfold lb__law_due_1
            repeat first | simp only [hy, kI, kB, isI, NA.isB, q0, q1] | walk_at "fl"
    · refine no ?_ ?_
      · cases d <;> first | rfl | cases h
      · cases d with
        | int i => cases h
        | _ =>
          unfold lb__law_due_1
          repeat first | simp only [hy, kI, kB, isI, NA.isB] | walk_at "fl"
theorem cut_init {A : List Int} {b : Int} : DL.cutD (iv (A ++ [b])) none (some (-1)) = iv A := by
  have lr : (iv (A ++ [b])).length = A.length + 1 := by simp [iv]
  have e1 : HT.sIx (iv (A ++ [b])).length (iv (A ++ [b])).length (some (-1)) = A.length := by
    simp only [HT.sIx, lr]
    split <;> omega
  have e2 : HT.sIx (iv (A ++ [b])).length 0 none = 0 := rfl
  unfold DL.cutD
  rw [e1, e2, List.drop_zero]
  unfold iv
  rw [List.map_append, Nat.sub_zero, List.take_left' (by rw [List.length_map])]
theorem ixl {xs : List Int} {x : Int} : atI (iv (xs ++ [x])) (-1) = some (.int x) := by
  unfold iv
  rw [List.map_append]
  exact atI_last _ _
theorem okL_md {p : Int} {C : Nat} {A : List Int} {b : Int} (h : A.length = C) : okL p C (A ++ [b]) = (decide (mdL p A = List.replicate C 0) && !decide (b % p = 0)) := by
  subst h
  have h1 : (A.map fun t => decide (t % p = 0)) = List.replicate A.length true ↔ mdL p A = List.replicate A.length 0 := by
    unfold mdL
    rw [List.eq_replicate_iff, List.eq_replicate_iff]
    simp
  unfold okL
  rw [List.map_append, Bool.eq_iff_iff]
  simp only [decide_eq_true_eq, Bool.and_eq_true, Bool.not_eq_true', decide_eq_false_iff_not]
  rw [← h1]
  constructor
  · intro h
    obtain ⟨a, b⟩ := List.append_inj h (by simp)
    exact ⟨a, by simpa using b⟩
  · rintro ⟨a, b⟩
    rw [a]
    simp [b]
theorem zrow {C g : Nat} (hC : (C : Int) = 2 * (g : Int) + 1) (hg : g ≤ 3) (x0 x1 x3 x4 x5 : Option FV) : frz (fRep (fLstO (faCons (fC (.int 0)) faNil)) (fOp gAdd (fOp gMul (fC (.int 2)) (fVar 2)) (fC (.int 1)))) [x0, x1, some (.d (.int g)), x3, x4, x5]
    = .ok (.val (.list (iv (List.replicate C 0)))) [x0, x1, some (.d (.int g)), x3, x4, x5] := by
  have g2 := g_mul (bits_small (v := 2) (c := (g : Int)) (by decide) (by omega))
  have t1 : fLstO (faCons (fC (.int 0)) faNil) [x0, x1, some (.d (.int g)), x3, x4, x5] = .ok (.own (.lst [.int 0])) [x0, x1, some (.d (.int g)), x3, x4, x5] := by walk_at "fl"
  have t2 : fOp gAdd (fOp gMul (fC (.int 2)) (fVar 2)) (fC (.int 1)) [x0, x1, some (.d (.int g)), x3, x4, x5] = .ok (.val (.int (C : Int))) [x0, x1, some (.d (.int g)), x3, x4, x5] := by
    repeat first | simp only [g2, g_add, hC] | walk_at "fl"
  rw [ap_frz, ap_rep, t1, R.bind_ok, t2, R.bind_ok]
  show R.bind (repR (some [.int 0]) (some (.int (C : Int))) _) _ = _
  rw [repR_ok' (by omega) (by omega) (by rw [Int.toNat_natCast, List.length_singleton]; omega), Int.toNat_natCast, flat_rep, rep_iv, R.bind_ok]
  rfl
theorem tT {xs : List PyData} : isT (.tuple xs) = true := rfl
theorem e_due {m : Int} {g : Nat} {qs : List (List Int × Int)} (hm : m ∈ mods) (hg : g ≤ 3) (h : Lks m (2 * g + 1) qs) (v : PyData) : F__law_due [.d v, .d (.int m), .d (.int g), .d (lks qs)] = tell (.bool (refB m (2 * g + 1) qs v)) := by
  have mb := modsB hm
  have eC : 2 * (g : Int) + 1 = ((2 * g + 1 : Nat) : Int) := by omega
  have g2 := g_mul (bits_small (v := 2) (c := (g : Int)) (by decide) (by omega))
  obtain ⟨C, hC⟩ : ∃ C, C = 2 * g + 1 := ⟨_, rfl⟩
  rw [← hC] at eC h ⊢
  have eP := e_law_primes m
  have hlen : ((qs.map lk).length : Int) = (qs.length : Int) := by simp
  have no : hasP m v = false → refB m C qs v = false := refB_no
  have q2 : decide (((2 : Nat) : Int) = 2) = true := rfl
  cases v with
  | tuple xs =>
    rcases two_cases (.tuple xs) with ⟨x, w, e⟩ | ⟨h1, h2⟩
    · cases e
      rcases int_cases x with ⟨p, rfl⟩ | ⟨h1, h2⟩
      · by_cases hp : p ∈ primesOf m
        · have gn : gNin (.int p) (.list (iv (primesOf m))) = some (.bool false) := by rw [gNin_l, decide_eq_true hp]; rfl
          rcases tup_cases w with ⟨ws, rfl⟩ | ⟨h1, h2⟩
          · by_cases hl : ws.length = qs.length
            · have ql : decide ((ws.length : Int) = (qs.length : Int)) = true := decide_eq_true (by omega)
              have p2 := p_two hp
              rcases loop_due (p := p) (w := .tuple ws) (x1 := some (.d (.int m))) (x2 := some (.d (.int g))) (x3 := some (.d (lks qs))) (x5 := none) ws none rfl with ⟨a, z, e, b⟩ | ⟨a, z, e⟩
              · obtain ⟨ew, pw⟩ := wtsI_ok a
                have lw : (wtsI ws).length = qs.length := by rw [wtsI_len, hl]
                have hR : refB m C qs (.tuple [.int p, .tuple ws]) = okL p C (accL (wtsI ws) qs (List.replicate (C + 1) 0)) := by
                  have hr : isRem qs.length p (.tuple ws) = true := by
                    simp only [isRem, hl, a, decide_true, Bool.and_self]
                  simp only [refB, hr, decide_eq_true hp, Bool.true_and]
                rw [hR]
                generalize wtsI ws = W at *
                subst ew
                have es := e_sums (p := p) (n := C) mb.2 (by omega) p2.2 (by omega) h pw
                have la : (accL W qs (List.replicate (C + 1) 0)).length = C + 1 := accL_len List.length_replicate fun q hq => (h.ok q hq).2.1
                generalize accL W qs (List.replicate (C + 1) 0) = T at es la
                have hne : T ≠ [] := fun z => by rw [z] at la; cases la
                obtain ⟨A, t, rfl⟩ : ∃ A t, T = A ++ [t] := ⟨T.dropLast, T.getLast hne, (List.dropLast_concat_getLast hne).symm⟩
                rw [List.length_append, List.length_singleton] at la
                rw [okL_md (by omega)]
                have em : mdL p (A ++ [t]) = mdL p A ++ [t % p] := by simp [mdL]
                rw [em] at es
                have a3 := zrow (C := C) eC.symm hg
                have q1 : eqP (.list (iv (mdL p A))) (.list (iv (List.replicate C 0))) = some (decide (mdL p A = List.replicate C 0)) := eqL_iv
                generalize List.replicate C (0 : Int) = Z at a3 q1
                generalize mdL p A = M at es q1
                have ci := cut_init (A := M) (b := t % p)
                have il := ixl (xs := M) (x := t % p)
                unfold F__law_due fb__law_due
                generalize frz (fRep (fLstO (faCons (fC (.int 0)) faNil)) (fOp gAdd (fOp gMul (fC (.int 2)) (fVar 2)) (fC (.int 1)))) = G at a3 ⊢
                unfold lks at e es ⊢
                repeat first | simp only [kT, isT, kI, kB, isI, NA.isB, q2, eP, gn, ql, hlen, e, g2, g_add, eC, es, a3, ci, il, q1, eqI] | walk_at "fl"
                by_cases hM : M = Z
                · rw [decide_eq_true hM]
                  walk_at "fl"
                  rw [Bool.true_and]
                · rw [decide_eq_false hM]
                  walk_at "fl"
                  rw [Bool.false_and]
              · have hr : isRem qs.length p (.tuple ws) = false := by simp only [isRem, a, Bool.and_false]
                rw [refB_no2 hr]
                unfold F__law_due fb__law_due
                unfold lks at e ⊢
                repeat first | simp only [kT, isT, kI, kB, isI, NA.isB, q2, eP, gn, ql, hlen, e] | walk_at "fl"
            · have ql : decide ((ws.length : Int) = (qs.length : Int)) = false := decide_eq_false (by omega)
              have hr : isRem qs.length p (.tuple ws) = false := by simp only [isRem, hl, decide_false, Bool.false_and]
              rw [refB_no2 hr]
              unfold F__law_due fb__law_due
              unfold lks
              repeat first | simp only [kT, isT, kI, kB, isI, NA.isB, q2, eP, gn, ql, hlen] | walk_at "fl"
          · rw [refB_no2 (h2 _ _)]
            unfold F__law_due fb__law_due
            unfold lks
            repeat first | simp only [kT, tT, h1, kI, kB, isI, NA.isB, q2, eP, gn] | walk_at "fl"
        · have gn : gNin (.int p) (.list (iv (primesOf m))) = some (.bool true) := by rw [gNin_l, decide_eq_false hp]; rfl
          have hh : hasP m (.tuple [.int p, w]) = false := by simp only [hasP, hp, decide_false]
          rw [no hh]
          unfold F__law_due fb__law_due
          unfold lks
          repeat first | simp only [kT, isT, kI, kB, isI, NA.isB, q2, eP, gn] | walk_at "fl"
      · rw [no (h2 _ _)]
        cases x with
        | int i => cases h1
        | _ =>
          unfold F__law_due fb__law_due
          unfold lks
          repeat first | simp only [kT, isT, kI, kB, isI, NA.isB, q2] | walk_at "fl"
    · rw [no (h2 _)]
      have q3 : decide ((xs.length : Int) = 2) = false := by
        refine decide_eq_false fun z => ?_
        match xs, h1, z with
        | [_, _], h1, _ => cases h1
        | [], _, z => simp at z
        | [_], _, z => simp at z
        | _ :: _ :: _ :: _, _, z => simp at z; omega
      unfold F__law_due fb__law_due
      unfold lks
      repeat first | simp only [kT, isT, q3, eqI] | walk_at "fl"
  | _ =>
    rw [no rfl]
    unfold F__law_due fb__law_due
    unfold lks
    repeat first | simp only [kT, isT] | walk_at "fl"
end K25

namespace K25
open PySem hiding rule
open PySem.Spec PyProof.Rows L2 DL FL RF NA
local macro_rules | `(tactic| walk_at "fl") => `(tactic| simp only [ap_var, ap_c, ap_un, ap_unV, ap_op, ap_opO, ap_fn, ap_nil, ap_cons, ap_tr, ap_b, ap_tand, ap_tor, ap_tnot, ap_and, ap_or, ap_not, ap_if, ap_chain, ap_tup, ap_lst, ap_lstO, ap_dictO, ap_frz, ap_sl, ap_no, ap_part, ap_mut, ap_call, ap_callK, ap_get, ap_dict, ap_isi, ap_rep, ap_listO, ap_seq, ap_iargs, ap_lc, ap_lcO, ap_yes, ap_sq, ap_ret, ap_drop, ap_sif, ap_nx, ap_bk, ap_ct, ap_asg, ap_setR, ap_runT, ap_bb0, ap_bbs, ap_bbn, ap_bbd, ap_bbc, ap_bbb, ap_sfrz, ap_setI, ap_setK, ap_for, ap_par, ap_asgT, ap_run, ap_see, ap_seeo, ap_seer, ap_getC, ap_setC, ap_sees0, ap_sees1, ap_parN, ap_view, ap_frza0, ap_frza, ap_frzc, ap_frzb, ap_frzd, ap_frzn, ap_call1, ap_c1o, ap_sar0, ap_sar1, ap_frv, ap_fro, ap_tgN, ap_tgT, fin_val, fin_own, fin_ref, fin_nx, bors_nil, bors_d, bors_b, R.bind_ok, ofO_some, ofB_some, ofOL_list, seeV, frV, vals, setAllF, wipeF, restF, callR, refsOf, argVs, putBack, setR2, setI, setK, ap_glt, ap_gle, ap_ggt, ap_gge, ap_gsub, ap_gadd, ap_gneg, ap_gix, ap_cutl, ap_cutt, ap_gtup, ap_glist, ap_glen, ap_gint, ap_gintb, ap_gabs, ap_gmax, ap_gmin, ap_isN, ap_notN, ap_geq, ap_gne, ap_eqi, ap_eqb, ap_eqs, ap_iol, ap_iot, ap_gtn, ap_gtb, ap_gti, ap_gtl, ap_gtt, ap_isn0, ap_isni, ap_isnl, ap_isnt, ap_revl, ap_revt, ap_enum, ap_zipl, ap_zipt, intsOf_map, boolsOf_map, ap_cellL, startF, List.map_cons, List.map_nil, List.length_cons, List.length_nil, List.replicate_succ, List.replicate_zero, List.cons_append, List.nil_append, List.append_nil, List.getElem?_cons_zero, List.getElem?_cons_succ, List.getElem?_nil, List.set_cons_zero, List.set_cons_succ, List.set_nil, Option.map_some, Option.map_none, Option.bind_some, Option.bind_none, Nat.reduceSub, Nat.reduceAdd, if_true, if_false, Bool.false_eq_true, reduceIte, true_and, and_true, Nat.sub_zero, Nat.zero_add, reduceCtorEq, List.nodup_nil, List.nodup_cons, List.not_mem_nil, not_false_eq_true, and_self, Bool.not_true, Bool.not_false, Bool.not_not, decide_true, decide_false, Nat.reduceLeDiff, atI0, atI1, req_true])
theorem e_judged {m : Int} {g : Nat} {qs : List (List Int × Int)} {v : PyData} (hm : m ∈ mods) (hg : g ≤ 3) (h : Lks m (2 * g + 1) qs) (hv : Show v) : F__law_judged [.d v, .d (.int m), .d (.int g), .d (lks qs)] = tell (.bool true) := by
  have e1 := e_due hm hg h v
  have e2 := e_refuses hm hg h v
  have e3 := g_repr hv
  generalize refB m (2 * g + 1) qs v = b at e1 e2
  generalize v.shown = s at e3
  generalize lks qs = L at e1 e2 ⊢
  have q1 : eqP (.bool b) (.bool b) = some true := by cases b <;> rfl
  have q2 : eqP (.str s) (.str s) = some true := by rw [ap_eqs, decide_eq_true rfl]
  have kb : (kitB (DL.kindOf (PyData.bool b)) "bool").getD false = true := by cases b <;> rfl
  unfold F__law_judged fb__law_judged
  repeat first | simp only [e1, e2, e3, q1, q2, kb] | walk_at "fl"
theorem e_paper {c : Cell} {n L : Nat} {p : Int} (h : Pot n c) (hp : 2 ≤ p ∧ p ≤ 13) (hL : L ≤ 100) (hn : n ≤ 50000) :
    ∃ ws c', F__law_paper [.b c, .d (.int p), .d (.int L)] = .ok (.val (.tuple [.int p, .tuple (iv ws)])) [c'] ∧ Pn p ws ∧ ws.length = L ∧ Pot (n + 100) c' := by
  have hR : (rangeD 0 ((L : Int)).toNat).length = L := by simp [rangeD]
  have rg : gRange1 [.int (L : Int)] = some (rangeD 0 ((L : Int)).toNat) := req_pos (by omega)
  obtain ⟨ys, ε', e1, e2, c1, rfl, p1⟩ := lc_rel (gf := tgN 3) (tt := fYes) (fe := fCall F__law_draw (faCons (fVar 0) (faCons (fVar 1) faNil))) (vs := [3])
    (fun j ε => ∃ c, ε = [some (.b c), some (.d (.int p)), some (.d (.int L)), none] ∧ Pot j c)
    (fun _ r => ∃ v : Int, r = PyData.int v ∧ 0 ≤ v ∧ v < p) 1 100000 (rangeD 0 ((L : Int)).toNat) [] n _ (by rw [List.length_nil, hR]; omega) (by rw [hR]; omega) ⟨c, rfl, h⟩ (by
      rintro d hd j ε ⟨c, rfl, hc⟩ hk
      obtain ⟨f, c', e, f0, f1, hp⟩ := dr hc (many := p) (by omega) (by omega) (by omega)
      refine ⟨_, _, .int f, [some (.b c'), some (.d (.int p)), some (.d (.int L)), some (.d d)], rfl, rfl, ?_, ⟨f, rfl, f0, f1⟩, c', by walk_at "fl", hp⟩
      repeat first | simp only [e] | walk_at "fl")
  obtain ⟨ws, rfl, pn, hl⟩ := paired_rg e2
  rw [hR] at hl p1
  rw [List.nil_append] at e1
  refine ⟨ws, c1, ?_, pn, hl, p1.mono (by omega)⟩
  unfold F__law_paper fb__law_paper
  repeat first | simp only [rg, e1] | walk_at "fl"
def OkV (d : PyData) : Prop := Sh 5 20000 d ∨ d = .dict []
theorem OkV.show {d : PyData} (h : OkV d) : Show d := by
  rcases h with h | rfl
  · exact h.show (by decide) (by decide)
  · exact ⟨by simp [PyData.showable, PyData.showableKv], shown_sz (n := 0) rfl (by simp [PyData.bulk, PyData.bulkKv]) (by decide), by simp [PyData.depth, PyData.depthKv], fun _ => .inl (by simp [noList, noListKv])⟩
theorem okv2 {x y : PyData} (h1 : Sh 2 2730 x) (h2 : Sh 2 2730 y) : OkV (.tuple [x, y]) := .inl ((h1.pair h2).mono (by decide) (by decide))
theorem e_odd {c : Cell} {n : Nat} {p : Int} {ws : List Int} (h : Pot n c) (hn : n ≤ 50000) (hp : 2 ≤ p ∧ p ≤ 13) (pw : Pn p ws) (lw : ws.length ≤ 60) :
    ∃ v c', F__law_odd [.b c, .d (.tuple [.int p, .tuple (iv ws)])] = .ok (.val v) [c'] ∧ OkV v ∧ Pot (n + 5) c' := by
  have iw : (iv ws).length = ws.length := List.length_map _
  have hlen : ((iv ws).length : Int) = (ws.length : Int) := by rw [iw]
  obtain ⟨r, cr, sr⟩ := cut_iv (l := ws) (lo := Option.none) (hi := some (-1))
  have lr := sr.length_le
  have es := g_str (i := p) (by omega) hp.2
  have gm := mulT_zeros (C := ws.length) (by omega)
  have gp : FL.gMul (.int p) (.int p) = some (.int (p * p)) := g_mul (bits_small (by omega) (by omega))
  have pp : (p * p).natAbs ≤ 200 := by
    have h0 : 0 ≤ p * p := Int.mul_nonneg (by omega) (by omega)
    have h1 : p * p ≤ 13 * 13 := Int.mul_le_mul hp.2 hp.2 (by omega) (by decide)
    omega
  have a1 : FL.gAdd (.tuple (iv ws)) (.tuple [.int 0]) = some (.tuple (iv ws ++ [.int 0])) := gadd_tup (by simp [iw]; omega)
  have hP : Sh 2 2730 (.int p) := (Sh.int (small63 (by omega))).mono (by decide) (by decide)
  have hi := ints_sh pw hp.2
  have hW : Sh 2 2730 (.tuple (iv ws)) := wt_sh hi (by omega)
  have h0 : Sh 1 20 (.int 0) := (Sh.int (small63 (by decide))).mono (by decide) (by decide)
  have s0 : Sh 2 2730 (.int 0) := h0.mono (by decide) (by decide)
  have s1 : Sh 2 2730 (.int 1) := (Sh.int (small63 (by decide))).mono (by decide) (by decide)
  generalize hWW : PyData.tuple (iv ws) = W at hW
  have A0 : ∀ d ∈ [PyData.none, .list [], .tuple [], .int 0, .bool true, .str "", .dict [], .list [.int p, W], .tuple [.int p, .list (iv ws)], .tuple [W, .int p]], OkV d := fun d hd => by
    simp only [List.mem_cons, List.not_mem_nil, or_false] at hd
    rcases hd with rfl | rfl | rfl | rfl | rfl | rfl | rfl | rfl | rfl | rfl
    · exact .inl (Sh.none.mono (by decide) (by decide))
    · exact .inl ((Sh.lst (k := 1) (n := 20) (xs := []) 1 (fun x hx => by cases hx) (by simp)).mono (by decide) (by decide))
    · exact .inl ((wt_sh (xs := []) (fun x hx => by cases hx) (by simp)).mono (by decide) (by decide))
    · exact .inl (s0.mono (by decide) (by decide))
    · exact .inl (Sh.bool.mono (by decide) (by decide))
    · exact .inl ⟨by decide +kernel, by simp [PyData.depth], by simp only [PyData.bulk]; decide +kernel, by simp [PyData.hasDict]⟩
    · exact .inr rfl
    · refine .inl ((Sh.lst (k := 2) (n := 2730) 2 (fun x hx => ?_) (by simp)).mono (by decide) (by decide))
      simp only [List.mem_cons, List.not_mem_nil, or_false] at hx
      rcases hx with rfl | rfl
      · exact hP
      · exact hW
    · exact okv2 hP (Sh.lst 130 hi (by omega))
    · exact okv2 hW hP
  have A1 : ∀ d ∈ [PyData.tuple [.int p], .tuple [.int p, W, .int 0], .tuple [.int p, .tuple (iv r)], .tuple [.int p, .tuple (iv ws ++ [.int 0])], W], OkV d := fun d hd => by
    simp only [List.mem_cons, List.not_mem_nil, or_false] at hd
    rcases hd with rfl | rfl | rfl | rfl | rfl
    · exact .inl ((Sh.tup 1 (fun x hx => by rw [List.mem_singleton.mp hx]; exact hP) (by simp)).mono (by decide) (by decide))
    · refine .inl ((Sh.tup (k := 2) (n := 2730) 3 (fun x hx => ?_) (by simp)).mono (by decide) (by decide))
      simp only [List.mem_cons, List.not_mem_nil, or_false] at hx
      rcases hx with rfl | rfl | rfl
      · exact hP
      · exact hW
      · exact s0
    · exact okv2 hP (wt_sh (ints_sh (fun z hz => pw z (sr.subset hz)) hp.2) (by simp [iv]; omega))
    · exact okv2 hP (wt_sh (fun x hx => (List.mem_append.mp hx).elim (hi x) (fun hx => by rw [List.mem_singleton.mp hx]; exact h0)) (by simp [iw]; omega))
    · exact .inl (hW.mono (by decide) (by decide))
  have A2 : ∀ d ∈ [PyData.tuple [.int p, .tuple []], .tuple [.int p, .tuple (iv (List.replicate ws.length 0))], .tuple [.int 0, W], .tuple [.int 1, W], .tuple [.int (-p), W]], OkV d := fun d hd => by
    simp only [List.mem_cons, List.not_mem_nil, or_false] at hd
    rcases hd with rfl | rfl | rfl | rfl | rfl
    · exact okv2 hP (wt_sh (xs := []) (fun x hx => by cases hx) (by simp))
    · exact okv2 hP (wt_sh (ints_sh (p := 13) (fun z hz => by rw [List.eq_of_mem_replicate hz]; decide) (by decide)) (by simp [iv]; omega))
    · exact okv2 s0 hW
    · exact okv2 s1 hW
    · exact okv2 ((Sh.int (small63 (by omega))).mono (by decide) (by decide)) hW
  have A3 : ∀ d ∈ [PyData.tuple [.str (toString p), W], .tuple [.list [.int p], W], .tuple [.int (p * p), W], .tuple [.bool true, W]], OkV d := fun d hd => by
    simp only [List.mem_cons, List.not_mem_nil, or_false] at hd
    rcases hd with rfl | rfl | rfl | rfl
    · exact okv2 ((Sh.str (by omega) hp.2).mono (by decide) (by decide)) hW
    · exact okv2 ((Sh.lst (k := 0) (n := 0) 1 (fun x hx => by rw [List.mem_singleton.mp hx]; exact Sh.int (small63 (by omega))) (by simp)).mono (by decide) (by decide)) hW
    · exact okv2 ((Sh.int (Nat.lt_of_le_of_lt pp (by decide))).mono (by decide) (by decide)) hW
    · exact okv2 (Sh.bool.mono (by decide) (by decide)) hW
  have A4 : ∀ d ∈ [PyData.tuple [.int p, .none]], OkV d := fun d hd => by
    rw [List.mem_singleton.mp hd]
    exact okv2 hP (Sh.none.mono (by decide) (by decide))
  subst hWW
  obtain ⟨Z1, t1, m1, l1⟩ : ∃ Z, FL.gAdd (.list [PyData.none, .list [], .tuple [], .int 0, .bool true, .str "", .dict [], .list [.int p, .tuple (iv ws)], .tuple [.int p, .list (iv ws)], .tuple [.tuple (iv ws), .int p]]) (.list [PyData.tuple [.int p], .tuple [.int p, .tuple (iv ws), .int 0], .tuple [.int p, .tuple (iv r)], .tuple [.int p, .tuple (iv ws ++ [.int 0])], .tuple (iv ws)]) = some (.list Z) ∧ (∀ d ∈ Z, OkV d) ∧ Z.length = 15 :=
    ⟨_, gadd_lst (by simp), fun d hd => (List.mem_append.mp hd).elim (A0 d) (A1 d), rfl⟩
  obtain ⟨Z2, t2, m2, l2⟩ : ∃ Z, FL.gAdd (.list Z1) (.list [PyData.tuple [.int p, .tuple []], .tuple [.int p, .tuple (iv (List.replicate ws.length 0))], .tuple [.int 0, .tuple (iv ws)], .tuple [.int 1, .tuple (iv ws)], .tuple [.int (-p), .tuple (iv ws)]]) = some (.list Z) ∧ (∀ d ∈ Z, OkV d) ∧ Z.length = 20 :=
    ⟨_, gadd_lst (by simp [l1]), fun d hd => (List.mem_append.mp hd).elim (m1 d) (A2 d), by simp [l1]⟩
  obtain ⟨Z3, t3, m3, l3⟩ : ∃ Z, FL.gAdd (.list Z2) (.list [PyData.tuple [.str (toString p), .tuple (iv ws)], .tuple [.list [.int p], .tuple (iv ws)], .tuple [.int (p * p), .tuple (iv ws)], .tuple [.bool true, .tuple (iv ws)]]) = some (.list Z) ∧ (∀ d ∈ Z, OkV d) ∧ Z.length = 24 :=
    ⟨_, gadd_lst (by simp [l2]), fun d hd => (List.mem_append.mp hd).elim (m2 d) (A3 d), by simp [l2]⟩
  obtain ⟨Z4, t4, m4, l4⟩ : ∃ Z, FL.gAdd (.list Z3) (.list [PyData.tuple [.int p, .none]]) = some (.list Z) ∧ (∀ d ∈ Z, OkV d) ∧ Z.length = 25 :=
    ⟨_, gadd_lst (by simp [l3]), fun d hd => (List.mem_append.mp hd).elim (m3 d) (A4 d), by simp [l3]⟩
  have hl4 : (Z4.length : Int) = 25 := by rw [l4]; rfl
  have pick : ∀ {k : Nat} {c0 : Cell}, Pot k c0 → k ≤ n + 1 → ∃ v s c', F__law_draw [.b c0, .d (.int 25)] = .ok (.val (.int s)) [c'] ∧ atI Z4 s = some v ∧ OkV v ∧ Pot (n + 5) c' := fun {k c0} hk hle => by
    obtain ⟨s, c', e, s0, s1, hp'⟩ := dr hk (many := 25) (by decide) (by decide) (by omega)
    obtain ⟨v, i, hv⟩ := getI (xs := Z4) s0 (by rw [hl4]; exact s1)
    exact ⟨v, s, c', e, i, m4 v hv, hp'.mono (by omega)⟩
  by_cases lz : ws.length = 0
  · obtain ⟨v, s, c', e, i, hv, hp'⟩ := pick h (by omega)
    refine ⟨v, c', ?_, hv, hp'⟩
    have q0 : decide ((ws.length : Int) = 0) = true := decide_eq_true (by omega)
    unfold F__law_odd fb__law_odd
    repeat first | simp only [hlen, cr, a1, gm, es, gp, t1, t2, t3, t4, eqI, q0, hl4, e, i] | walk_at "fl"
  · have q0 : decide ((ws.length : Int) = 0) = false := decide_eq_false (by omega)
    obtain ⟨u, c1, e1, u0, u1, p1⟩ := dr h (many := 2) (by decide) (by decide) (by omega)
    by_cases uz : u = 0
    · subst uz
      obtain ⟨v, s, c', e, i, hv, hp'⟩ := pick p1 (by omega)
      refine ⟨v, c', ?_, hv, hp'⟩
      unfold F__law_odd fb__law_odd
      repeat first | simp only [hlen, cr, a1, gm, es, gp, t1, t2, t3, t4, eqI, q0, hl4, e1, e, i] | walk_at "fl"
    · have q1 : decide (u = 0) = false := decide_eq_false uz
      obtain ⟨at0, c2, e2, z0, z1, p2⟩ := dr p1 (many := (ws.length : Int)) (by omega) (by omega) (by omega)
      have ex := cg_ix (a := ws) z0 z1
      have ow := pw _ (cg_mem z0 z1)
      generalize cg ws at0 = own at ex ow
      have es2 := g_str (i := own) ow.1 (by omega)
      have hm0 := emodP (v := own + 1) (show 0 < p by omega)
      generalize hq : (own + 1) % p = q at hm0
      obtain ⟨s, c3, e3, y0, y1, p3⟩ := dr p2 (many := ((9 : Nat) : Int)) (by decide) (by decide) (by omega)
      obtain ⟨o, i3, ho⟩ := getI (xs := [PyData.int (own + p), .int (own - p), .int q, .none, .tuple [.int own], .list [.int own], .str (toString own), .bool true, .bool false]) y0 y1
      obtain ⟨r1, c4, s4⟩ := cut_iv (l := ws) (lo := Option.none) (hi := some at0)
      obtain ⟨r2, c5, s5⟩ := cut_iv (l := ws) (lo := some (at0 + 1)) (hi := Option.none)
      have l1 := s4.length_le
      have l2 := s5.length_le
      have i1 : (iv r1).length = r1.length := List.length_map _
      have i2 : (iv r2).length = r2.length := List.length_map _
      have b1 : FL.gAdd (.tuple (iv r1)) (.tuple [o]) = some (.tuple (iv r1 ++ [o])) := gadd_tup (by simp [i1]; omega)
      have b2 : FL.gAdd (.tuple (iv r1 ++ [o])) (.tuple (iv r2)) = some (.tuple (iv r1 ++ [o] ++ iv r2)) := gadd_tup (by simp [i1, i2]; omega)
      have so : Sh 1 20 o := by
        have hi : Sh 0 0 (.int own) := Sh.int (small63 (by omega))
        simp only [List.mem_cons, List.not_mem_nil, or_false] at ho
        rcases ho with rfl | rfl | rfl | rfl | rfl | rfl | rfl | rfl | rfl
        · exact (Sh.int (small63 (by omega))).mono (by decide) (by decide)
        · exact (Sh.int (small63 (by omega))).mono (by decide) (by decide)
        · exact (Sh.int (small63 (by omega))).mono (by decide) (by decide)
        · exact Sh.none.mono (by decide) (by decide)
        · exact (Sh.tup 1 (fun x hx => by rw [List.mem_singleton.mp hx]; exact hi) (by simp)).mono (by decide) (by decide)
        · exact (Sh.lst 1 (fun x hx => by rw [List.mem_singleton.mp hx]; exact hi) (by simp)).mono (by decide) (by decide)
        · exact (Sh.str ow.1 (by omega)).mono (by decide) (by decide)
        · exact Sh.bool.mono (by decide) (by decide)
        · exact Sh.bool.mono (by decide) (by decide)
      refine ⟨.tuple [.int p, .tuple (iv r1 ++ [o] ++ iv r2)], c3, ?_, okv2 hP (wt_sh (fun x hx => by
        rcases List.mem_append.mp hx with hx | hx
        · rcases List.mem_append.mp hx with hx | hx
          · exact ints_sh (fun z hz => pw z (s4.subset hz)) hp.2 x hx
          · rw [List.mem_singleton.mp hx]; exact so
        · exact ints_sh (fun z hz => pw z (s5.subset hz)) hp.2 x hx) (by simp [i1, i2]; omega)), p3.mono (by omega)⟩
      unfold F__law_odd fb__law_odd
      repeat first | simp only [hlen, cr, a1, gm, es, gp, t1, t2, t3, t4, eqI, q0, e1, q1, e2, ex, g_add, es2, hq, g_mod (show 0 < p by omega), e3, i3, c4, c5, b1, b2] | walk_at "fl"
end K25

namespace K25
open PySem hiding rule
open PySem.Spec PyProof.Rows L2 DL FL RF NA
local macro_rules | `(tactic| walk_at "fl") => `(tactic| simp only [ap_var, ap_c, ap_un, ap_unV, ap_op, ap_opO, ap_fn, ap_nil, ap_cons, ap_tr, ap_b, ap_tand, ap_tor, ap_tnot, ap_and, ap_or, ap_not, ap_if, ap_chain, ap_tup, ap_lst, ap_lstO, ap_dictO, ap_frz, ap_sl, ap_no, ap_part, ap_mut, ap_call, ap_callK, ap_get, ap_dict, ap_isi, ap_rep, ap_listO, ap_seq, ap_iargs, ap_lc, ap_lcO, ap_yes, ap_sq, ap_ret, ap_drop, ap_sif, ap_nx, ap_bk, ap_ct, ap_asg, ap_setR, ap_runT, ap_bb0, ap_bbs, ap_bbn, ap_bbd, ap_bbc, ap_bbb, ap_sfrz, ap_setI, ap_setK, ap_for, ap_par, ap_asgT, ap_run, ap_see, ap_seeo, ap_seer, ap_getC, ap_setC, ap_sees0, ap_sees1, ap_parN, ap_view, ap_frza0, ap_frza, ap_frzc, ap_frzb, ap_frzd, ap_frzn, ap_call1, ap_c1o, ap_sar0, ap_sar1, ap_frv, ap_fro, ap_tgN, ap_tgT, fin_val, fin_own, fin_ref, fin_nx, bors_nil, bors_d, bors_b, R.bind_ok, ofO_some, ofB_some, ofOL_list, seeV, frV, vals, setAllF, wipeF, restF, callR, refsOf, argVs, putBack, setR2, setI, setK, ap_glt, ap_gle, ap_ggt, ap_gge, ap_gsub, ap_gadd, ap_gneg, ap_gix, ap_cutl, ap_cutt, ap_gtup, ap_glist, ap_glen, ap_gint, ap_gintb, ap_gabs, ap_gmax, ap_gmin, ap_isN, ap_notN, ap_geq, ap_gne, ap_eqi, ap_eqb, ap_eqs, ap_iol, ap_iot, ap_gtn, ap_gtb, ap_gti, ap_gtl, ap_gtt, ap_isn0, ap_isni, ap_isnl, ap_isnt, ap_revl, ap_revt, ap_enum, ap_zipl, ap_zipt, intsOf_map, boolsOf_map, ap_cellL, startF, List.map_cons, List.map_nil, List.length_cons, List.length_nil, List.replicate_succ, List.replicate_zero, List.cons_append, List.nil_append, List.append_nil, List.getElem?_cons_zero, List.getElem?_cons_succ, List.getElem?_nil, List.set_cons_zero, List.set_cons_succ, List.set_nil, Option.map_some, Option.map_none, Option.bind_some, Option.bind_none, Nat.reduceSub, Nat.reduceAdd, if_true, if_false, Bool.false_eq_true, reduceIte, true_and, and_true, Nat.sub_zero, Nat.zero_add, reduceCtorEq, List.nodup_nil, List.nodup_cons, List.not_mem_nil, not_false_eq_true, and_self, Bool.not_true, Bool.not_false, Bool.not_not, decide_true, decide_false, Nat.reduceLeDiff, atI0, atI1, req_true])
theorem wts_iv {ws : List Int} : wtsI (iv ws) = ws := by
  unfold wtsI iv
  rw [List.map_map]
  exact (List.map_congr_left fun _ _ => rfl).trans (List.map_id _)
theorem rem_iv {p : Int} {ws : List Int} {n : Nat} (pw : Pn p ws) (lw : ws.length = n) : isRem n p (.tuple (iv ws)) = true := isRem_ok pw lw
theorem refB_yes {m p : Int} {C : Nat} {qs : List (List Int × Int)} {ws : List Int} (hq : ∀ q ∈ qs, q.1.length = C) (hp : p ∈ primesOf m) (pw : Pn p ws) (lw : ws.length = qs.length) (g : Goo p C ws qs) : refB m C qs (.tuple [.int p, .tuple (iv ws)]) = true := by
  simp only [refB, rem_iv pw lw, decide_eq_true hp, Bool.true_and, wts_iv]
  exact (okL_goo hq).mpr g
theorem refB_none {m : Int} {C : Nat} {qs : List (List Int × Int)} (hq : ∀ q ∈ qs, q.1.length = C) (h : refL C qs (primesOf m) = none) (v : PyData) : refB m C qs v = false := by
  cases hb : refB m C qs v with
  | false => rfl
  | true =>
    unfold refB at hb
    split at hb
    · next p ws =>
      simp only [Bool.and_eq_true, decide_eq_true_eq] at hb
      obtain ⟨hp, _, ok⟩ := hb
      exact absurd ((okL_goo hq).mp ok) (no_goo (primes_six p hp) hq (ref_none.mp h p hp))
    · cases hb
theorem ref_empty {C : Nat} {ps : List Int} : refL C [] ps = none := by
  rw [ref_none]
  intro p _
  rw [bad_none]
  intro r hr
  have : ∀ as : List Int, (elim p as []).2 = [] := fun as => by
    induction as with
    | nil => rfl
    | cons a as ih => exact ih
  unfold restR at hr
  rw [show srows p ([] : List (List Int × Int)).length 0 [] = [] from rfl, this] at hr
  cases hr
theorem sh_paper {p : Int} {ws : List Int} {q : Int} (hq : 0 ≤ q ∧ q ≤ 13) (hp : p ≤ 13) (pw : Pn p ws) (lw : ws.length ≤ 100) : Show (.tuple [.int q, .tuple (iv ws)]) :=
  (okv2 ((Sh.int (small63 (by omega))).mono (by decide) (by decide)) (wt_sh (ints_sh pw hp) (by simp [iv]; omega))).show
theorem loop_judged {m : Int} {g : Nat} {qs : List (List Int × Int)} {x0 x1 x5 x6 x7 x8 x9 x10 x11 x12 x13 x14 : Option FV} (hm : m ∈ mods) (hg : g ≤ 3) (h : Lks m (2 * g + 1) qs) : ∀ (ds : List PyData) (y : Option FV), (∀ d ∈ ds, Show d) → bb y = false →
    ∃ z, fsGo (tgN 15) lb__law_papers_right_1 ds [x0, x1, some (.d (.int m)), some (.d (.int g)), some (.d (lks qs)), x5, x6, x7, x8, x9, x10, x11, x12, x13, x14, y]
      = .ok .nx [x0, x1, some (.d (.int m)), some (.d (.int g)), some (.d (lks qs)), x5, x6, x7, x8, x9, x10, x11, x12, x13, x14, z]
  | [], y, _, _ => ⟨y, rfl⟩
  | d :: ds, y, hd, hy => by
    obtain ⟨z, e⟩ := loop_judged (x0 := x0) (x1 := x1) (x5 := x5) (x6 := x6) (x7 := x7) (x8 := x8) (x9 := x9) (x10 := x10) (x11 := x11) (x12 := x12) (x13 := x13) (x14 := x14) hm hg h ds (some (.d d)) (fun d h => hd d (List.mem_cons_of_mem _ h)) rfl
    refine ⟨z, (go_nx ?_).trans e⟩
    have e1 := e_judged hm hg h (hd d List.mem_cons_self)
    generalize lks qs = L at e1 ⊢
    unfold lb__law_papers_right_1
    repeat first | simp only [hy, e1] | walk_at "fl"
theorem e_papers {c : Cell} {n g : Nat} {m p : Int} {ws : List Int} {qs : List (List Int × Int)} (h : Pot n c) (hm : m ∈ mods) (hg : g ≤ 3) (hQ : Lks m (2 * g + 1) qs) (lq : qs.length ≤ 12) (hp : p ∈ primesOf m) (pw : Pn p ws) (lw : ws.length = qs.length) (go : Goo p (2 * g + 1) ws qs) (hn : n ≤ 20000) :
    ∃ c', F__law_papers_right [.b c, .d (.tuple [.int p, .tuple (iv ws)]), .d (.int m), .d (.int g), .d (lks qs)] = .ok (.val (.bool true)) [c'] := by
  have p2 := p_two hp
  have p6 := primes_six p hp
  have p0 : 0 < p := by omega
  have hlen : ((qs.map lk).length : Int) = (qs.length : Int) := by simp
  have iw : (iv ws).length = ws.length := List.length_map _
  obtain ⟨s, c1, e1, s0, s1, q1⟩ := dr h (many := p - 1) (by omega) (by omega) (by omega)
  obtain ⟨vs, c2, e2, pv, lv, q2⟩ := e_paper q1 p2 (L := qs.length) (by omega) (by omega)
  have iv2 : (iv vs).length = vs.length := List.length_map _
  have e3 : fLcGo (tgN 10) fYes (fOp gMod (fFn gInt (faCons (fOp gMul (fVar 10) (fVar 7)) faNil)) (fVar 5)) [10] (iv ws) [] [some (.b c2), some (.d (.tuple [.int p, .tuple (iv ws)])), some (.d (.int m)), some (.d (.int g)), some (.d (lks qs)), some (.d (.int p)), some (.d (.tuple (iv ws))), some (.d (.int (1 + s))), some (.d (.tuple [.int p, .tuple (iv vs)])), none, none, none, none, none, none, none]
      = .ok (iv (ws.map fun v => v * (1 + s) % p)) [some (.b c2), some (.d (.tuple [.int p, .tuple (iv ws)])), some (.d (.int m)), some (.d (.int g)), some (.d (lks qs)), some (.d (.int p)), some (.d (.tuple (iv ws))), some (.d (.int (1 + s))), some (.d (.tuple [.int p, .tuple (iv vs)])), none, none, none, none, none, none, none] := by
    rw [lc_all (fun d => match d with
      | .int v => .int (v * (1 + s) % p)
      | _ => .none) (by omega)]
    · congr 1
      unfold iv
      rw [List.map_map, List.map_map]
      rfl
    · intro d hd
      obtain ⟨x, hx, rfl⟩ := iv_mem hd
      have := pw x hx
      refine ⟨_, rfl, by walk_at "fl", ?_⟩
      repeat first | simp only [g_mod p0, g_mul (bits_small (v := x) (c := 1 + s) (by omega) (by omega))] | walk_at "fl"
  have gs := goo_scaled (s := 1 + s) p6 (by omega) (by omega) go
  have ps : Pn p (ws.map fun v => v * (1 + s) % p) := fun x hx => by
    obtain ⟨v, _, rfl⟩ := List.mem_map.mp hx
    exact emodP p0
  have ls : (ws.map fun v => v * (1 + s) % p).length = qs.length := by rw [List.length_map, lw]
  generalize (ws.map fun v => v * (1 + s) % p) = sc at e3 gs ps ls
  have zl : (zipD (iv ws) (iv vs)).length = qs.length := by rw [zip_eqlen (by omega)]; omega
  obtain ⟨bs, e4, pb, lb⟩ := lc_in (gf := tgT [10, 12]) (fe := fOp gMod (fFn gInt (faCons (fOp gAdd (fVar 10) (fVar 12)) faNil)) (fVar 5)) (vs := [10, 12]) (ε := [some (.b c2), some (.d (.tuple [.int p, .tuple (iv ws)])), some (.d (.int m)), some (.d (.int g)), some (.d (lks qs)), some (.d (.int p)), some (.d (.tuple (iv ws))), some (.d (.int (1 + s))), some (.d (.tuple [.int p, .tuple (iv vs)])), some (.d (.tuple [.int p, .tuple (iv sc)])), none, none, none, none, none, none]) (ds := zipD (iv ws) (iv vs)) (m := p) (by omega) (by
    intro d hd
    obtain ⟨x, y, hx, hy, rfl⟩ := zip_mem _ _ _ hd
    obtain ⟨i, hi, rfl⟩ := iv_mem hx
    obtain ⟨j, hj, rfl⟩ := iv_mem hy
    refine ⟨(i + j) % p, emodP p0, _, rfl, by walk_at "fl", ?_⟩
    repeat first | simp only [g_mod p0, g_add] | walk_at "fl")
  have gz : gZip [.tuple (iv ws), .tuple (iv vs)] = some (zipD (iv ws) (iv vs)) := rfl
  have eP := e_law_primes m
  have lP : ((iv (primesOf m)).length : Int) = ((primesOf m).length : Int) := by simp [iv]
  have lP2 : ∀ m ∈ mods, 0 < (primesOf m).length ∧ (primesOf m).length ≤ 2 := by decide
  obtain ⟨lp0, lp1⟩ := lP2 m hm
  obtain ⟨r, c3, e5, r0, r1, q3⟩ := dr q2 (many := ((primesOf m).length : Int)) (by omega) (by omega) (by omega)
  obtain ⟨pd, ep, hpd⟩ := getI (xs := iv (primesOf m)) r0 (by rw [lP]; exact r1)
  obtain ⟨f, hf, rfl⟩ := iv_mem hpd
  have f2 := p_two hf
  obtain ⟨o1, c4, e6, w1, q4⟩ := e_odd q3 (by omega) p2 pw (by omega)
  obtain ⟨o2, c5, e7, w2, q5⟩ := e_odd q4 (by omega) p2 pw (by omega)
  obtain ⟨o3, c6, e8, w3, q6⟩ := e_odd q5 (by omega) p2 ps (by omega)
  have ga : FL.gAdd (.list [PyData.tuple [.int p, .tuple (iv ws)], .tuple [.int p, .tuple (iv sc)], .tuple [.int p, .tuple (iv bs)], .tuple [.int p, .tuple (iv vs)], .tuple [.int f, .tuple (iv ws)]]) (.list [o1, o2, o3]) = some (.list ([PyData.tuple [.int p, .tuple (iv ws)], .tuple [.int p, .tuple (iv sc)], .tuple [.int p, .tuple (iv bs)], .tuple [.int p, .tuple (iv vs)], .tuple [.int f, .tuple (iv ws)]] ++ [o1, o2, o3])) := gadd_lst (by simp)
  obtain ⟨Z, hZ⟩ : ∃ Z, Z = [PyData.tuple [.int p, .tuple (iv ws)], .tuple [.int p, .tuple (iv sc)], .tuple [.int p, .tuple (iv bs)], .tuple [.int p, .tuple (iv vs)], .tuple [.int f, .tuple (iv ws)]] ++ [o1, o2, o3] := ⟨_, rfl⟩
  have mZ : ∀ d ∈ Z, Show d := fun d hd => by
    rw [hZ] at hd
    rcases List.mem_append.mp hd with hd | hd
    · simp only [List.mem_cons, List.not_mem_nil, or_false] at hd
      rcases hd with rfl | rfl | rfl | rfl | rfl
      · exact sh_paper ⟨by omega, by omega⟩ p2.2 pw (by omega)
      · exact sh_paper ⟨by omega, by omega⟩ p2.2 ps (by omega)
      · exact sh_paper ⟨by omega, by omega⟩ p2.2 pb (by omega)
      · exact sh_paper ⟨by omega, by omega⟩ p2.2 pv (by omega)
      · exact sh_paper ⟨by omega, by omega⟩ p2.2 pw (by omega)
    · simp only [List.mem_cons, List.not_mem_nil, or_false] at hd
      rcases hd with rfl | rfl | rfl
      · exact w1.show
      · exact w2.show
      · exact w3.show
  rw [← hZ] at ga
  obtain ⟨z, e9⟩ := loop_judged (x0 := some (.b c6)) (x1 := some (.d (.tuple [.int p, .tuple (iv ws)]))) (x5 := some (.d (.int p))) (x6 := some (.d (.tuple (iv ws)))) (x7 := some (.d (.int (1 + s)))) (x8 := some (.d (.tuple [.int p, .tuple (iv vs)]))) (x9 := some (.d (.tuple [.int p, .tuple (iv sc)]))) (x10 := none) (x11 := some (.d (.tuple [.int p, .tuple (iv bs)]))) (x12 := none) (x13 := some (.d (.tuple [.int f, .tuple (iv ws)]))) (x14 := some (.d (.list [o1, o2, o3]))) hm hg hQ Z none mZ rfl
  have e10 := e_due hm hg hQ (.tuple [.int p, .tuple (iv sc)])
  rw [refB_yes (fun q hq => (hQ.ok q hq).2.1) hp ps ls gs] at e10
  refine ⟨c6, ?_⟩
  unfold F__law_papers_right fb__law_papers_right
  unfold lks at *
  repeat first | simp only [hlen, e1, e2, e3, e4, g_add, gz, eP, lP, e5, ep, e6, e7, e8, ga, e9, e10] | walk_at "fl"
end K25

namespace K25
open PySem hiding rule
open PySem.Spec PyProof.Rows L2 DL FL RF NA
local macro_rules | `(tactic| walk_at "fl") => `(tactic| simp only [ap_var, ap_c, ap_un, ap_unV, ap_op, ap_opO, ap_fn, ap_nil, ap_cons, ap_tr, ap_b, ap_tand, ap_tor, ap_tnot, ap_and, ap_or, ap_not, ap_if, ap_chain, ap_tup, ap_lst, ap_lstO, ap_dictO, ap_frz, ap_sl, ap_no, ap_part, ap_mut, ap_call, ap_callK, ap_get, ap_dict, ap_isi, ap_rep, ap_listO, ap_seq, ap_iargs, ap_lc, ap_lcO, ap_yes, ap_sq, ap_ret, ap_drop, ap_sif, ap_nx, ap_bk, ap_ct, ap_asg, ap_setR, ap_runT, ap_bb0, ap_bbs, ap_bbn, ap_bbd, ap_bbc, ap_bbb, ap_sfrz, ap_setI, ap_setK, ap_for, ap_par, ap_asgT, ap_run, ap_see, ap_seeo, ap_seer, ap_getC, ap_setC, ap_sees0, ap_sees1, ap_parN, ap_view, ap_frza0, ap_frza, ap_frzc, ap_frzb, ap_frzd, ap_frzn, ap_call1, ap_c1o, ap_sar0, ap_sar1, ap_frv, ap_fro, ap_tgN, ap_tgT, fin_val, fin_own, fin_ref, fin_nx, bors_nil, bors_d, bors_b, R.bind_ok, ofO_some, ofB_some, ofOL_list, seeV, frV, vals, setAllF, wipeF, restF, callR, refsOf, argVs, putBack, setR2, setI, setK, ap_glt, ap_gle, ap_ggt, ap_gge, ap_gsub, ap_gadd, ap_gneg, ap_gix, ap_cutl, ap_cutt, ap_gtup, ap_glist, ap_glen, ap_gint, ap_gintb, ap_gabs, ap_gmax, ap_gmin, ap_isN, ap_notN, ap_geq, ap_gne, ap_eqi, ap_eqb, ap_eqs, ap_iol, ap_iot, ap_gtn, ap_gtb, ap_gti, ap_gtl, ap_gtt, ap_isn0, ap_isni, ap_isnl, ap_isnt, ap_revl, ap_revt, ap_enum, ap_zipl, ap_zipt, intsOf_map, boolsOf_map, ap_cellL, startF, List.map_cons, List.map_nil, List.length_cons, List.length_nil, List.replicate_succ, List.replicate_zero, List.cons_append, List.nil_append, List.append_nil, List.getElem?_cons_zero, List.getElem?_cons_succ, List.getElem?_nil, List.set_cons_zero, List.set_cons_succ, List.set_nil, Option.map_some, Option.map_none, Option.bind_some, Option.bind_none, Nat.reduceSub, Nat.reduceAdd, if_true, if_false, Bool.false_eq_true, reduceIte, true_and, and_true, Nat.sub_zero, Nat.zero_add, reduceCtorEq, List.nodup_nil, List.nodup_cons, List.not_mem_nil, not_false_eq_true, and_self, Bool.not_true, Bool.not_false, Bool.not_not, decide_true, decide_false, Nat.reduceLeDiff, atI0, atI1, req_true])
theorem m_draw {r : Int} (r0 : 0 ≤ r) (r1 : r < 10) : ∃ m, atI [PyData.int 2, .int 3, .int 5, .int 6, .int 7, .int 10, .int 11, .int 13, .int 14, .int 15] r = some (.int m) ∧ m ∈ mods := by
  obtain ⟨d, e, hd⟩ := getI (xs := [PyData.int 2, .int 3, .int 5, .int 6, .int 7, .int 10, .int 11, .int 13, .int 14, .int 15]) r0 r1
  obtain ⟨p, hp, rfl⟩ := iv_mem (l := mods) hd
  exact ⟨p, e, hp⟩
theorem loop_none {m : Int} {g : Nat} {qs : List (List Int × Int)} {x0 x4 x5 x6 x8 : Option FV} (hm : m ∈ mods) (hg : g ≤ 3) (h : Lks m (2 * g + 1) qs) (hn : refL (2 * g + 1) qs (primesOf m) = none) : ∀ (ds : List PyData) (y : Option FV), bb y = false →
    ∃ z, fsGo (tgN 7) lb__law_right_1 ds [x0, some (.d (.int m)), some (.d (.int g)), some (.d (lks qs)), x4, x5, x6, y, x8] = .ok .nx [x0, some (.d (.int m)), some (.d (.int g)), some (.d (lks qs)), x4, x5, x6, z, x8]
  | [], y, _ => ⟨y, rfl⟩
  | d :: ds, y, hy => by
    obtain ⟨z, e⟩ := loop_none (x0 := x0) (x4 := x4) (x5 := x5) (x6 := x6) (x8 := x8) hm hg h hn ds (some (.d d)) rfl
    refine ⟨z, (go_nx ?_).trans e⟩
    have e1 := e_refuses hm hg h d
    rw [refB_none (fun q hq => (h.ok q hq).2.1) hn] at e1
    generalize lks qs = L at e1 ⊢
    unfold lb__law_right_1 g_refuses_value_looks_reach_modulus
    repeat first | simp only [hy, e1, ap_notB] | walk_at "fl"
theorem e_right {c : Cell} {n : Nat} (h : Pot n c) (hn : n ≤ 100) : ∃ c', F__law_right [.b c] = .ok (.val (.bool true)) [c'] := by
  obtain ⟨r, c1, e1, r0, r1, p1⟩ := dr h (many := 10) (by decide) (by decide) (by omega)
  obtain ⟨m, em, hm⟩ := m_draw r0 r1
  have mb := modsB hm
  obtain ⟨g0, c2, e2, g1, g2, p2⟩ := dr p1 (many := 4) (by decide) (by decide) (by omega)
  obtain ⟨g, rfl⟩ := Int.eq_ofNat_of_zero_le g1
  have hg : g ≤ 3 := by omega
  obtain ⟨qs0, c3, e3, hQ0, lq0, p3⟩ := e_looks p2 hm hg (by omega)
  -- the looks, torn or not
  obtain ⟨qs, c4, hQ, lq, p4, pre⟩ : ∃ qs c4, Lks m (2 * g + 1) qs ∧ qs.length ≤ 12 ∧ Pot (n + 4000) c4 ∧
      fsIf (ftAnd (fB (fOp gNe (fVar 3) (fTup faNil))) (fB (fOp gEq (fCall F__law_draw (faCons (fVar 0) (faCons (fC (.int 3)) faNil))) (fC (.int 0))))) (fsAsg 3 (fCall F__law_torn (faCons (fVar 0) (faCons (fVar 1) (faCons (fVar 3) (faCons (fVar 2) faNil)))))) fsNext
        [some (.b c3), some (.d (.int m)), some (.d (.int g)), some (.d (lks qs0)), none, none, none, none, none]
        = .ok .nx [some (.b c4), some (.d (.int m)), some (.d (.int g)), some (.d (lks qs)), none, none, none, none, none] := by
    have q1 := eq_lksT (qs := qs0)
    by_cases ne : qs0 = []
    · rw [decide_eq_true ne] at q1
      refine ⟨qs0, c3, hQ0, by omega, p3.mono (by omega), ?_⟩
      unfold lks
      repeat first | simp only [q1] | walk_at "fl"
    · rw [decide_eq_false ne] at q1
      obtain ⟨s, c4, e4, s0, s1, p4⟩ := dr p3 (many := 3) (by decide) (by decide) (by omega)
      by_cases sz : s = 0
      · subst sz
        obtain ⟨qs, c5, e5, hQ, lq, p5⟩ := e_torn (x3 := .int g) p4 hm (by omega) hQ0 ne lq0 (by omega)
        refine ⟨qs, c5, hQ, lq, p5.mono (by omega), ?_⟩
        generalize lks qs = L at e5 ⊢
        unfold lks at e5 ⊢
        repeat first | simp only [q1, e4, eqI, e5] | walk_at "fl"
      · have z : decide (s = 0) = false := decide_eq_false sz
        refine ⟨qs0, c4, hQ0, by omega, p4.mono (by omega), ?_⟩
        unfold lks
        repeat first | simp only [q1, e4, eqI, z] | walk_at "fl"
  have hq : ∀ q ∈ qs, q.1.length = 2 * g + 1 := fun q hq => (hQ.ok q hq).2.1
  have e6 := e_refusal hm hg hQ (by omega)
  obtain ⟨z, e7, hz⟩ := e_count hm hg hQ
  have eP := e_law_primes m
  have hlen : ((qs.map lk).length : Int) = (qs.length : Int) := by simp
  have lP2 : ∀ m ∈ mods, ∃ p, atI (iv (primesOf m)) 0 = some (.int p) ∧ 2 ≤ p ∧ p ≤ 13 := by
    intro m hm
    have : primesOf m ≠ [] := by
      have : ∀ m ∈ mods, primesOf m ≠ [] := by decide
      exact this m hm
    cases e : primesOf m with
    | nil => exact absurd e this
    | cons p ps => exact ⟨p, atI0, p_two (m := m) (by rw [e]; exact List.mem_cons_self)⟩
  cases er : refL (2 * g + 1) qs (primesOf m) with
  | none =>
    rw [er] at e6 hz
    rw [decide_eq_true rfl] at hz
    obtain ⟨p, ep, pb⟩ := lP2 m hm
    obtain ⟨w1, c5, e8, pw1, lw1, p5⟩ := e_paper p4 pb (L := qs.length) (by omega) (by omega)
    obtain ⟨w2, c6, e9, pw2, lw2, p6⟩ := e_paper p5 pb (L := qs.length) (by omega) (by omega)
    obtain ⟨v, c7, e10, _, _⟩ := e_odd p6 (by omega) pb pw2 (by omega)
    obtain ⟨z2, e11⟩ := loop_none (x0 := some (.b c7)) (x4 := some (.d .none)) (x5 := some (.d (.bool true))) (x6 := some (.d (.int p))) (x8 := none) hm hg hQ er [.none, .tuple [.int p, .tuple (iv w1)], v] none rfl
    have e6 : F_refusal [.d (.int m), .d (.int g), .d (lks qs)] = tell .none := e6
    refine ⟨c7, ?_⟩
    have q3 : eqP (.bool true) (.bool true) = some true := rfl
    unfold F__law_right fb__law_right
    generalize fsIf (ftAnd (fB (fOp gNe (fVar 3) (fTup faNil))) (fB (fOp gEq (fCall F__law_draw (faCons (fVar 0) (faCons (fC (.int 3)) faNil))) (fC (.int 0))))) (fsAsg 3 (fCall F__law_torn (faCons (fVar 0) (faCons (fVar 1) (faCons (fVar 3) (faCons (fVar 2) faNil)))))) fsNext = T at pre ⊢
    generalize lks qs0 = L0 at e3 pre
    unfold lks at e6 e7 e11 pre
    repeat first | simp only [e1, em, e2, e3, pre, e6, e7, hz, isNone, q3, eP, ep, hlen, e8, e9, e10, e11] | walk_at "fl"
    done
  | some q =>
    obtain ⟨p, ws⟩ := q
    rw [er] at e6 hz
    rw [decide_eq_false (show ¬ (some (p, ws) = (none : Option (Int × List Int))) by simp)] at hz
    obtain ⟨hp, pw, lw, go⟩ := ref_some hq primes_six er
    have e6 : F_refusal [.d (.int m), .d (.int g), .d (lks qs)] = tell (.tuple [.int p, .tuple (iv ws)]) := e6
    have e8 := e_due hm hg hQ (.tuple [.int p, .tuple (iv ws)])
    rw [refB_yes hq hp pw lw go] at e8
    obtain ⟨c5, e9⟩ := e_papers p4 hm hg hQ lq hp pw lw go (by omega)
    have e10 := e_refusal (R := g) (qs := []) hm hg ⟨fun q h => (by cases h), by simp⟩ (by simp)
    rw [ref_empty] at e10
    have e10 : F_refusal [.d (.int m), .d (.int g), .d (.tuple [])] = tell .none := e10
    refine ⟨c5, ?_⟩
    have q3 : eqP (.bool false) (.bool false) = some true := rfl
    unfold F__law_right fb__law_right
    generalize fsIf (ftAnd (fB (fOp gNe (fVar 3) (fTup faNil))) (fB (fOp gEq (fCall F__law_draw (faCons (fVar 0) (faCons (fC (.int 3)) faNil))) (fC (.int 0))))) (fsAsg 3 (fCall F__law_torn (faCons (fVar 0) (faCons (fVar 1) (faCons (fVar 3) (faCons (fVar 2) faNil)))))) fsNext = T at pre ⊢
    generalize lks qs0 = L0 at e3 pre
    generalize lks qs = L at e6 e7 e8 e9 pre
    repeat first | simp only [e1, em, e2, e3, pre, e6, e7, hz, isNone, q3, e8, e9, g_refusal_looks_reach_modulus, e10] | walk_at "fl"
    done
end K25

namespace K25
open PySem hiding rule
open PySem.Spec PyProof.Rows L2 DL FL RF NA
local macro_rules | `(tactic| walk_at "fl") => `(tactic| simp only [ap_var, ap_c, ap_un, ap_unV, ap_op, ap_opO, ap_fn, ap_nil, ap_cons, ap_tr, ap_b, ap_tand, ap_tor, ap_tnot, ap_and, ap_or, ap_not, ap_if, ap_chain, ap_tup, ap_lst, ap_lstO, ap_dictO, ap_frz, ap_sl, ap_no, ap_part, ap_mut, ap_call, ap_callK, ap_get, ap_dict, ap_isi, ap_rep, ap_listO, ap_seq, ap_iargs, ap_lc, ap_lcO, ap_yes, ap_sq, ap_ret, ap_drop, ap_sif, ap_nx, ap_bk, ap_ct, ap_asg, ap_setR, ap_runT, ap_bb0, ap_bbs, ap_bbn, ap_bbd, ap_bbc, ap_bbb, ap_sfrz, ap_setI, ap_setK, ap_for, ap_par, ap_asgT, ap_run, ap_see, ap_seeo, ap_seer, ap_getC, ap_setC, ap_sees0, ap_sees1, ap_parN, ap_view, ap_frza0, ap_frza, ap_frzc, ap_frzb, ap_frzd, ap_frzn, ap_call1, ap_c1o, ap_sar0, ap_sar1, ap_frv, ap_fro, ap_tgN, ap_tgT, fin_val, fin_own, fin_ref, fin_nx, bors_nil, bors_d, bors_b, R.bind_ok, ofO_some, ofB_some, ofOL_list, seeV, frV, vals, setAllF, wipeF, restF, callR, refsOf, argVs, putBack, setR2, setI, setK, ap_glt, ap_gle, ap_ggt, ap_gge, ap_gsub, ap_gadd, ap_gneg, ap_gix, ap_cutl, ap_cutt, ap_gtup, ap_glist, ap_glen, ap_gint, ap_gintb, ap_gabs, ap_gmax, ap_gmin, ap_isN, ap_notN, ap_geq, ap_gne, ap_eqi, ap_eqb, ap_eqs, ap_iol, ap_iot, ap_gtn, ap_gtb, ap_gti, ap_gtl, ap_gtt, ap_isn0, ap_isni, ap_isnl, ap_isnt, ap_revl, ap_revt, ap_enum, ap_zipl, ap_zipt, intsOf_map, boolsOf_map, ap_cellL, startF, List.map_cons, List.map_nil, List.length_cons, List.length_nil, List.replicate_succ, List.replicate_zero, List.cons_append, List.nil_append, List.append_nil, List.getElem?_cons_zero, List.getElem?_cons_succ, List.getElem?_nil, List.set_cons_zero, List.set_cons_succ, List.set_nil, Option.map_some, Option.map_none, Option.bind_some, Option.bind_none, Nat.reduceSub, Nat.reduceAdd, if_true, if_false, Bool.false_eq_true, reduceIte, true_and, and_true, Nat.sub_zero, Nat.zero_add, reduceCtorEq, List.nodup_nil, List.nodup_cons, List.not_mem_nil, not_false_eq_true, and_self, Bool.not_true, Bool.not_false, Bool.not_not, decide_true, decide_false, Nat.reduceLeDiff, atI0, atI1, req_true])
theorem turn {ns : List Int} {k : Nat} (hl : ns.length ≤ 63) (hb : ∀ z ∈ ns, Builtin.Int.intBits z ≤ 1048576) (hk : k ≤ 1000) : lb_law_1 [some (.d (.list (iv ns))), some (.d (.int k))] = .ok .nx [some (.d (.list (iv ns))), some (.d (.int k))] := by
  obtain ⟨c, e, hp⟩ := e_pot hl hb hk
  obtain ⟨c', e2⟩ := e_right hp (by omega)
  unfold lb_law_1
  repeat first | simp only [e, e2] | walk_at "fl"
theorem loop_main {ns : List Int} (hl : ns.length ≤ 63) (hb : ∀ z ∈ ns, Builtin.Int.intBits z ≤ 1048576) : ∀ (j s : Nat), j + s ≤ 1000 → ∀ {y : Option FV}, bb y = false →
    ∃ z, fsGo (tgN 1) lb_law_1 ((List.range' s j).map fun (i : Nat) => PyData.int i) [some (.d (.list (iv ns))), y] = .ok .nx [some (.d (.list (iv ns))), z]
  | 0, s, _, y, _ => ⟨y, rfl⟩
  | j + 1, s, hj, y, hy => by
    obtain ⟨z, e⟩ := loop_main hl hb j (s + 1) (by omega) (y := some (.d (.int s))) rfl
    refine ⟨z, ?_⟩
    rw [List.range'_succ, List.map_cons]
    refine (go_nx ?_).trans e
    repeat first | simp only [hy] | walk_at "fl"
    exact turn hl hb (by omega)
theorem main : Law F_law := fun ns hl hb => by
  have hlen : ((iv ns).length : Int) = (ns.length : Int) := by simp [iv]
  obtain ⟨j, hj, rg⟩ : ∃ j : Nat, j ≤ 3 ∧ gRange1 [.int (if (if (ns.length : Int) < 3 then (ns.length : Int) else 3) > 1 then (if (ns.length : Int) < 3 then (ns.length : Int) else 3) else 1)] = some ((List.range' 0 j).map fun (i : Nat) => PyData.int i) := by
    refine ⟨(if (if (ns.length : Int) < 3 then (ns.length : Int) else 3) > 1 then (if (ns.length : Int) < 3 then (ns.length : Int) else 3) else 1).toNat, by split <;> (try split) <;> omega, ?_⟩
    rw [gRange1]
    refine (req_pos (by split <;> (try split) <;> omega)).trans ?_
    rw [← List.range_eq_range', rangeD0, iv, List.map_map]
    rfl
  obtain ⟨z, e⟩ := loop_main hl hb j 0 (by omega) (y := none) rfl
  show F_law [.d (.list (iv ns))] = _
  unfold F_law fb_law
  repeat first | simp only [hlen, rg, e] | walk_at "fl"
end K25

namespace K25
open PySem PySem.Spec PyProof.Rows L2 DL FL
open NA

def topS (i : Nat) : Stmt := PySem.Challenge.pw_nearadds_k25_multiples_that_contradict.main.body.getD i (.Pass ⟨0, 0, 0, 0⟩)
abbrev st_inverse : Stmt := topS 1
abbrev N_inverse : List Str := ["number", "prime", "rest"]
abbrev ps_inverse : List Str := ["number", "prime"]
abbrev st_cleared : Stmt := topS 3
abbrev N_cleared : List Str := ["row", "pivot", "at", "prime", "value", "much"]
abbrev ps_cleared : List Str := ["row", "pivot", "at", "prime"]
abbrev st_one_at : Stmt := topS 4
abbrev N_one_at : List Str := ["row", "at", "prime", "share", "value"]
abbrev ps_one_at : List Str := ["row", "at", "prime"]
abbrev st_echelon : Stmt := topS 5
abbrev N_echelon : List Str := ["rows", "many", "prime", "indexes", "pivots", "rest", "at", "found", "k", "row", "pivot"]
abbrev ps_echelon : List Str := ["rows", "many", "prime"]
abbrev st_is_number : Stmt := topS 12
abbrev N_is_number : List Str := ["value"]
abbrev ps_is_number : List Str := ["value"]
abbrev st_is_within : Stmt := topS 13
abbrev N_is_within : List Str := ["value", "least", "greatest"]
abbrev ps_is_within : List Str := ["value", "least", "greatest"]
abbrev st_is_two : Stmt := topS 14
abbrev N_is_two : List Str := ["value"]
abbrev ps_is_two : List Str := ["value"]
abbrev st_is_remainders : Stmt := topS 15
abbrev N_is_remainders : List Str := ["value", "many", "modulus", "part"]
abbrev ps_is_remainders : List Str := ["value", "many", "modulus"]
abbrev st_renewed : Stmt := topS 16
abbrev N_renewed : List Str := ["value", "part"]
abbrev ps_renewed : List Str := ["value"]
abbrev st_is_modulus : Stmt := topS 19
abbrev N_is_modulus : List Str := ["value"]
abbrev ps_is_modulus : List Str := ["value"]
abbrev st_has_prime : Stmt := topS 20
abbrev N_has_prime : List Str := ["value", "modulus"]
abbrev ps_has_prime : List Str := ["value", "modulus"]
abbrev st_primes_of : Stmt := topS 21
abbrev N_primes_of : List Str := ["modulus"]
abbrev ps_primes_of : List Str := ["modulus"]
abbrev st_need_looks : Stmt := topS 24
abbrev N_need_looks : List Str := ["modulus", "reach", "looks", "primes", "look"]
abbrev ps_need_looks : List Str := ["modulus", "reach", "looks"]
abbrev st_is_look : Stmt := topS 25
abbrev N_is_look : List Str := ["value", "modulus", "reach"]
abbrev ps_is_look : List Str := ["value", "modulus", "reach"]
abbrev st_solved : Stmt := topS 26
abbrev N_solved : List Str := ["looks", "many", "prime", "rows", "k", "values", "behind", "value", "m"]
abbrev ps_solved : List Str := ["looks", "many", "prime"]
abbrev st_refusal : Stmt := topS 27
abbrev N_refusal : List Str := ["modulus", "reach", "looks", "primes", "many", "prime", "row"]
abbrev ps_refusal : List Str := ["modulus", "reach", "looks"]
abbrev st_refuses : Stmt := topS 28
abbrev N_refuses : List Str := ["modulus", "reach", "looks", "value", "prime", "multiples", "sums", "much", "values", "behind", "total"]
abbrev ps_refuses : List Str := ["modulus", "reach", "looks", "value"]
abbrev st__law_pot : Stmt := topS 30
abbrev N__law_pot : List Str := ["_law_script", "_law_k", "_law_cell", "_law_total", "_law_other", "_law_mixed"]
abbrev ps__law_pot : List Str := ["_law_script", "_law_k"]
abbrev st__law_draw : Stmt := topS 31
abbrev N__law_draw : List Str := ["_law_pot_here", "_law_many", "_law_found", "_law_mixed"]
abbrev ps__law_draw : List Str := ["_law_pot_here", "_law_many"]
abbrev st__law_told : Stmt := topS 32
abbrev N__law_told : List Str := ["_law_factors", "_law_cells_here", "_law_modulus", "_law_factor", "_law_value"]
abbrev ps__law_told : List Str := ["_law_factors", "_law_cells_here", "_law_modulus"]
abbrev st__law_cells : Stmt := topS 33
abbrev N__law_cells : List Str := ["_law_pot_here", "_law_modulus", "_law_columns", "_law_looks_here", "_law_cells_here", "_law_place", "_law_way", "_law_share", "_law_value", "_law_at", "_law_one", "_law_other", "_law_further"]
abbrev ps__law_cells : List Str := ["_law_pot_here", "_law_modulus", "_law_columns", "_law_looks_here"]
abbrev st__law_looks : Stmt := topS 34
abbrev N__law_looks : List Str := ["_law_pot_here", "_law_modulus", "_law_reach", "_law_most", "_law_columns", "_law_hidden", "_law_place", "_law_way", "_law_looks_here", "_law_turn", "_law_cells_here", "_law_value", "_law_at"]
abbrev ps__law_looks : List Str := ["_law_pot_here", "_law_modulus", "_law_reach", "_law_most"]
abbrev st__law_primes : Stmt := topS 35
abbrev N__law_primes : List Str := ["_law_modulus", "_law_prime"]
abbrev ps__law_primes : List Str := ["_law_modulus"]
abbrev st__law_less : Stmt := topS 36
abbrev N__law_less : List Str := ["_law_row", "_law_head", "_law_place", "_law_prime", "_law_share", "_law_value", "_law_part"]
abbrev ps__law_less : List Str := ["_law_row", "_law_head", "_law_place", "_law_prime"]
abbrev st__law_rank : Stmt := topS 37
abbrev N__law_rank : List Str := ["_law_rows", "_law_columns", "_law_prime", "_law_left", "_law_found", "_law_row", "_law_value", "_law_place", "_law_firsts", "_law_at", "_law_head", "_law_back", "_law_k"]
abbrev ps__law_rank : List Str := ["_law_rows", "_law_columns", "_law_prime"]
abbrev st__law_count : Stmt := topS 38
abbrev N__law_count : List Str := ["_law_modulus", "_law_reach", "_law_looks_here", "_law_columns", "_law_found", "_law_rows", "_law_cells_here", "_law_value", "_law_prime", "_law_rank_here", "_law_turn"]
abbrev ps__law_count : List Str := ["_law_modulus", "_law_reach", "_law_looks_here"]
abbrev st__law_sums : Stmt := topS 39
abbrev N__law_sums : List Str := ["_law_prime", "_law_multiples", "_law_looks_here", "_law_columns", "_law_found", "_law_times", "_law_cells_here", "_law_value", "_law_total", "_law_part"]
abbrev ps__law_sums : List Str := ["_law_prime", "_law_multiples", "_law_looks_here", "_law_columns"]
abbrev st__law_due : Stmt := topS 40
abbrev N__law_due : List Str := ["_law_value", "_law_modulus", "_law_reach", "_law_looks_here", "_law_part", "_law_sums_here"]
abbrev ps__law_due : List Str := ["_law_value", "_law_modulus", "_law_reach", "_law_looks_here"]
abbrev st__law_judged : Stmt := topS 41
abbrev N__law_judged : List Str := ["_law_value", "_law_modulus", "_law_reach", "_law_looks_here", "_law_due_here", "_law_before", "_law_told_here"]
abbrev ps__law_judged : List Str := ["_law_value", "_law_modulus", "_law_reach", "_law_looks_here"]
abbrev st__law_paper : Stmt := topS 42
abbrev N__law_paper : List Str := ["_law_pot_here", "_law_prime", "_law_count_here", "_law_place"]
abbrev ps__law_paper : List Str := ["_law_pot_here", "_law_prime", "_law_count_here"]
abbrev st__law_odd : Stmt := topS 43
abbrev N__law_odd : List Str := ["_law_pot_here", "_law_paper_here", "_law_prime", "_law_multiples", "_law_odd_here", "_law_at", "_law_part", "_law_inner"]
abbrev ps__law_odd : List Str := ["_law_pot_here", "_law_paper_here"]
abbrev st__law_papers_right : Stmt := topS 44
abbrev N__law_papers_right : List Str := ["_law_pot_here", "_law_told_here", "_law_modulus", "_law_reach", "_law_looks_here", "_law_prime", "_law_multiples", "_law_share", "_law_other", "_law_scaled", "_law_part", "_law_both", "_law_more", "_law_foreign", "_law_odd_here", "_law_value"]
abbrev ps__law_papers_right : List Str := ["_law_pot_here", "_law_told_here", "_law_modulus", "_law_reach", "_law_looks_here"]
abbrev st__law_torn : Stmt := topS 45
abbrev N__law_torn : List Str := ["_law_pot_here", "_law_modulus", "_law_looks_here", "_law_reach", "_law_primes_here", "_law_prime", "_law_one", "_law_other", "_law_cells_here", "_law_value", "_law_further", "_law_wrong"]
abbrev ps__law_torn : List Str := ["_law_pot_here", "_law_modulus", "_law_looks_here", "_law_reach"]
abbrev st__law_right : Stmt := topS 46
abbrev N__law_right : List Str := ["_law_pot_here", "_law_modulus", "_law_reach", "_law_looks_here", "_law_told_here", "_law_fits", "_law_prime", "_law_value", "_law_again"]
abbrev ps__law_right : List Str := ["_law_pot_here"]
abbrev st_law : Stmt := topS 47
abbrev N_law : List Str := ["_law_script", "_law_k"]
abbrev ps_law : List Str := ["_law_script"]
theorem bd_inverse {K : PySem.W.Frag} : ∀ f fd, Fun K "inverse" "inverse" st_inverse f fd → Binds K fd ps_inverse [] := fun _ _ F => F.binds (ps := ps_inverse) fun _ _ _ _ _ _ us hl => match us, hl with | [_, _], _ => rfl
theorem bd_cleared {K : PySem.W.Frag} : ∀ f fd, Fun K "cleared" "cleared" st_cleared f fd → Binds K fd ps_cleared [] := fun _ _ F => F.binds (ps := ps_cleared) fun _ _ _ _ _ _ us hl => match us, hl with | [_, _, _, _], _ => rfl
theorem bd_one_at {K : PySem.W.Frag} : ∀ f fd, Fun K "one_at" "one_at" st_one_at f fd → Binds K fd ps_one_at [] := fun _ _ F => F.binds (ps := ps_one_at) fun _ _ _ _ _ _ us hl => match us, hl with | [_, _, _], _ => rfl
theorem bd_echelon {K : PySem.W.Frag} : ∀ f fd, Fun K "echelon" "echelon" st_echelon f fd → Binds K fd ps_echelon [] := fun _ _ F => F.binds (ps := ps_echelon) fun _ _ _ _ _ _ us hl => match us, hl with | [_, _, _], _ => rfl
theorem bd_is_number {K : PySem.W.Frag} : ∀ f fd, Fun K "is_number" "is_number" st_is_number f fd → Binds K fd ps_is_number [] := fun _ _ F => F.binds (ps := ps_is_number) fun _ _ _ _ _ _ us hl => match us, hl with | [_], _ => rfl
theorem bd_is_within {K : PySem.W.Frag} : ∀ f fd, Fun K "is_within" "is_within" st_is_within f fd → Binds K fd ps_is_within [] := fun _ _ F => F.binds (ps := ps_is_within) fun _ _ _ _ _ _ us hl => match us, hl with | [_, _, _], _ => rfl
theorem bd_is_two {K : PySem.W.Frag} : ∀ f fd, Fun K "is_two" "is_two" st_is_two f fd → Binds K fd ps_is_two [] := fun _ _ F => F.binds (ps := ps_is_two) fun _ _ _ _ _ _ us hl => match us, hl with | [_], _ => rfl
theorem bd_is_remainders {K : PySem.W.Frag} : ∀ f fd, Fun K "is_remainders" "is_remainders" st_is_remainders f fd → Binds K fd ps_is_remainders [] := fun _ _ F => F.binds (ps := ps_is_remainders) fun _ _ _ _ _ _ us hl => match us, hl with | [_, _, _], _ => rfl
theorem bd_is_modulus {K : PySem.W.Frag} : ∀ f fd, Fun K "is_modulus" "is_modulus" st_is_modulus f fd → Binds K fd ps_is_modulus [] := fun _ _ F => F.binds (ps := ps_is_modulus) fun _ _ _ _ _ _ us hl => match us, hl with | [_], _ => rfl
theorem bd_has_prime {K : PySem.W.Frag} : ∀ f fd, Fun K "has_prime" "has_prime" st_has_prime f fd → Binds K fd ps_has_prime [] := fun _ _ F => F.binds (ps := ps_has_prime) fun _ _ _ _ _ _ us hl => match us, hl with | [_, _], _ => rfl
theorem bd_primes_of {K : PySem.W.Frag} : ∀ f fd, Fun K "primes_of" "primes_of" st_primes_of f fd → Binds K fd ps_primes_of [] := fun _ _ F => F.binds (ps := ps_primes_of) fun _ _ _ _ _ _ us hl => match us, hl with | [_], _ => rfl
theorem bd_need_looks {K : PySem.W.Frag} : ∀ f fd, Fun K "need_looks" "need_looks" st_need_looks f fd → Binds K fd ps_need_looks [] := fun _ _ F => F.binds (ps := ps_need_looks) fun _ _ _ _ _ _ us hl => match us, hl with | [_, _, _], _ => rfl
theorem bd_is_look {K : PySem.W.Frag} : ∀ f fd, Fun K "is_look" "is_look" st_is_look f fd → Binds K fd ps_is_look [] := fun _ _ F => F.binds (ps := ps_is_look) fun _ _ _ _ _ _ us hl => match us, hl with | [_, _, _], _ => rfl
theorem bd_solved {K : PySem.W.Frag} : ∀ f fd, Fun K "solved" "solved" st_solved f fd → Binds K fd ps_solved [] := fun _ _ F => F.binds (ps := ps_solved) fun _ _ _ _ _ _ us hl => match us, hl with | [_, _, _], _ => rfl
theorem bd_refusal {K : PySem.W.Frag} : ∀ f fd, Fun K "refusal" "refusal" st_refusal f fd → Binds K fd ps_refusal [] := fun _ _ F => F.binds (ps := ps_refusal) fun _ _ _ _ _ _ us hl => match us, hl with | [_, _, _], _ => rfl
theorem bd_refuses {K : PySem.W.Frag} : ∀ f fd, Fun K "refuses" "refuses" st_refuses f fd → Binds K fd ps_refuses [] := fun _ _ F => F.binds (ps := ps_refuses) fun _ _ _ _ _ _ us hl => match us, hl with | [_, _, _, _], _ => rfl
theorem bd__law_pot {K : PySem.W.Frag} : ∀ f fd, Fun K "_law_pot" "_law_pot" st__law_pot f fd → Binds K fd ps__law_pot [] := fun _ _ F => F.binds (ps := ps__law_pot) fun _ _ _ _ _ _ us hl => match us, hl with | [_, _], _ => rfl
theorem bd__law_draw {K : PySem.W.Frag} : ∀ f fd, Fun K "_law_draw" "_law_draw" st__law_draw f fd → Binds K fd ps__law_draw [] := fun _ _ F => F.binds (ps := ps__law_draw) fun _ _ _ _ _ _ us hl => match us, hl with | [_, _], _ => rfl
theorem bd__law_told {K : PySem.W.Frag} : ∀ f fd, Fun K "_law_told" "_law_told" st__law_told f fd → Binds K fd ps__law_told [] := fun _ _ F => F.binds (ps := ps__law_told) fun _ _ _ _ _ _ us hl => match us, hl with | [_, _, _], _ => rfl
theorem bd__law_cells {K : PySem.W.Frag} : ∀ f fd, Fun K "_law_cells" "_law_cells" st__law_cells f fd → Binds K fd ps__law_cells [] := fun _ _ F => F.binds (ps := ps__law_cells) fun _ _ _ _ _ _ us hl => match us, hl with | [_, _, _, _], _ => rfl
theorem bd__law_looks {K : PySem.W.Frag} : ∀ f fd, Fun K "_law_looks" "_law_looks" st__law_looks f fd → Binds K fd ps__law_looks [] := fun _ _ F => F.binds (ps := ps__law_looks) fun _ _ _ _ _ _ us hl => match us, hl with | [_, _, _, _], _ => rfl
theorem bd__law_primes {K : PySem.W.Frag} : ∀ f fd, Fun K "_law_primes" "_law_primes" st__law_primes f fd → Binds K fd ps__law_primes [] := fun _ _ F => F.binds (ps := ps__law_primes) fun _ _ _ _ _ _ us hl => match us, hl with | [_], _ => rfl
theorem bd__law_less {K : PySem.W.Frag} : ∀ f fd, Fun K "_law_less" "_law_less" st__law_less f fd → Binds K fd ps__law_less [] := fun _ _ F => F.binds (ps := ps__law_less) fun _ _ _ _ _ _ us hl => match us, hl with | [_, _, _, _], _ => rfl
theorem bd__law_rank {K : PySem.W.Frag} : ∀ f fd, Fun K "_law_rank" "_law_rank" st__law_rank f fd → Binds K fd ps__law_rank [] := fun _ _ F => F.binds (ps := ps__law_rank) fun _ _ _ _ _ _ us hl => match us, hl with | [_, _, _], _ => rfl
theorem bd__law_count {K : PySem.W.Frag} : ∀ f fd, Fun K "_law_count" "_law_count" st__law_count f fd → Binds K fd ps__law_count [] := fun _ _ F => F.binds (ps := ps__law_count) fun _ _ _ _ _ _ us hl => match us, hl with | [_, _, _], _ => rfl
theorem bd__law_sums {K : PySem.W.Frag} : ∀ f fd, Fun K "_law_sums" "_law_sums" st__law_sums f fd → Binds K fd ps__law_sums [] := fun _ _ F => F.binds (ps := ps__law_sums) fun _ _ _ _ _ _ us hl => match us, hl with | [_, _, _, _], _ => rfl
theorem bd__law_due {K : PySem.W.Frag} : ∀ f fd, Fun K "_law_due" "_law_due" st__law_due f fd → Binds K fd ps__law_due [] := fun _ _ F => F.binds (ps := ps__law_due) fun _ _ _ _ _ _ us hl => match us, hl with | [_, _, _, _], _ => rfl
theorem bd__law_judged {K : PySem.W.Frag} : ∀ f fd, Fun K "_law_judged" "_law_judged" st__law_judged f fd → Binds K fd ps__law_judged [] := fun _ _ F => F.binds (ps := ps__law_judged) fun _ _ _ _ _ _ us hl => match us, hl with | [_, _, _, _], _ => rfl
theorem bd__law_paper {K : PySem.W.Frag} : ∀ f fd, Fun K "_law_paper" "_law_paper" st__law_paper f fd → Binds K fd ps__law_paper [] := fun _ _ F => F.binds (ps := ps__law_paper) fun _ _ _ _ _ _ us hl => match us, hl with | [_, _, _], _ => rfl
theorem bd__law_odd {K : PySem.W.Frag} : ∀ f fd, Fun K "_law_odd" "_law_odd" st__law_odd f fd → Binds K fd ps__law_odd [] := fun _ _ F => F.binds (ps := ps__law_odd) fun _ _ _ _ _ _ us hl => match us, hl with | [_, _], _ => rfl
theorem bd__law_papers_right {K : PySem.W.Frag} : ∀ f fd, Fun K "_law_papers_right" "_law_papers_right" st__law_papers_right f fd → Binds K fd ps__law_papers_right [] := fun _ _ F => F.binds (ps := ps__law_papers_right) fun _ _ _ _ _ _ us hl => match us, hl with | [_, _, _, _, _], _ => rfl
theorem bd__law_torn {K : PySem.W.Frag} : ∀ f fd, Fun K "_law_torn" "_law_torn" st__law_torn f fd → Binds K fd ps__law_torn [] := fun _ _ F => F.binds (ps := ps__law_torn) fun _ _ _ _ _ _ us hl => match us, hl with | [_, _, _, _], _ => rfl
theorem bd__law_right {K : PySem.W.Frag} : ∀ f fd, Fun K "_law_right" "_law_right" st__law_right f fd → Binds K fd ps__law_right [] := fun _ _ F => F.binds (ps := ps__law_right) fun _ _ _ _ _ _ us hl => match us, hl with | [_], _ => rfl
theorem kb_refusal_looks_reach_modulus {K : PySem.W.Frag} : ∀ f fd, Fun K "refusal" "refusal" st_refusal f fd → KB K fd ps_refusal ["looks", "reach", "modulus"] g_refusal_looks_reach_modulus := by
  rintro f fd F
  obtain ⟨oc, od, kV, doc, pm, an, cdv, ct, osl, rfl, lk, hcd⟩ := F.ex
  exact ⟨fun s ws hl => .of_eq (match ws, hl with | [x0, x1, x2], _ => rfl), fun hl r => match r, hl with | .cons h0 (.cons h1 (.cons h2 (.nil))), _ => (.cons h2 (.cons h1 (.cons h0 .nil))), fun hl r => match r, hl with | .cons h0 (.cons h1 (.cons h2 (.nil))), _ => (.cons h2 (.cons h1 (.cons h0 .nil)))⟩
theorem kb_refuses_value_looks_reach_modulus {K : PySem.W.Frag} : ∀ f fd, Fun K "refuses" "refuses" st_refuses f fd → KB K fd ps_refuses ["value", "looks", "reach", "modulus"] g_refuses_value_looks_reach_modulus := by
  rintro f fd F
  obtain ⟨oc, od, kV, doc, pm, an, cdv, ct, osl, rfl, lk, hcd⟩ := F.ex
  exact ⟨fun s ws hl => .of_eq (match ws, hl with | [x0, x1, x2, x3], _ => rfl), fun hl r => match r, hl with | .cons h0 (.cons h1 (.cons h2 (.cons h3 (.nil)))), _ => (.cons h3 (.cons h2 (.cons h1 (.cons h0 .nil)))), fun hl r => match r, hl with | .cons h0 (.cons h1 (.cons h2 (.cons h3 (.nil)))), _ => (.cons h3 (.cons h2 (.cons h1 (.cons h0 .nil))))⟩
end K25

namespace K25
open PySem PySem.Spec PyProof.Rows L2 DL FL
open NA
open RF
theorem sc_inverse : FnScope N_inverse ps_inverse (defScope st_inverse) := ⟨rfl, rfl, rfl, by decide +kernel, rfl, by decide +kernel, by decide +kernel⟩
theorem der_inverse {P : Program} {w : World} {K : PySem.W.Frag} {mg : Str → Option Value} {base : Heap} (B : Bl mg) {f : Addr} {cdv : Value} {A : Around} {outer : List Env} {s : Shared} {H : Hp} (hr : RoomG 0 (A.deeper (envOfC "inverse" (defScope st_inverse) s.heap.objs.size f cdv))) :
    FSts (cxD P w K mg base N_inverse "inverse" (defScope st_inverse) f cdv A outer s H) (defBody st_inverse) fb_inverse :=
    (fs_one (fs_ret (f_item (f_lc rfl sc_inverse.nd (fi_range1 rfl B.range (fa_cons (f_var 1) fa_nil)) (blkOk_by (own := [("rest", 2)]) (N := N_inverse) (sc := defScope st_inverse) (by decide +kernel)) (compG_name (i := 2) (by decide)) (tgc_name (i := 2) (by decide)) (fun _ _ _ _ _ => (pg_name (i := 2) sc_inverse.nd rfl (by first | exact Or.inl rfl | exact Or.inr rfl))) (fun _ _ _ _ _ => (ft_one (fc_eq hr.r.units (f_mod (f_mul (f_var 2) (f_var 0)) (f_var 1)) f_int))) (fun _ _ _ _ _ => (f_var 2))) f_int)))
theorem sc_cleared : FnScope N_cleared ps_cleared (defScope st_cleared) := ⟨rfl, rfl, rfl, by decide +kernel, rfl, by decide +kernel, by decide +kernel⟩
theorem der_cleared {P : Program} {w : World} {K : PySem.W.Frag} {mg : Str → Option Value} {base : Heap} (B : Bl mg) {f : Addr} {cdv : Value} {A : Around} {outer : List Env} {s : Shared} {H : Hp} (hr : RoomG 0 (A.deeper (envOfC "cleared" (defScope st_cleared) s.heap.objs.size f cdv))) :
    FSts (cxD P w K mg base N_cleared "cleared" (defScope st_cleared) f cdv A outer s H) (defBody st_cleared) fb_cleared :=
    (fs_cons (fs_if (fc_eq hr.r.units (f_item (f_var 0) (f_var 2)) f_int) (fs_one (fs_ret (f_var 0))) fs_nil)
    (fs_one (fs_ret (f_lc rfl sc_cleared.nd (fi_zip rfl B.zip (fa_cons (f_var 0) (fa_cons (f_var 1) fa_nil))) (blkOk_by (own := [("value", 4), ("much", 5)]) (N := N_cleared) (sc := defScope st_cleared) (by decide +kernel)) (compG_tup (is := [4, 5]) (by decide)) (tgc_tup (is := [4, 5]) (by decide)) (fun _ _ _ _ _ => (pg_tup (n := 2) rfl (pgs_name2 (pg_name (i := 4) sc_cleared.nd rfl (by first | exact Or.inl rfl | exact Or.inr rfl)) (pgs_name2 (pg_name (i := 5) sc_cleared.nd rfl (by first | exact Or.inl rfl | exact Or.inr rfl)) pgs_nil)))) (fun _ _ _ _ _ => ft_nil) (fun _ _ _ _ _ => (f_mod (f_sub (f_var 4) (f_mul (f_item (f_var 0) (f_var 2)) (f_var 5))) (f_var 3)))))))
theorem sc_one_at : FnScope N_one_at ps_one_at (defScope st_one_at) := ⟨rfl, rfl, rfl, by decide +kernel, rfl, by decide +kernel, by decide +kernel⟩
theorem der_one_at {P : Program} {w : World} {K : PySem.W.Frag} {mg : Str → Option Value} {base : Heap} (B : Bl mg) (C_inverse : Cal P w K mg base 1 "inverse" st_inverse ps_inverse (spF F_inverse 2)) {f : Addr} {cdv : Value} {A : Around} {outer : List Env} {s : Shared} {H : Hp} (hr : RoomG 1 (A.deeper (envOfC "one_at" (defScope st_one_at) s.heap.objs.size f cdv))) :
    FSts (cxD P w K mg base N_one_at "one_at" (defScope st_one_at) f cdv A outer s H) (defBody st_one_at) fb_one_at :=
    (fs_cons (fs_asg (i := 3) sc_one_at.nd rfl (by first | exact Or.inl rfl | exact Or.inr rfl) (f_call C_inverse (hr.mono (by decide)) rfl bd_inverse (fa_cons (f_item (f_var 0) (f_var 1)) (fa_cons (f_var 2) fa_nil)) (alen_cons (alen_cons alen_nil))))
    (fs_one (fs_ret (f_lcO rfl sc_one_at.nd (fi_seq (f_var 0)) (blkOk_by (own := [("value", 4)]) (N := N_one_at) (sc := defScope st_one_at) (by decide +kernel)) (compG_name (i := 4) (by decide)) (tgc_name (i := 4) (by decide)) (fun _ _ _ _ _ => (pg_name (i := 4) sc_one_at.nd rfl (by first | exact Or.inl rfl | exact Or.inr rfl))) (fun _ _ _ _ _ => ft_nil) (fun _ _ _ _ _ => (f_mod (f_mul (f_var 4) (f_var 3)) (f_var 2)))))))
theorem sc_echelon : FnScope N_echelon ps_echelon (defScope st_echelon) := ⟨rfl, rfl, rfl, by decide +kernel, rfl, by decide +kernel, by decide +kernel⟩
theorem der_echelon {P : Program} {w : World} {K : PySem.W.Frag} {mg : Str → Option Value} {base : Heap} (B : Bl mg) (C_one_at : Cal P w K mg base 2 "one_at" st_one_at ps_one_at (spF F_one_at 3)) (C_cleared : Cal P w K mg base 1 "cleared" st_cleared ps_cleared (spF F_cleared 4)) {f : Addr} {cdv : Value} {A : Around} {outer : List Env} {s : Shared} {H : Hp} (hr : RoomG 2 (A.deeper (envOfC "echelon" (defScope st_echelon) s.heap.objs.size f cdv))) :
    FSts (cxD P w K mg base N_echelon "echelon" (defScope st_echelon) f cdv A outer s H) (defBody st_echelon) fb_echelon :=
    (fs_cons (fs_parN3 (i := 3) (j := 4) (l := 5) rfl sc_echelon.nd rfl rfl rfl (by decide) (by decide) (by decide) rfl rfl rfl (fb_cons (f_lstO fa_nil) (fb_cons (f_lst fa_nil) (fb_cons (f_listO rfl B.list (f_var 0)) fb_nil))) (by rfl))
    (fs_cons (fs_for PassesOwn.never rfl (fi_range1 rfl B.range (fa_cons (f_var 1) fa_nil)) (g_name (i := 6) sc_echelon.nd rfl (by first | exact Or.inl rfl | exact Or.inr rfl)) (tgd_name (i := 6)) (show FSts _ _ lb_echelon_1 from (fs_cons (fs_setLcX (i := 7) rfl sc_echelon.nd rfl rfl (sw_true rfl rfl rfl (by decide +kernel)) rfl B.enumerate (fa_cons (f_var 5) fa_nil) (blkOk_by (own := [("k", 8), ("row", 9)]) (N := N_echelon) (sc := defScope st_echelon) (by decide +kernel)) (compG_tup (is := [8, 9]) (by decide)) (tgc_tup (is := [8, 9]) (by decide)) (fun _ _ _ _ _ => (pg_tup (n := 2) rfl (pgs_name2 (pg_name (i := 8) sc_echelon.nd rfl (by first | exact Or.inl rfl | exact Or.inr rfl)) (pgs_name2 (pg_name (i := 9) sc_echelon.nd rfl (by first | exact Or.inl rfl | exact Or.inr rfl)) pgs_nil)))) (fun _ _ _ _ _ => (ft_one (fc_tr (f_item (f_var 9) (f_var 6))))) (fun _ _ _ _ _ => (f_var 8)))
    (fs_one (fs_if (fc_tr (f_var 7)) (fs_cons (fs_asg (i := 10) sc_echelon.nd rfl (by first | exact Or.inl rfl | exact Or.inr rfl) (f_frz (f_call C_one_at (hr.mono (by decide)) rfl bd_one_at (fa_cons (f_popAt (f_var 5) (fa_cons (f_item (f_var 7) f_int) fa_nil)) (fa_cons (f_var 6) (fa_cons (f_var 2) fa_nil))) (alen_cons (alen_cons (alen_cons alen_nil))))))
    (fs_cons (fs_frz (i := 5) (fs_setLcO (i := 5) rfl sc_echelon.nd rfl rfl (sw_true rfl rfl rfl (by decide +kernel)) (fi_seq (f_var 5)) (blkOk_by (own := [("row", 9)]) (N := N_echelon) (sc := defScope st_echelon) (by decide +kernel)) (compG_name (i := 9) (by decide)) (tgc_name (i := 9) (by decide)) (fun _ _ _ _ _ => (pg_name (i := 9) sc_echelon.nd rfl (by first | exact Or.inl rfl | exact Or.inr rfl))) (fun _ _ _ _ _ => ft_nil) (fun _ _ _ _ _ => (f_call C_cleared (hr.mono (by decide)) rfl bd_cleared (fa_cons (f_var 9) (fa_cons (f_var 10) (fa_cons (f_var 6) (fa_cons (f_var 2) fa_nil)))) (alen_cons (alen_cons (alen_cons (alen_cons alen_nil))))))))
    (fs_cons (fs_asg (i := 4) sc_echelon.nd rfl (by first | exact Or.inl rfl | exact Or.inr rfl) (f_add (f_lc rfl sc_echelon.nd (fi_seq (f_var 4)) (blkOk_by (own := [("row", 9)]) (N := N_echelon) (sc := defScope st_echelon) (by decide +kernel)) (compG_name (i := 9) (by decide)) (tgc_name (i := 9) (by decide)) (fun _ _ _ _ _ => (pg_name (i := 9) sc_echelon.nd rfl (by first | exact Or.inl rfl | exact Or.inr rfl))) (fun _ _ _ _ _ => ft_nil) (fun _ _ _ _ _ => (f_call C_cleared (hr.mono (by decide)) rfl bd_cleared (fa_cons (f_var 9) (fa_cons (f_var 10) (fa_cons (f_var 6) (fa_cons (f_var 2) fa_nil)))) (alen_cons (alen_cons (alen_cons (alen_cons alen_nil))))))) (f_lst (fa_cons (f_var 10) fa_nil))))
    (fs_one (fs_expr (f_append (f_var 3) (fa_cons (f_var 6) fa_nil))))))) fs_nil)))))
    (fs_one (fs_frz (i := 3) (fs_frz (i := 5) (fs_ret (f_tup (fa_cons (f_var 3) (fa_cons (f_var 4) (fa_cons (f_var 5) fa_nil))))))))))
theorem sc_is_number : FnScope N_is_number ps_is_number (defScope st_is_number) := ⟨rfl, rfl, rfl, by decide +kernel, rfl, by decide +kernel, by decide +kernel⟩
theorem der_is_number {P : Program} {w : World} {K : PySem.W.Frag} {mg : Str → Option Value} {base : Heap} (B : Bl mg) {f : Addr} {cdv : Value} {A : Around} {outer : List Env} {s : Shared} {H : Hp} (hr : RoomG 0 (A.deeper (envOfC "is_number" (defScope st_is_number) s.heap.objs.size f cdv))) :
    FSts (cxD P w K mg base N_is_number "is_number" (defScope st_is_number) f cdv A outer s H) (defBody st_is_number) fb_is_number :=
    (fs_one (fs_ret (f_and (f_isi (by decide) rfl B.isinstance (by decide +kernel) rfl B.int (by decide +kernel) (f_var 0)) (f_one (f_not (f_isi (by decide) rfl B.isinstance (by decide +kernel) rfl B.bool (by decide +kernel) (f_var 0)))))))
theorem sc_is_within : FnScope N_is_within ps_is_within (defScope st_is_within) := ⟨rfl, rfl, rfl, by decide +kernel, rfl, by decide +kernel, by decide +kernel⟩
theorem der_is_within {P : Program} {w : World} {K : PySem.W.Frag} {mg : Str → Option Value} {base : Heap} (B : Bl mg) (C_is_number : Cal P w K mg base 1 "is_number" st_is_number ps_is_number (spF F_is_number 1)) {f : Addr} {cdv : Value} {A : Around} {outer : List Env} {s : Shared} {H : Hp} (hr : RoomG 1 (A.deeper (envOfC "is_within" (defScope st_is_within) s.heap.objs.size f cdv))) :
    FSts (cxD P w K mg base N_is_within "is_within" (defScope st_is_within) f cdv A outer s H) (defBody st_is_within) fb_is_within :=
    (fs_one (fs_ret (f_and (f_call C_is_number (hr.mono (by decide)) rfl bd_is_number (fa_cons (f_var 0) fa_nil) (alen_cons alen_nil)) (f_one (f_chain op_le p_le op_le p_le (f_var 1) (f_var 0) (f_var 2))))))
theorem sc_is_two : FnScope N_is_two ps_is_two (defScope st_is_two) := ⟨rfl, rfl, rfl, by decide +kernel, rfl, by decide +kernel, by decide +kernel⟩
theorem der_is_two {P : Program} {w : World} {K : PySem.W.Frag} {mg : Str → Option Value} {base : Heap} (B : Bl mg) {f : Addr} {cdv : Value} {A : Around} {outer : List Env} {s : Shared} {H : Hp} (hr : RoomG 0 (A.deeper (envOfC "is_two" (defScope st_is_two) s.heap.objs.size f cdv))) :
    FSts (cxD P w K mg base N_is_two "is_two" (defScope st_is_two) f cdv A outer s H) (defBody st_is_two) fb_is_two :=
    (fs_one (fs_ret (f_and (f_isi (by decide) rfl B.isinstance (by decide +kernel) rfl B.tuple (by decide +kernel) (f_var 0)) (f_one (f_eq hr.r.units (f_callB call_len_seq p_len rfl B.len (by decide +kernel) (fa_cons (f_var 0) fa_nil)) f_int)))))
theorem sc_is_remainders : FnScope N_is_remainders ps_is_remainders (defScope st_is_remainders) := ⟨rfl, rfl, rfl, by decide +kernel, rfl, by decide +kernel, by decide +kernel⟩
theorem der_is_remainders {P : Program} {w : World} {K : PySem.W.Frag} {mg : Str → Option Value} {base : Heap} (B : Bl mg) (C_is_within : Cal P w K mg base 2 "is_within" st_is_within ps_is_within (spF F_is_within 3)) {f : Addr} {cdv : Value} {A : Around} {outer : List Env} {s : Shared} {H : Hp} (hr : RoomG 2 (A.deeper (envOfC "is_remainders" (defScope st_is_remainders) s.heap.objs.size f cdv))) :
    FSts (cxD P w K mg base N_is_remainders "is_remainders" (defScope st_is_remainders) f cdv A outer s H) (defBody st_is_remainders) fb_is_remainders :=
    (fs_cons (fs_if (fc_w (fcw_or (fc_not (fc_tr (f_isi (by decide) rfl B.isinstance (by decide +kernel) rfl B.tuple (by decide +kernel) (f_var 0)))) (fcw_or1 (fc_ne hr.r.units (f_callB call_len_seq p_len rfl B.len (by decide +kernel) (fa_cons (f_var 0) fa_nil)) (f_var 1))))) (fs_one (fs_ret f_bl)) fs_nil)
    (fs_one (fs_ret (f_callB (cr_all rfl) p_all rfl B.all (by decide +kernel) (fa_cons (f_lc rfl sc_is_remainders.nd (fi_seq (f_var 0)) (blkOk_by (own := [("part", 3)]) (N := N_is_remainders) (sc := defScope st_is_remainders) (by decide +kernel)) (compG_name (i := 3) (by decide)) (tgc_name (i := 3) (by decide)) (fun _ _ _ _ _ => (pg_name (i := 3) sc_is_remainders.nd rfl (by first | exact Or.inl rfl | exact Or.inr rfl))) (fun _ _ _ _ _ => ft_nil) (fun _ _ _ _ _ => (f_call C_is_within (hr.mono (by decide)) rfl bd_is_within (fa_cons (f_var 3) (fa_cons f_int (fa_cons (f_sub (f_var 2) f_int) fa_nil))) (alen_cons (alen_cons (alen_cons alen_nil)))))) fa_nil)))))
theorem sc_is_modulus : FnScope N_is_modulus ps_is_modulus (defScope st_is_modulus) := ⟨rfl, rfl, rfl, by decide +kernel, rfl, by decide +kernel, by decide +kernel⟩
theorem der_is_modulus {P : Program} {w : World} {K : PySem.W.Frag} {mg : Str → Option Value} {base : Heap} (B : Bl mg) (H_PRIMES : KName K mg "PRIMES" [2, 3, 5, 6, 7, 10, 11, 13, 14, 15]) (HT_PRIMES : KTup K mg "PRIMES" [(2, [2]), (3, [3]), (5, [5]), (6, [2, 3]), (7, [7]), (10, [2, 5]), (11, [11]), (13, [13]), (14, [2, 7]), (15, [3, 5])]) (C_is_number : Cal P w K mg base 1 "is_number" st_is_number ps_is_number (spF F_is_number 1)) {f : Addr} {cdv : Value} {A : Around} {outer : List Env} {s : Shared} {H : Hp} (hr : RoomG 1 (A.deeper (envOfC "is_modulus" (defScope st_is_modulus) s.heap.objs.size f cdv))) :
    FSts (cxD P w K mg base N_is_modulus "is_modulus" (defScope st_is_modulus) f cdv A outer s H) (defBody st_is_modulus) fb_is_modulus :=
    (fs_one (fs_ret (f_and (f_call C_is_number (hr.mono (by decide)) rfl bd_is_number (fa_cons (f_var 0) fa_nil) (alen_cons alen_nil)) (f_one (f_inK H_PRIMES rfl (f_var 0))))))
theorem sc_has_prime : FnScope N_has_prime ps_has_prime (defScope st_has_prime) := ⟨rfl, rfl, rfl, by decide +kernel, rfl, by decide +kernel, by decide +kernel⟩
theorem der_has_prime {P : Program} {w : World} {K : PySem.W.Frag} {mg : Str → Option Value} {base : Heap} (B : Bl mg) (H_PRIMES : KName K mg "PRIMES" [2, 3, 5, 6, 7, 10, 11, 13, 14, 15]) (HT_PRIMES : KTup K mg "PRIMES" [(2, [2]), (3, [3]), (5, [5]), (6, [2, 3]), (7, [7]), (10, [2, 5]), (11, [11]), (13, [13]), (14, [2, 7]), (15, [3, 5])]) (C_is_two : Cal P w K mg base 1 "is_two" st_is_two ps_is_two (spF F_is_two 1)) (C_is_number : Cal P w K mg base 1 "is_number" st_is_number ps_is_number (spF F_is_number 1)) {f : Addr} {cdv : Value} {A : Around} {outer : List Env} {s : Shared} {H : Hp} (hr : RoomG 1 (A.deeper (envOfC "has_prime" (defScope st_has_prime) s.heap.objs.size f cdv))) :
    FSts (cxD P w K mg base N_has_prime "has_prime" (defScope st_has_prime) f cdv A outer s H) (defBody st_has_prime) fb_has_prime :=
    (fs_one (fs_ret (f_and (f_call C_is_two (hr.mono (by decide)) rfl bd_is_two (fa_cons (f_var 0) fa_nil) (alen_cons alen_nil)) (f_and (f_call C_is_number (hr.mono (by decide)) rfl bd_is_number (fa_cons (f_item (f_var 0) f_int) fa_nil) (alen_cons alen_nil)) (f_one (f_in (f_item (f_var 0) f_int) (f_ixK HT_PRIMES rfl (f_var 1))))))))
theorem sc_primes_of : FnScope N_primes_of ps_primes_of (defScope st_primes_of) := ⟨rfl, rfl, rfl, by decide +kernel, rfl, by decide +kernel, by decide +kernel⟩
theorem der_primes_of {P : Program} {w : World} {K : PySem.W.Frag} {mg : Str → Option Value} {base : Heap} (B : Bl mg) (H_PRIMES : KName K mg "PRIMES" [2, 3, 5, 6, 7, 10, 11, 13, 14, 15]) (HT_PRIMES : KTup K mg "PRIMES" [(2, [2]), (3, [3]), (5, [5]), (6, [2, 3]), (7, [7]), (10, [2, 5]), (11, [11]), (13, [13]), (14, [2, 7]), (15, [3, 5])]) (C_is_modulus : Cal P w K mg base 2 "is_modulus" st_is_modulus ps_is_modulus (spF F_is_modulus 1)) {f : Addr} {cdv : Value} {A : Around} {outer : List Env} {s : Shared} {H : Hp} (hr : RoomG 2 (A.deeper (envOfC "primes_of" (defScope st_primes_of) s.heap.objs.size f cdv))) :
    FSts (cxD P w K mg base N_primes_of "primes_of" (defScope st_primes_of) f cdv A outer s H) (defBody st_primes_of) fb_primes_of :=
    (fs_cons (fs_if (fc_not (fc_tr (f_call C_is_modulus (hr.mono (by decide)) rfl bd_is_modulus (fa_cons (f_var 0) fa_nil) (alen_cons alen_nil)))) (fs_one fs_never) fs_nil)
    (fs_one (fs_ret (f_listO rfl B.list (f_ixK HT_PRIMES rfl (f_var 0))))))
theorem sc_is_look : FnScope N_is_look ps_is_look (defScope st_is_look) := ⟨rfl, rfl, rfl, by decide +kernel, rfl, by decide +kernel, by decide +kernel⟩
theorem der_is_look {P : Program} {w : World} {K : PySem.W.Frag} {mg : Str → Option Value} {base : Heap} (B : Bl mg) (C_is_two : Cal P w K mg base 1 "is_two" st_is_two ps_is_two (spF F_is_two 1)) (C_is_remainders : Cal P w K mg base 3 "is_remainders" st_is_remainders ps_is_remainders (spF F_is_remainders 3)) (C_is_within : Cal P w K mg base 2 "is_within" st_is_within ps_is_within (spF F_is_within 3)) {f : Addr} {cdv : Value} {A : Around} {outer : List Env} {s : Shared} {H : Hp} (hr : RoomG 3 (A.deeper (envOfC "is_look" (defScope st_is_look) s.heap.objs.size f cdv))) :
    FSts (cxD P w K mg base N_is_look "is_look" (defScope st_is_look) f cdv A outer s H) (defBody st_is_look) fb_is_look :=
    (fs_one (fs_ret (f_and (f_call C_is_two (hr.mono (by decide)) rfl bd_is_two (fa_cons (f_var 0) fa_nil) (alen_cons alen_nil)) (f_and (f_call C_is_remainders (hr.mono (by decide)) rfl bd_is_remainders (fa_cons (f_item (f_var 0) f_int) (fa_cons (f_add (f_mul f_int (f_var 2)) f_int) (fa_cons (f_var 1) fa_nil))) (alen_cons (alen_cons (alen_cons alen_nil)))) (f_one (f_call C_is_within (hr.mono (by decide)) rfl bd_is_within (fa_cons (f_item (f_var 0) f_int) (fa_cons f_int (fa_cons (f_sub (f_var 1) f_int) fa_nil))) (alen_cons (alen_cons (alen_cons alen_nil)))))))))
theorem sc_need_looks : FnScope N_need_looks ps_need_looks (defScope st_need_looks) := ⟨rfl, rfl, rfl, by decide +kernel, rfl, by decide +kernel, by decide +kernel⟩
theorem der_need_looks {P : Program} {w : World} {K : PySem.W.Frag} {mg : Str → Option Value} {base : Heap} (B : Bl mg) (H_MOST_REACH : KNum mg "MOST_REACH" 3) (C_primes_of : Cal P w K mg base 3 "primes_of" st_primes_of ps_primes_of (spF F_primes_of 1)) (C_is_look : Cal P w K mg base 4 "is_look" st_is_look ps_is_look (spF F_is_look 3)) {f : Addr} {cdv : Value} {A : Around} {outer : List Env} {s : Shared} {H : Hp} (hr : RoomG 4 (A.deeper (envOfC "need_looks" (defScope st_need_looks) s.heap.objs.size f cdv))) :
    FSts (cxD P w K mg base N_need_looks "need_looks" (defScope st_need_looks) f cdv A outer s H) (defBody st_need_looks) fb_need_looks :=
    (fs_cons (fs_asg (i := 3) sc_need_looks.nd rfl (by first | exact Or.inl rfl | exact Or.inr rfl) (f_frz (f_call C_primes_of (hr.mono (by decide)) rfl bd_primes_of (fa_cons (f_var 0) fa_nil) (alen_cons alen_nil))))
    (fs_cons (fs_if (fc_not (fc_chain op_le p_le op_le p_le f_int (f_var 1) (f_num H_MOST_REACH rfl))) (fs_one fs_never) fs_nil)
    (fs_cons (fs_if (fc_w (fcw_or (fc_not (fc_tr (f_isi (by decide) rfl B.isinstance (by decide +kernel) rfl B.tuple (by decide +kernel) (f_var 2)))) (fcw_or1 (fc_not (fc_tr (f_callB (cr_all rfl) p_all rfl B.all (by decide +kernel) (fa_cons (f_lc rfl sc_need_looks.nd (fi_seq (f_var 2)) (blkOk_by (own := [("look", 4)]) (N := N_need_looks) (sc := defScope st_need_looks) (by decide +kernel)) (compG_name (i := 4) (by decide)) (tgc_name (i := 4) (by decide)) (fun _ _ _ _ _ => (pg_name (i := 4) sc_need_looks.nd rfl (by first | exact Or.inl rfl | exact Or.inr rfl))) (fun _ _ _ _ _ => ft_nil) (fun _ _ _ _ _ => (f_call C_is_look (hr.mono (by decide)) rfl bd_is_look (fa_cons (f_var 4) (fa_cons (f_var 0) (fa_cons (f_var 1) fa_nil))) (alen_cons (alen_cons (alen_cons alen_nil)))))) fa_nil))))))) (fs_one fs_never) fs_nil)
    (fs_one (fs_ret (f_var 3))))))
theorem sc_solved : FnScope N_solved ps_solved (defScope st_solved) := ⟨rfl, rfl, rfl, by decide +kernel, rfl, by decide +kernel, by decide +kernel⟩
theorem der_solved {P : Program} {w : World} {K : PySem.W.Frag} {mg : Str → Option Value} {base : Heap} (B : Bl mg) (C_echelon : Cal P w K mg base 3 "echelon" st_echelon ps_echelon (spF F_echelon 3)) {f : Addr} {cdv : Value} {A : Around} {outer : List Env} {s : Shared} {H : Hp} (hr : RoomG 3 (A.deeper (envOfC "solved" (defScope st_solved) s.heap.objs.size f cdv))) :
    FSts (cxD P w K mg base N_solved "solved" (defScope st_solved) f cdv A outer s H) (defBody st_solved) fb_solved :=
    (fs_cons (fs_asg (i := 3) sc_solved.nd rfl (by first | exact Or.inl rfl | exact Or.inr rfl) (f_lstO fa_nil))
    (fs_cons (fs_for PassesOwn.never rfl (fi_enumT rfl B.enumerate (fa_cons (f_var 0) fa_nil)) (g_tup2 (l := [.inl 4, .inr [5, 6]]) rfl (pgs_n2 (pg_name (i := 4) sc_solved.nd rfl (by first | exact Or.inl rfl | exact Or.inr rfl)) (pgs_t2 (is := [5, 6]) (pg_tup (n := 2) rfl (pgs_name2 (pg_name (i := 5) sc_solved.nd rfl (by first | exact Or.inl rfl | exact Or.inr rfl)) (pgs_name2 (pg_name (i := 6) sc_solved.nd rfl (by first | exact Or.inl rfl | exact Or.inr rfl)) pgs_nil))) pgs_nil))) (tgd_tup2 (l := [.inl 4, .inr [5, 6]])) (show FSts _ _ lb_solved_1 from (fs_one (fs_expr (f_append (f_var 3) (fa_cons (f_add (f_lc rfl sc_solved.nd (fi_seq (f_add (f_var 5) (f_tup (fa_cons (f_var 6) fa_nil)))) (blkOk_by (own := [("value", 7)]) (N := N_solved) (sc := defScope st_solved) (by decide +kernel)) (compG_name (i := 7) (by decide)) (tgc_name (i := 7) (by decide)) (fun _ _ _ _ _ => (pg_name (i := 7) sc_solved.nd rfl (by first | exact Or.inl rfl | exact Or.inr rfl))) (fun _ _ _ _ _ => ft_nil) (fun _ _ _ _ _ => (f_mod (f_var 7) (f_var 2)))) (f_lc rfl sc_solved.nd (fi_range1 rfl B.range (fa_cons (f_callB call_len_seq p_len rfl B.len (by decide +kernel) (fa_cons (f_var 0) fa_nil)) fa_nil)) (blkOk_by (own := [("m", 8)]) (N := N_solved) (sc := defScope st_solved) (by decide +kernel)) (compG_name (i := 8) (by decide)) (tgc_name (i := 8) (by decide)) (fun _ _ _ _ _ => (pg_name (i := 8) sc_solved.nd rfl (by first | exact Or.inl rfl | exact Or.inr rfl))) (fun _ _ _ _ _ => ft_nil) (fun _ _ _ _ _ => (f_callTy call_int1 p_int rfl B.int (by decide +kernel) (fa_cons (f_eq hr.r.units (f_var 4) (f_var 8)) fa_nil))))) fa_nil))))))
    (fs_one (fs_frz (i := 3) (fs_ret (f_call C_echelon (hr.mono (by decide)) rfl bd_echelon (fa_cons (f_var 3) (fa_cons (f_var 1) (fa_cons (f_var 2) fa_nil))) (alen_cons (alen_cons (alen_cons alen_nil)))))))))
theorem sc_refusal : FnScope N_refusal ps_refusal (defScope st_refusal) := ⟨rfl, rfl, rfl, by decide +kernel, rfl, by decide +kernel, by decide +kernel⟩
theorem der_refusal {P : Program} {w : World} {K : PySem.W.Frag} {mg : Str → Option Value} {base : Heap} (B : Bl mg) (C_need_looks : Cal P w K mg base 5 "need_looks" st_need_looks ps_need_looks (spF F_need_looks 3)) (C_solved : Cal P w K mg base 4 "solved" st_solved ps_solved (spF F_solved 3)) {f : Addr} {cdv : Value} {A : Around} {outer : List Env} {s : Shared} {H : Hp} (hr : RoomG 5 (A.deeper (envOfC "refusal" (defScope st_refusal) s.heap.objs.size f cdv))) :
    FSts (cxD P w K mg base N_refusal "refusal" (defScope st_refusal) f cdv A outer s H) (defBody st_refusal) fb_refusal :=
    (fs_cons (fs_asg (i := 3) sc_refusal.nd rfl (by first | exact Or.inl rfl | exact Or.inr rfl) (f_call C_need_looks (hr.mono (by decide)) rfl bd_need_looks (fa_cons (f_var 0) (fa_cons (f_var 1) (fa_cons (f_var 2) fa_nil))) (alen_cons (alen_cons (alen_cons alen_nil)))))
    (fs_cons (fs_asg (i := 4) sc_refusal.nd rfl (by first | exact Or.inl rfl | exact Or.inr rfl) (f_add (f_mul f_int (f_var 1)) f_int))
    (fs_cons (fs_for PassesOwn.never rfl (fi_seq (f_var 3)) (g_name (i := 5) sc_refusal.nd rfl (by first | exact Or.inl rfl | exact Or.inr rfl)) (tgd_name (i := 5)) (show FSts _ _ lb_refusal_1 from (fs_one (fs_for PassesOwn.never rfl (fi_seq (f_item (f_call C_solved (hr.mono (by decide)) rfl bd_solved (fa_cons (f_var 2) (fa_cons (f_var 4) (fa_cons (f_var 5) fa_nil))) (alen_cons (alen_cons (alen_cons alen_nil)))) f_int)) (g_name (i := 6) sc_refusal.nd rfl (by first | exact Or.inl rfl | exact Or.inr rfl)) (tgd_name (i := 6)) (show FSts _ _ lb_refusal_2 from (fs_one (fs_if (fc_tr (f_item (f_var 6) (f_var 4))) (fs_one (fs_ret (f_tup (fa_cons (f_var 5) (fa_cons (f_callTy call_tuple_of2 p_tuple rfl B.tuple (by decide +kernel) (fa_cons (f_slice (f_var 6) (fp_some (f_add (f_var 4) f_int)) fp_no) fa_nil)) fa_nil))))) fs_nil)))))))
    (fs_one (fs_ret f_non)))))
theorem sc_refuses : FnScope N_refuses ps_refuses (defScope st_refuses) := ⟨rfl, rfl, rfl, by decide +kernel, rfl, by decide +kernel, by decide +kernel⟩
theorem der_refuses {P : Program} {w : World} {K : PySem.W.Frag} {mg : Str → Option Value} {base : Heap} (B : Bl mg) (C_need_looks : Cal P w K mg base 5 "need_looks" st_need_looks ps_need_looks (spF F_need_looks 3)) (C_has_prime : Cal P w K mg base 2 "has_prime" st_has_prime ps_has_prime (spF F_has_prime 2)) (C_is_remainders : Cal P w K mg base 3 "is_remainders" st_is_remainders ps_is_remainders (spF F_is_remainders 3)) {f : Addr} {cdv : Value} {A : Around} {outer : List Env} {s : Shared} {H : Hp} (hr : RoomG 5 (A.deeper (envOfC "refuses" (defScope st_refuses) s.heap.objs.size f cdv))) :
    FSts (cxD P w K mg base N_refuses "refuses" (defScope st_refuses) f cdv A outer s H) (defBody st_refuses) fb_refuses :=
    (fs_cons (fs_expr (f_call C_need_looks (hr.mono (by decide)) rfl bd_need_looks (fa_cons (f_var 0) (fa_cons (f_var 1) (fa_cons (f_var 2) fa_nil))) (alen_cons (alen_cons (alen_cons alen_nil)))))
    (fs_cons (fs_if (fc_w (fcw_or (fc_not (fc_tr (f_call C_has_prime (hr.mono (by decide)) rfl bd_has_prime (fa_cons (f_var 3) (fa_cons (f_var 0) fa_nil)) (alen_cons (alen_cons alen_nil))))) (fcw_or1 (fc_not (fc_tr (f_call C_is_remainders (hr.mono (by decide)) rfl bd_is_remainders (fa_cons (f_item (f_var 3) f_int) (fa_cons (f_callB call_len_seq p_len rfl B.len (by decide +kernel) (fa_cons (f_var 2) fa_nil)) (fa_cons (f_item (f_var 3) f_int) fa_nil))) (alen_cons (alen_cons (alen_cons alen_nil))))))))) (fs_one (fs_ret f_bl)) fs_nil)
    (fs_cons (fs_asgT (f_var 3) (g_tup (is := [4, 5]) rfl (pgs_name2 (pg_name (i := 4) sc_refuses.nd rfl (by first | exact Or.inl rfl | exact Or.inr rfl)) (pgs_name2 (pg_name (i := 5) sc_refuses.nd rfl (by first | exact Or.inl rfl | exact Or.inr rfl)) pgs_nil))))
    (fs_cons (fs_asg (i := 6) sc_refuses.nd rfl (by first | exact Or.inl rfl | exact Or.inr rfl) (f_frz (f_rep (f_lstO (fa_cons f_int fa_nil)) (f_add (f_mul f_int (f_var 1)) f_int))))
    (fs_cons (fs_for PassesOwn.never rfl (fi_zip rfl B.zip (fa_cons (f_var 5) (fa_cons (f_var 2) fa_nil))) (g_tup2 (l := [.inl 7, .inr [8, 9]]) rfl (pgs_n2 (pg_name (i := 7) sc_refuses.nd rfl (by first | exact Or.inl rfl | exact Or.inr rfl)) (pgs_t2 (is := [8, 9]) (pg_tup (n := 2) rfl (pgs_name2 (pg_name (i := 8) sc_refuses.nd rfl (by first | exact Or.inl rfl | exact Or.inr rfl)) (pgs_name2 (pg_name (i := 9) sc_refuses.nd rfl (by first | exact Or.inl rfl | exact Or.inr rfl)) pgs_nil))) pgs_nil))) (tgd_tup2 (l := [.inl 7, .inr [8, 9]])) (show FSts _ _ lb_refuses_1 from (fs_one (fs_setLc (i := 6) rfl sc_refuses.nd rfl rfl (sw_true rfl rfl rfl (by decide +kernel)) (fi_zipLT rfl B.zip (fa_cons (f_var 6) (fa_cons (f_add (f_var 8) (f_tup (fa_cons (f_var 9) fa_nil))) fa_nil))) (blkOk_by (own := [("total", 10), ("value", 3)]) (N := N_refuses) (sc := defScope st_refuses) (by decide +kernel)) (compG_tup (is := [10, 3]) (by decide)) (tgc_tup (is := [10, 3]) (by decide)) (fun _ _ _ _ _ => (pg_tup (n := 2) rfl (pgs_name2 (pg_name (i := 10) sc_refuses.nd rfl (by first | exact Or.inl rfl | exact Or.inr rfl)) (pgs_name2 (pg_name (i := 3) sc_refuses.nd rfl (by first | exact Or.inl rfl | exact Or.inr rfl)) pgs_nil)))) (fun _ _ _ _ _ => ft_nil) (fun _ _ _ _ _ => (f_add (f_var 10) (f_mul (f_var 7) (f_var 3))))))))
    (fs_one (fs_ret (f_eq hr.r.units (f_lc rfl sc_refuses.nd (fi_seq (f_var 6)) (blkOk_by (own := [("total", 10)]) (N := N_refuses) (sc := defScope st_refuses) (by decide +kernel)) (compG_name (i := 10) (by decide)) (tgc_name (i := 10) (by decide)) (fun _ _ _ _ _ => (pg_name (i := 10) sc_refuses.nd rfl (by first | exact Or.inl rfl | exact Or.inr rfl))) (fun _ _ _ _ _ => ft_nil) (fun _ _ _ _ _ => (f_eq hr.r.units (f_mod (f_var 10) (f_var 4)) f_int))) (f_add (f_frz (f_rep (f_lstO (fa_cons f_bl fa_nil)) (f_add (f_mul f_int (f_var 1)) f_int))) (f_lst (fa_cons f_bl fa_nil)))))))))))
theorem sc__law_pot : FnScope N__law_pot ps__law_pot (defScope st__law_pot) := ⟨rfl, rfl, rfl, by decide +kernel, rfl, by decide +kernel, by decide +kernel⟩
theorem der__law_pot {P : Program} {w : World} {K : PySem.W.Frag} {mg : Str → Option Value} {base : Heap} (B : Bl mg) {f : Addr} {cdv : Value} {A : Around} {outer : List Env} {s : Shared} {H : Hp} (hr : RoomG 0 (A.deeper (envOfC "_law_pot" (defScope st__law_pot) s.heap.objs.size f cdv))) :
    FSts (cxD P w K mg base N__law_pot "_law_pot" (defScope st__law_pot) f cdv A outer s H) (defBody st__law_pot) fb__law_pot :=
    (fs_cons (fs_asg (i := 2) sc__law_pot.nd rfl (by first | exact Or.inl rfl | exact Or.inr rfl) (f_add (f_add (f_mul f_int (f_var 1)) f_int) (f_callB call_len_seq p_len rfl B.len (by decide +kernel) (fa_cons (f_var 0) fa_nil))))
    (fs_cons (fs_if (fc_lt (f_var 1) (f_callB call_len_seq p_len rfl B.len (by decide +kernel) (fa_cons (f_var 0) fa_nil))) (fs_one (fs_asg (i := 2) sc__law_pot.nd rfl (by first | exact Or.inl rfl | exact Or.inr rfl) (f_item (f_var 0) (f_var 1)))) fs_nil)
    (fs_cons (fs_asg (i := 3) sc__law_pot.nd rfl (by first | exact Or.inl rfl | exact Or.inr rfl) (f_callB (cr_sum rfl) p_sum rfl B.sum (by decide +kernel) (fa_cons (f_lc rfl sc__law_pot.nd (fi_seq (f_var 0)) (blkOk_by (own := [("_law_other", 4)]) (N := N__law_pot) (sc := defScope st__law_pot) (by decide +kernel)) (compG_name (i := 4) (by decide)) (tgc_name (i := 4) (by decide)) (fun _ _ _ _ _ => (pg_name (i := 4) sc__law_pot.nd rfl (by first | exact Or.inl rfl | exact Or.inr rfl))) (fun _ _ _ _ _ => ft_nil) (fun _ _ _ _ _ => (f_mod (f_callTy call_int1 p_int rfl B.int (by decide +kernel) (fa_cons (f_var 4) fa_nil)) (f_add (f_pow f_int f_int) f_int)))) fa_nil)))
    (fs_cons (fs_asg (i := 5) sc__law_pot.nd rfl (by first | exact Or.inl rfl | exact Or.inr rfl) (f_mod (f_callTy call_int1 p_int rfl B.int (by decide +kernel) (fa_cons (f_add (f_add (f_mul (f_var 2) f_int) (f_mul (f_var 3) f_int)) (f_mul (f_var 1) f_int)) fa_nil)) (f_add (f_pow f_int f_int) f_int)))
    (fs_one (fs_ret (f_lstO (fa_cons (f_callB (call_max2 rfl) p_max2 rfl B.max (by decide +kernel) (fa_cons f_int (fa_cons (f_sub (f_var 2) (f_pow f_int f_int)) fa_nil))) (fa_cons (f_var 5) (fa_cons f_int fa_nil))))))))))
theorem sc__law_draw : FnScope N__law_draw ps__law_draw (defScope st__law_draw) := ⟨rfl, rfl, rfl, by decide +kernel, rfl, by decide +kernel, by decide +kernel⟩
theorem der__law_draw {P : Program} {w : World} {K : PySem.W.Frag} {mg : Str → Option Value} {base : Heap} (B : Bl mg) {f : Addr} {cdv : Value} {A : Around} {outer : List Env} {s : Shared} {H : Hp} (hr : RoomG 0 (A.deeper (envOfC "_law_draw" (defScope st__law_draw) s.heap.objs.size f cdv))) :
    FSts (cxD P w K mg base N__law_draw "_law_draw" (defScope st__law_draw) f cdv A outer s H) (defBody st__law_draw) fb__law_draw :=
    (fs_cons (fs_if (fc_gt (f_item (f_var 0) f_int) f_int) (fs_cons (fs_asg (i := 2) sc__law_draw.nd rfl (by first | exact Or.inl rfl | exact Or.inr rfl) (f_mod (f_callTy call_int1 p_int rfl B.int (by decide +kernel) (fa_cons (f_item (f_var 0) f_int) fa_nil)) (f_var 1)))
    (fs_cons (fs_setI (f_var 0) f_int (f_fdiv (f_item (f_var 0) f_int) (f_var 1)))
    (fs_one (fs_ret (f_var 2))))) fs_nil)
    (fs_cons (fs_setI (f_var 0) f_int (f_add (f_item (f_var 0) f_int) f_int))
    (fs_cons (fs_asg (i := 3) sc__law_draw.nd rfl (by first | exact Or.inl rfl | exact Or.inr rfl) (f_mod (f_callTy call_int1 p_int rfl B.int (by decide +kernel) (fa_cons (f_pow (f_add (f_item (f_var 0) f_int) (f_mul f_int (f_item (f_var 0) f_int))) f_int) fa_nil)) (f_add (f_pow f_int f_int) f_int)))
    (fs_one (fs_ret (f_mod (f_fdiv (f_mod (f_callTy call_int1 p_int rfl B.int (by decide +kernel) (fa_cons (f_mul (f_var 3) (f_add (f_var 3) f_int)) fa_nil)) (f_add (f_pow f_int f_int) f_int)) f_int) (f_var 1)))))))
theorem sc__law_told : FnScope N__law_told ps__law_told (defScope st__law_told) := ⟨rfl, rfl, rfl, by decide +kernel, rfl, by decide +kernel, by decide +kernel⟩
theorem der__law_told {P : Program} {w : World} {K : PySem.W.Frag} {mg : Str → Option Value} {base : Heap} (B : Bl mg) {f : Addr} {cdv : Value} {A : Around} {outer : List Env} {s : Shared} {H : Hp} (hr : RoomG 0 (A.deeper (envOfC "_law_told" (defScope st__law_told) s.heap.objs.size f cdv))) :
    FSts (cxD P w K mg base N__law_told "_law_told" (defScope st__law_told) f cdv A outer s H) (defBody st__law_told) fb__law_told :=
    (fs_one (fs_ret (f_mod (f_callTy call_int1 p_int rfl B.int (by decide +kernel) (fa_cons (f_callB (cr_sum rfl) p_sum rfl B.sum (by decide +kernel) (fa_cons (f_lc rfl sc__law_told.nd (fi_zipLT rfl B.zip (fa_cons (f_var 0) (fa_cons (f_var 1) fa_nil))) (blkOk_by (own := [("_law_factor", 3), ("_law_value", 4)]) (N := N__law_told) (sc := defScope st__law_told) (by decide +kernel)) (compG_tup (is := [3, 4]) (by decide)) (tgc_tup (is := [3, 4]) (by decide)) (fun _ _ _ _ _ => (pg_tup (n := 2) rfl (pgs_name2 (pg_name (i := 3) sc__law_told.nd rfl (by first | exact Or.inl rfl | exact Or.inr rfl)) (pgs_name2 (pg_name (i := 4) sc__law_told.nd rfl (by first | exact Or.inl rfl | exact Or.inr rfl)) pgs_nil)))) (fun _ _ _ _ _ => ft_nil) (fun _ _ _ _ _ => (f_mul (f_var 3) (f_var 4)))) fa_nil)) fa_nil)) (f_var 2))))
theorem sc__law_cells : FnScope N__law_cells ps__law_cells (defScope st__law_cells) := ⟨rfl, rfl, rfl, by decide +kernel, rfl, by decide +kernel, by decide +kernel⟩
theorem der__law_cells {P : Program} {w : World} {K : PySem.W.Frag} {mg : Str → Option Value} {base : Heap} (B : Bl mg) (C__law_draw : Cal P w K mg base 1 "_law_draw" st__law_draw ps__law_draw (spF F__law_draw 2)) {f : Addr} {cdv : Value} {A : Around} {outer : List Env} {s : Shared} {H : Hp} (hr : RoomG 1 (A.deeper (envOfC "_law_cells" (defScope st__law_cells) s.heap.objs.size f cdv))) :
    FSts (cxD P w K mg base N__law_cells "_law_cells" (defScope st__law_cells) f cdv A outer s H) (defBody st__law_cells) fb__law_cells :=
    (fs_cons (fs_setLc (i := 4) rfl sc__law_cells.nd rfl rfl (sw_true rfl rfl rfl (by decide +kernel)) (fi_range1 rfl B.range (fa_cons (f_var 2) fa_nil)) (blkOk_by (own := [("_law_place", 5)]) (N := N__law_cells) (sc := defScope st__law_cells) (by decide +kernel)) (compG_name (i := 5) (by decide)) (tgc_name (i := 5) (by decide)) (fun _ _ _ _ _ => (pg_name (i := 5) sc__law_cells.nd rfl (by first | exact Or.inl rfl | exact Or.inr rfl))) (fun _ _ _ _ _ => ft_nil) (fun _ _ _ _ _ => (f_call C__law_draw (hr.mono (by decide)) rfl bd__law_draw (fa_cons (f_var 0) (fa_cons (f_var 1) fa_nil)) (alen_cons (alen_cons alen_nil)))))
    (fs_cons (fs_asg (i := 6) sc__law_cells.nd rfl (by first | exact Or.inl rfl | exact Or.inr rfl) (f_call C__law_draw (hr.mono (by decide)) rfl bd__law_draw (fa_cons (f_var 0) (fa_cons f_int fa_nil)) (alen_cons (alen_cons alen_nil))))
    (fs_cons (fs_if (fc_eq hr.r.units (f_var 6) f_int) (fs_cons (fs_asg (i := 7) sc__law_cells.nd rfl (by first | exact Or.inl rfl | exact Or.inr rfl) (f_call C__law_draw (hr.mono (by decide)) rfl bd__law_draw (fa_cons (f_var 0) (fa_cons (f_var 1) fa_nil)) (alen_cons (alen_cons alen_nil))))
    (fs_one (fs_ret (f_callTy call_tuple_of2 p_tuple rfl B.tuple (by decide +kernel) (fa_cons (f_lc rfl sc__law_cells.nd (fi_seq (f_var 4)) (blkOk_by (own := [("_law_value", 8)]) (N := N__law_cells) (sc := defScope st__law_cells) (by decide +kernel)) (compG_name (i := 8) (by decide)) (tgc_name (i := 8) (by decide)) (fun _ _ _ _ _ => (pg_name (i := 8) sc__law_cells.nd rfl (by first | exact Or.inl rfl | exact Or.inr rfl))) (fun _ _ _ _ _ => ft_nil) (fun _ _ _ _ _ => (f_mod (f_callTy call_int1 p_int rfl B.int (by decide +kernel) (fa_cons (f_mul (f_var 8) (f_var 7)) fa_nil)) (f_var 1)))) fa_nil))))) fs_nil)
    (fs_cons (fs_if (fc_eq hr.r.units (f_var 6) f_int) (fs_cons (fs_asg (i := 9) sc__law_cells.nd rfl (by first | exact Or.inl rfl | exact Or.inr rfl) (f_call C__law_draw (hr.mono (by decide)) rfl bd__law_draw (fa_cons (f_var 0) (fa_cons (f_var 2) fa_nil)) (alen_cons (alen_cons alen_nil))))
    (fs_one (fs_ret (f_callTy call_tuple_of2 p_tuple rfl B.tuple (by decide +kernel) (fa_cons (f_lc rfl sc__law_cells.nd (fi_enum rfl B.enumerate (fa_cons (f_var 4) fa_nil)) (blkOk_by (own := [("_law_place", 5), ("_law_value", 8)]) (N := N__law_cells) (sc := defScope st__law_cells) (by decide +kernel)) (compG_tup (is := [5, 8]) (by decide)) (tgc_tup (is := [5, 8]) (by decide)) (fun _ _ _ _ _ => (pg_tup (n := 2) rfl (pgs_name2 (pg_name (i := 5) sc__law_cells.nd rfl (by first | exact Or.inl rfl | exact Or.inr rfl)) (pgs_name2 (pg_name (i := 8) sc__law_cells.nd rfl (by first | exact Or.inl rfl | exact Or.inr rfl)) pgs_nil)))) (fun _ _ _ _ _ => ft_nil) (fun _ _ _ _ _ => (f_if (fc_eq hr.r.units (f_var 5) (f_var 9)) (f_var 8) f_int))) fa_nil))))) fs_nil)
    (fs_cons (fs_if (fc_w (fcw_and (fc_eq hr.r.units (f_var 6) f_int) (fcw_and1 (fc_gt (f_callB call_len_seq p_len rfl B.len (by decide +kernel) (fa_cons (f_var 3) fa_nil)) f_int)))) (fs_cons (fs_par (i := 10) (j := 11) rfl sc__law_cells.nd rfl rfl (by decide) rfl rfl (fa_cons (f_item (f_item (f_var 3) (f_call C__law_draw (hr.mono (by decide)) rfl bd__law_draw (fa_cons (f_var 0) (fa_cons (f_callB call_len_seq p_len rfl B.len (by decide +kernel) (fa_cons (f_var 3) fa_nil)) fa_nil)) (alen_cons (alen_cons alen_nil)))) f_int) (fa_cons (f_item (f_item (f_var 3) (f_call C__law_draw (hr.mono (by decide)) rfl bd__law_draw (fa_cons (f_var 0) (fa_cons (f_callB call_len_seq p_len rfl B.len (by decide +kernel) (fa_cons (f_var 3) fa_nil)) fa_nil)) (alen_cons (alen_cons alen_nil)))) f_int) fa_nil)) (by rfl))
    (fs_one (fs_ret (f_callTy call_tuple_of2 p_tuple rfl B.tuple (by decide +kernel) (fa_cons (f_lc rfl sc__law_cells.nd (fi_zip rfl B.zip (fa_cons (f_var 10) (fa_cons (f_var 11) fa_nil))) (blkOk_by (own := [("_law_value", 8), ("_law_further", 12)]) (N := N__law_cells) (sc := defScope st__law_cells) (by decide +kernel)) (compG_tup (is := [8, 12]) (by decide)) (tgc_tup (is := [8, 12]) (by decide)) (fun _ _ _ _ _ => (pg_tup (n := 2) rfl (pgs_name2 (pg_name (i := 8) sc__law_cells.nd rfl (by first | exact Or.inl rfl | exact Or.inr rfl)) (pgs_name2 (pg_name (i := 12) sc__law_cells.nd rfl (by first | exact Or.inl rfl | exact Or.inr rfl)) pgs_nil)))) (fun _ _ _ _ _ => ft_nil) (fun _ _ _ _ _ => (f_mod (f_callTy call_int1 p_int rfl B.int (by decide +kernel) (fa_cons (f_add (f_var 8) (f_var 12)) fa_nil)) (f_var 1)))) fa_nil))))) fs_nil)
    (fs_cons (fs_if (fc_w (fcw_and (fc_eq hr.r.units (f_var 6) f_int) (fcw_and1 (fc_eq hr.r.units (f_call C__law_draw (hr.mono (by decide)) rfl bd__law_draw (fa_cons (f_var 0) (fa_cons f_int fa_nil)) (alen_cons (alen_cons alen_nil))) f_int)))) (fs_one (fs_ret (f_mulT (f_tup (fa_cons f_int fa_nil)) (f_var 2)))) fs_nil)
    (fs_one (fs_ret (f_callTy call_tuple_of2 p_tuple rfl B.tuple (by decide +kernel) (fa_cons (f_var 4) fa_nil))))))))))
theorem sc__law_looks : FnScope N__law_looks ps__law_looks (defScope st__law_looks) := ⟨rfl, rfl, rfl, by decide +kernel, rfl, by decide +kernel, by decide +kernel⟩
theorem der__law_looks {P : Program} {w : World} {K : PySem.W.Frag} {mg : Str → Option Value} {base : Heap} (B : Bl mg) (C__law_draw : Cal P w K mg base 1 "_law_draw" st__law_draw ps__law_draw (spF F__law_draw 2)) (C__law_cells : Cal P w K mg base 2 "_law_cells" st__law_cells ps__law_cells (spF F__law_cells 4)) (C__law_told : Cal P w K mg base 1 "_law_told" st__law_told ps__law_told (spF F__law_told 3)) {f : Addr} {cdv : Value} {A : Around} {outer : List Env} {s : Shared} {H : Hp} (hr : RoomG 2 (A.deeper (envOfC "_law_looks" (defScope st__law_looks) s.heap.objs.size f cdv))) :
    FSts (cxD P w K mg base N__law_looks "_law_looks" (defScope st__law_looks) f cdv A outer s H) (defBody st__law_looks) fb__law_looks :=
    (fs_cons (fs_asg (i := 4) sc__law_looks.nd rfl (by first | exact Or.inl rfl | exact Or.inr rfl) (f_add (f_mul f_int (f_var 2)) f_int))
    (fs_cons (fs_setLc (i := 5) rfl sc__law_looks.nd rfl rfl (sw_true rfl rfl rfl (by decide +kernel)) (fi_range1 rfl B.range (fa_cons (f_var 4) fa_nil)) (blkOk_by (own := [("_law_place", 6)]) (N := N__law_looks) (sc := defScope st__law_looks) (by decide +kernel)) (compG_name (i := 6) (by decide)) (tgc_name (i := 6) (by decide)) (fun _ _ _ _ _ => (pg_name (i := 6) sc__law_looks.nd rfl (by first | exact Or.inl rfl | exact Or.inr rfl))) (fun _ _ _ _ _ => ft_nil) (fun _ _ _ _ _ => (f_call C__law_draw (hr.mono (by decide)) rfl bd__law_draw (fa_cons (f_var 0) (fa_cons (f_var 1) fa_nil)) (alen_cons (alen_cons alen_nil)))))
    (fs_cons (fs_par (i := 7) (j := 8) rfl sc__law_looks.nd rfl rfl (by decide) rfl rfl (fa_cons (f_call C__law_draw (hr.mono (by decide)) rfl bd__law_draw (fa_cons (f_var 0) (fa_cons f_int fa_nil)) (alen_cons (alen_cons alen_nil))) (fa_cons (f_lstO fa_nil) fa_nil)) (by rfl))
    (fs_cons (fs_for PassesOwn.never rfl (fi_range1 rfl B.range (fa_cons (f_call C__law_draw (hr.mono (by decide)) rfl bd__law_draw (fa_cons (f_var 0) (fa_cons (f_add (f_var 3) f_int) fa_nil)) (alen_cons (alen_cons alen_nil))) fa_nil)) (g_name (i := 9) sc__law_looks.nd rfl (by first | exact Or.inl rfl | exact Or.inr rfl)) (tgd_name (i := 9)) (show FSts _ _ lb__law_looks_1 from (fs_cons (fs_asg (i := 10) sc__law_looks.nd rfl (by first | exact Or.inl rfl | exact Or.inr rfl) (f_call C__law_cells (hr.mono (by decide)) rfl bd__law_cells (fa_cons (f_var 0) (fa_cons (f_var 1) (fa_cons (f_var 4) (fa_cons (f_var 8) fa_nil)))) (alen_cons (alen_cons (alen_cons (alen_cons alen_nil))))))
    (fs_cons (fs_asg (i := 11) sc__law_looks.nd rfl (by first | exact Or.inl rfl | exact Or.inr rfl) (f_call C__law_told (hr.mono (by decide)) rfl bd__law_told (fa_cons (f_var 5) (fa_cons (f_var 10) (fa_cons (f_var 1) fa_nil))) (alen_cons (alen_cons (alen_cons alen_nil)))))
    (fs_cons (fs_if (fc_eq hr.r.units (f_var 7) f_int) (fs_one (fs_asg (i := 11) sc__law_looks.nd rfl (by first | exact Or.inl rfl | exact Or.inr rfl) (f_call C__law_draw (hr.mono (by decide)) rfl bd__law_draw (fa_cons (f_var 0) (fa_cons (f_var 1) fa_nil)) (alen_cons (alen_cons alen_nil))))) fs_nil)
    (fs_one (fs_expr (f_append (f_var 8) (fa_cons (f_tup (fa_cons (f_var 10) (fa_cons (f_var 11) fa_nil))) fa_nil)))))))))
    (fs_cons (fs_if (fc_w (fcw_and (fc_eq hr.r.units (f_var 7) f_int) (fcw_and1 (fc_ne hr.r.units (f_var 8) (f_lst fa_nil))))) (fs_cons (fs_asg (i := 12) sc__law_looks.nd rfl (by first | exact Or.inl rfl | exact Or.inr rfl) (f_call C__law_draw (hr.mono (by decide)) rfl bd__law_draw (fa_cons (f_var 0) (fa_cons (f_callB call_len_seq p_len rfl B.len (by decide +kernel) (fa_cons (f_var 8) fa_nil)) fa_nil)) (alen_cons (alen_cons alen_nil))))
    (fs_one (fs_setI (f_var 8) (f_var 12) (f_tup (fa_cons (f_item (f_item (f_var 8) (f_var 12)) f_int) (fa_cons (f_mod (f_callTy call_int1 p_int rfl B.int (by decide +kernel) (fa_cons (f_add (f_add (f_item (f_item (f_var 8) (f_var 12)) f_int) f_int) (f_call C__law_draw (hr.mono (by decide)) rfl bd__law_draw (fa_cons (f_var 0) (fa_cons (f_sub (f_var 1) f_int) fa_nil)) (alen_cons (alen_cons alen_nil)))) fa_nil)) (f_var 1)) fa_nil)))))) fs_nil)
    (fs_one (fs_ret (f_callTy call_tuple_of2 p_tuple rfl B.tuple (by decide +kernel) (fa_cons (f_var 8) fa_nil)))))))))
theorem sc__law_primes : FnScope N__law_primes ps__law_primes (defScope st__law_primes) := ⟨rfl, rfl, rfl, by decide +kernel, rfl, by decide +kernel, by decide +kernel⟩
theorem der__law_primes {P : Program} {w : World} {K : PySem.W.Frag} {mg : Str → Option Value} {base : Heap} (B : Bl mg) {f : Addr} {cdv : Value} {A : Around} {outer : List Env} {s : Shared} {H : Hp} (hr : RoomG 0 (A.deeper (envOfC "_law_primes" (defScope st__law_primes) s.heap.objs.size f cdv))) :
    FSts (cxD P w K mg base N__law_primes "_law_primes" (defScope st__law_primes) f cdv A outer s H) (defBody st__law_primes) fb__law_primes :=
    (fs_one (fs_ret (f_lcO rfl sc__law_primes.nd (fi_seq (f_lst (fa_cons f_int (fa_cons f_int (fa_cons f_int (fa_cons f_int (fa_cons f_int (fa_cons f_int fa_nil)))))))) (blkOk_by (own := [("_law_prime", 1)]) (N := N__law_primes) (sc := defScope st__law_primes) (by decide +kernel)) (compG_name (i := 1) (by decide)) (tgc_name (i := 1) (by decide)) (fun _ _ _ _ _ => (pg_name (i := 1) sc__law_primes.nd rfl (by first | exact Or.inl rfl | exact Or.inr rfl))) (fun _ _ _ _ _ => (ft_one (fc_eq hr.r.units (f_mod (f_callTy call_int1 p_int rfl B.int (by decide +kernel) (fa_cons (f_var 0) fa_nil)) (f_var 1)) f_int))) (fun _ _ _ _ _ => (f_var 1)))))
theorem sc__law_less : FnScope N__law_less ps__law_less (defScope st__law_less) := ⟨rfl, rfl, rfl, by decide +kernel, rfl, by decide +kernel, by decide +kernel⟩
theorem der__law_less {P : Program} {w : World} {K : PySem.W.Frag} {mg : Str → Option Value} {base : Heap} (B : Bl mg) {f : Addr} {cdv : Value} {A : Around} {outer : List Env} {s : Shared} {H : Hp} (hr : RoomG 0 (A.deeper (envOfC "_law_less" (defScope st__law_less) s.heap.objs.size f cdv))) :
    FSts (cxD P w K mg base N__law_less "_law_less" (defScope st__law_less) f cdv A outer s H) (defBody st__law_less) fb__law_less :=
    (fs_cons (fs_asg (i := 4) sc__law_less.nd rfl (by first | exact Or.inl rfl | exact Or.inr rfl) (f_item (f_var 0) (f_var 2)))
    (fs_one (fs_ret (f_lcO rfl sc__law_less.nd (fi_zip rfl B.zip (fa_cons (f_var 0) (fa_cons (f_var 1) fa_nil))) (blkOk_by (own := [("_law_value", 5), ("_law_part", 6)]) (N := N__law_less) (sc := defScope st__law_less) (by decide +kernel)) (compG_tup (is := [5, 6]) (by decide)) (tgc_tup (is := [5, 6]) (by decide)) (fun _ _ _ _ _ => (pg_tup (n := 2) rfl (pgs_name2 (pg_name (i := 5) sc__law_less.nd rfl (by first | exact Or.inl rfl | exact Or.inr rfl)) (pgs_name2 (pg_name (i := 6) sc__law_less.nd rfl (by first | exact Or.inl rfl | exact Or.inr rfl)) pgs_nil)))) (fun _ _ _ _ _ => ft_nil) (fun _ _ _ _ _ => (f_mod (f_callTy call_int1 p_int rfl B.int (by decide +kernel) (fa_cons (f_sub (f_var 5) (f_mul (f_var 4) (f_var 6))) fa_nil)) (f_var 3)))))))
theorem sc__law_rank : FnScope N__law_rank ps__law_rank (defScope st__law_rank) := ⟨rfl, rfl, rfl, by decide +kernel, rfl, by decide +kernel, by decide +kernel⟩
theorem der__law_rank {P : Program} {w : World} {K : PySem.W.Frag} {mg : Str → Option Value} {base : Heap} (B : Bl mg) (C__law_less : Cal P w K mg base 1 "_law_less" st__law_less ps__law_less (spF F__law_less 4)) {f : Addr} {cdv : Value} {A : Around} {outer : List Env} {s : Shared} {H : Hp} (hr : RoomG 1 (A.deeper (envOfC "_law_rank" (defScope st__law_rank) s.heap.objs.size f cdv))) :
    FSts (cxD P w K mg base N__law_rank "_law_rank" (defScope st__law_rank) f cdv A outer s H) (defBody st__law_rank) fb__law_rank :=
    (fs_cons (fs_par (i := 3) (j := 4) rfl sc__law_rank.nd rfl rfl (by decide) rfl rfl (fa_cons (f_lcO rfl sc__law_rank.nd (fi_seq (f_var 0)) (blkOk_by (own := [("_law_row", 5)]) (N := N__law_rank) (sc := defScope st__law_rank) (by decide +kernel)) (compG_name (i := 5) (by decide)) (tgc_name (i := 5) (by decide)) (fun _ _ _ _ _ => (pg_name (i := 5) sc__law_rank.nd rfl (by first | exact Or.inl rfl | exact Or.inr rfl))) (fun _ _ _ _ _ => ft_nil) (fun _ _ _ _ _ => (f_lc rfl sc__law_rank.nd (fi_seq (f_var 5)) (blkOk_by (own := [("_law_value", 6)]) (N := N__law_rank) (by rfl)) (compG_name (i := 6) (by decide)) (tgc_name (i := 6) (by decide)) (fun _ _ _ _ _ => (pg_name (i := 6) sc__law_rank.nd rfl (by first | exact Or.inl rfl | exact Or.inr rfl))) (fun _ _ _ _ _ => ft_nil) (fun _ _ _ _ _ => (f_mod (f_callTy call_int1 p_int rfl B.int (by decide +kernel) (fa_cons (f_var 6) fa_nil)) (f_var 2)))))) (fa_cons f_int fa_nil)) (by rfl))
    (fs_cons (fs_for PassesOwn.never rfl (fi_range1 rfl B.range (fa_cons (f_var 1) fa_nil)) (g_name (i := 7) sc__law_rank.nd rfl (by first | exact Or.inl rfl | exact Or.inr rfl)) (tgd_name (i := 7)) (show FSts _ _ lb__law_rank_1 from (fs_cons (fs_setLcX (i := 8) rfl sc__law_rank.nd rfl rfl (sw_true rfl rfl rfl (by decide +kernel)) rfl B.enumerate (fa_cons (f_var 3) fa_nil) (blkOk_by (own := [("_law_at", 9), ("_law_row", 5)]) (N := N__law_rank) (sc := defScope st__law_rank) (by decide +kernel)) (compG_tup (is := [9, 5]) (by decide)) (tgc_tup (is := [9, 5]) (by decide)) (fun _ _ _ _ _ => (pg_tup (n := 2) rfl (pgs_name2 (pg_name (i := 9) sc__law_rank.nd rfl (by first | exact Or.inl rfl | exact Or.inr rfl)) (pgs_name2 (pg_name (i := 5) sc__law_rank.nd rfl (by first | exact Or.inl rfl | exact Or.inr rfl)) pgs_nil)))) (fun _ _ _ _ _ => (ft_one (fc_ne hr.r.units (f_item (f_var 5) (f_var 7)) f_int))) (fun _ _ _ _ _ => (f_var 9)))
    (fs_one (fs_if (fc_ne hr.r.units (f_var 8) (f_lst fa_nil)) (fs_cons (fs_asg (i := 10) sc__law_rank.nd rfl (by first | exact Or.inl rfl | exact Or.inr rfl) (f_popAt (f_var 3) (fa_cons (f_item (f_var 8) f_int) fa_nil)))
    (fs_cons (fs_asg (i := 11) sc__law_rank.nd rfl (by first | exact Or.inl rfl | exact Or.inr rfl) (f_item (f_lc rfl sc__law_rank.nd (fi_range1 rfl B.range (fa_cons (f_var 2) fa_nil)) (blkOk_by (own := [("_law_k", 12)]) (N := N__law_rank) (sc := defScope st__law_rank) (by decide +kernel)) (compG_name (i := 12) (by decide)) (tgc_name (i := 12) (by decide)) (fun _ _ _ _ _ => (pg_name (i := 12) sc__law_rank.nd rfl (by first | exact Or.inl rfl | exact Or.inr rfl))) (fun _ _ _ _ _ => (ft_one (fc_eq hr.r.units (f_mod (f_callTy call_int1 p_int rfl B.int (by decide +kernel) (fa_cons (f_mul (f_var 12) (f_item (f_var 10) (f_var 7))) fa_nil)) (f_var 2)) f_int))) (fun _ _ _ _ _ => (f_var 12))) f_int))
    (fs_cons (fs_asg (i := 10) sc__law_rank.nd rfl (by first | exact Or.inl rfl | exact Or.inr rfl) (f_lc rfl sc__law_rank.nd (fi_seq (f_var 10)) (blkOk_by (own := [("_law_value", 6)]) (N := N__law_rank) (sc := defScope st__law_rank) (by decide +kernel)) (compG_name (i := 6) (by decide)) (tgc_name (i := 6) (by decide)) (fun _ _ _ _ _ => (pg_name (i := 6) sc__law_rank.nd rfl (by first | exact Or.inl rfl | exact Or.inr rfl))) (fun _ _ _ _ _ => ft_nil) (fun _ _ _ _ _ => (f_mod (f_callTy call_int1 p_int rfl B.int (by decide +kernel) (fa_cons (f_mul (f_var 6) (f_var 11)) fa_nil)) (f_var 2)))))
    (fs_cons (fs_frz (i := 3) (fs_setLcO (i := 3) rfl sc__law_rank.nd rfl rfl (sw_true rfl rfl rfl (by decide +kernel)) (fi_seq (f_var 3)) (blkOk_by (own := [("_law_row", 5)]) (N := N__law_rank) (sc := defScope st__law_rank) (by decide +kernel)) (compG_name (i := 5) (by decide)) (tgc_name (i := 5) (by decide)) (fun _ _ _ _ _ => (pg_name (i := 5) sc__law_rank.nd rfl (by first | exact Or.inl rfl | exact Or.inr rfl))) (fun _ _ _ _ _ => ft_nil) (fun _ _ _ _ _ => (f_frz (f_call C__law_less (hr.mono (by decide)) rfl bd__law_less (fa_cons (f_var 5) (fa_cons (f_var 10) (fa_cons (f_var 7) (fa_cons (f_var 2) fa_nil)))) (alen_cons (alen_cons (alen_cons (alen_cons alen_nil)))))))))
    (fs_one (fs_asg (i := 4) sc__law_rank.nd rfl (by first | exact Or.inl rfl | exact Or.inr rfl) (f_add (f_var 4) f_int))))))) fs_nil)))))
    (fs_one (fs_ret (f_var 4)))))
theorem sc__law_count : FnScope N__law_count ps__law_count (defScope st__law_count) := ⟨rfl, rfl, rfl, by decide +kernel, rfl, by decide +kernel, by decide +kernel⟩
theorem der__law_count {P : Program} {w : World} {K : PySem.W.Frag} {mg : Str → Option Value} {base : Heap} (B : Bl mg) (C__law_primes : Cal P w K mg base 1 "_law_primes" st__law_primes ps__law_primes (spF F__law_primes 1)) (C__law_rank : Cal P w K mg base 2 "_law_rank" st__law_rank ps__law_rank (spF F__law_rank 3)) {f : Addr} {cdv : Value} {A : Around} {outer : List Env} {s : Shared} {H : Hp} (hr : RoomG 2 (A.deeper (envOfC "_law_count" (defScope st__law_count) s.heap.objs.size f cdv))) :
    FSts (cxD P w K mg base N__law_count "_law_count" (defScope st__law_count) f cdv A outer s H) (defBody st__law_count) fb__law_count :=
    (fs_cons (fs_par (i := 3) (j := 4) rfl sc__law_count.nd rfl rfl (by decide) rfl rfl (fa_cons (f_add (f_mul f_int (f_var 1)) f_int) (fa_cons f_int fa_nil)) (by rfl))
    (fs_cons (fs_setLc (i := 5) rfl sc__law_count.nd rfl rfl (sw_true rfl rfl rfl (by decide +kernel)) (fi_seq (f_var 2)) (blkOk_by (own := [("_law_cells_here", 6), ("_law_value", 7)]) (N := N__law_count) (sc := defScope st__law_count) (by decide +kernel)) (compG_tup (is := [6, 7]) (by decide)) (tgc_tup (is := [6, 7]) (by decide)) (fun _ _ _ _ _ => (pg_tup (n := 2) rfl (pgs_name2 (pg_name (i := 6) sc__law_count.nd rfl (by first | exact Or.inl rfl | exact Or.inr rfl)) (pgs_name2 (pg_name (i := 7) sc__law_count.nd rfl (by first | exact Or.inl rfl | exact Or.inr rfl)) pgs_nil)))) (fun _ _ _ _ _ => ft_nil) (fun _ _ _ _ _ => (f_add (f_callTy call_list_of p_list rfl B.list (by decide +kernel) (fa_cons (f_var 6) fa_nil)) (f_lst (fa_cons (f_var 7) fa_nil)))))
    (fs_cons (fs_for PassesOwn.never rfl (fi_seq (f_frz (f_call C__law_primes (hr.mono (by decide)) rfl bd__law_primes (fa_cons (f_var 0) fa_nil) (alen_cons alen_nil)))) (g_name (i := 8) sc__law_count.nd rfl (by first | exact Or.inl rfl | exact Or.inr rfl)) (tgd_name (i := 8)) (show FSts _ _ lb__law_count_1 from (fs_cons (fs_asg (i := 9) sc__law_count.nd rfl (by first | exact Or.inl rfl | exact Or.inr rfl) (f_call C__law_rank (hr.mono (by decide)) rfl bd__law_rank (fa_cons (f_var 5) (fa_cons (f_var 3) (fa_cons (f_var 8) fa_nil))) (alen_cons (alen_cons (alen_cons alen_nil)))))
    (fs_cons (fs_if (fc_ne hr.r.units (f_var 9) (f_call C__law_rank (hr.mono (by decide)) rfl bd__law_rank (fa_cons (f_var 5) (fa_cons (f_add (f_var 3) f_int) (fa_cons (f_var 8) fa_nil))) (alen_cons (alen_cons (alen_cons alen_nil))))) (fs_one (fs_ret f_int)) fs_nil)
    (fs_one (fs_for PassesOwn.never rfl (fi_range1 rfl B.range (fa_cons (f_sub (f_var 3) (f_var 9)) fa_nil)) (g_name (i := 10) sc__law_count.nd rfl (by first | exact Or.inl rfl | exact Or.inr rfl)) (tgd_name (i := 10)) (show FSts _ _ lb__law_count_2 from (fs_one (fs_asg (i := 4) sc__law_count.nd rfl (by first | exact Or.inl rfl | exact Or.inr rfl) (f_mul (f_var 4) (f_var 8)))))))))))
    (fs_one (fs_ret (f_var 4))))))
theorem sc__law_sums : FnScope N__law_sums ps__law_sums (defScope st__law_sums) := ⟨rfl, rfl, rfl, by decide +kernel, rfl, by decide +kernel, by decide +kernel⟩
theorem der__law_sums {P : Program} {w : World} {K : PySem.W.Frag} {mg : Str → Option Value} {base : Heap} (B : Bl mg) {f : Addr} {cdv : Value} {A : Around} {outer : List Env} {s : Shared} {H : Hp} (hr : RoomG 0 (A.deeper (envOfC "_law_sums" (defScope st__law_sums) s.heap.objs.size f cdv))) :
    FSts (cxD P w K mg base N__law_sums "_law_sums" (defScope st__law_sums) f cdv A outer s H) (defBody st__law_sums) fb__law_sums :=
    (fs_cons (fs_asg (i := 4) sc__law_sums.nd rfl (by first | exact Or.inl rfl | exact Or.inr rfl) (f_frz (f_rep (f_lstO (fa_cons f_int fa_nil)) (f_add (f_var 3) f_int))))
    (fs_cons (fs_for PassesOwn.never rfl (fi_zip rfl B.zip (fa_cons (f_var 1) (fa_cons (f_var 2) fa_nil))) (g_tup2 (l := [.inl 5, .inr [6, 7]]) rfl (pgs_n2 (pg_name (i := 5) sc__law_sums.nd rfl (by first | exact Or.inl rfl | exact Or.inr rfl)) (pgs_t2 (is := [6, 7]) (pg_tup (n := 2) rfl (pgs_name2 (pg_name (i := 6) sc__law_sums.nd rfl (by first | exact Or.inl rfl | exact Or.inr rfl)) (pgs_name2 (pg_name (i := 7) sc__law_sums.nd rfl (by first | exact Or.inl rfl | exact Or.inr rfl)) pgs_nil))) pgs_nil))) (tgd_tup2 (l := [.inl 5, .inr [6, 7]])) (show FSts _ _ lb__law_sums_1 from (fs_one (fs_setLc (i := 4) rfl sc__law_sums.nd rfl rfl (sw_true rfl rfl rfl (by decide +kernel)) (fi_zipLT rfl B.zip (fa_cons (f_var 4) (fa_cons (f_add (f_var 6) (f_tup (fa_cons (f_var 7) fa_nil))) fa_nil))) (blkOk_by (own := [("_law_total", 8), ("_law_part", 9)]) (N := N__law_sums) (sc := defScope st__law_sums) (by decide +kernel)) (compG_tup (is := [8, 9]) (by decide)) (tgc_tup (is := [8, 9]) (by decide)) (fun _ _ _ _ _ => (pg_tup (n := 2) rfl (pgs_name2 (pg_name (i := 8) sc__law_sums.nd rfl (by first | exact Or.inl rfl | exact Or.inr rfl)) (pgs_name2 (pg_name (i := 9) sc__law_sums.nd rfl (by first | exact Or.inl rfl | exact Or.inr rfl)) pgs_nil)))) (fun _ _ _ _ _ => ft_nil) (fun _ _ _ _ _ => (f_mod (f_callTy call_int1 p_int rfl B.int (by decide +kernel) (fa_cons (f_add (f_var 8) (f_mul (f_var 5) (f_var 9))) fa_nil)) (f_var 0)))))))
    (fs_one (fs_ret (f_var 4)))))
theorem sc__law_due : FnScope N__law_due ps__law_due (defScope st__law_due) := ⟨rfl, rfl, rfl, by decide +kernel, rfl, by decide +kernel, by decide +kernel⟩
theorem der__law_due {P : Program} {w : World} {K : PySem.W.Frag} {mg : Str → Option Value} {base : Heap} (B : Bl mg) (C__law_primes : Cal P w K mg base 1 "_law_primes" st__law_primes ps__law_primes (spF F__law_primes 1)) (C__law_sums : Cal P w K mg base 1 "_law_sums" st__law_sums ps__law_sums (spF F__law_sums 4)) {f : Addr} {cdv : Value} {A : Around} {outer : List Env} {s : Shared} {H : Hp} (hr : RoomG 1 (A.deeper (envOfC "_law_due" (defScope st__law_due) s.heap.objs.size f cdv))) :
    FSts (cxD P w K mg base N__law_due "_law_due" (defScope st__law_due) f cdv A outer s H) (defBody st__law_due) fb__law_due :=
    (fs_cons (fs_if (fc_w (fcw_or (fc_not (fc_tr (f_isi (by decide) rfl B.isinstance (by decide +kernel) rfl B.tuple (by decide +kernel) (f_var 0)))) (fcw_or1 (fc_ne hr.r.units (f_callB call_len_seq p_len rfl B.len (by decide +kernel) (fa_cons (f_var 0) fa_nil)) f_int)))) (fs_one (fs_ret f_bl)) fs_nil)
    (fs_cons (fs_if (fc_w (fcw_or (fc_not (fc_tr (f_isi (by decide) rfl B.isinstance (by decide +kernel) rfl B.int (by decide +kernel) (f_item (f_var 0) f_int)))) (fcw_or1 (fc_tr (f_isi (by decide) rfl B.isinstance (by decide +kernel) rfl B.bool (by decide +kernel) (f_item (f_var 0) f_int)))))) (fs_one (fs_ret f_bl)) fs_nil)
    (fs_cons (fs_if (fc_w (fcw_or (fc_nin (f_item (f_var 0) f_int) (f_frz (f_call C__law_primes (hr.mono (by decide)) rfl bd__law_primes (fa_cons (f_var 1) fa_nil) (alen_cons alen_nil)))) (fcw_or (fc_not (fc_tr (f_isi (by decide) rfl B.isinstance (by decide +kernel) rfl B.tuple (by decide +kernel) (f_item (f_var 0) f_int)))) (fcw_or1 (fc_ne hr.r.units (f_callB call_len_seq p_len rfl B.len (by decide +kernel) (fa_cons (f_item (f_var 0) f_int) fa_nil)) (f_callB call_len_seq p_len rfl B.len (by decide +kernel) (fa_cons (f_var 3) fa_nil))))))) (fs_one (fs_ret f_bl)) fs_nil)
    (fs_cons (fs_for PassesOwn.never rfl (fi_seq (f_item (f_var 0) f_int)) (g_name (i := 4) sc__law_due.nd rfl (by first | exact Or.inl rfl | exact Or.inr rfl)) (tgd_name (i := 4)) (show FSts _ _ lb__law_due_1 from (fs_one (fs_if (fc_w (fcw_or (fc_not (fc_tr (f_isi (by decide) rfl B.isinstance (by decide +kernel) rfl B.int (by decide +kernel) (f_var 4)))) (fcw_or (fc_tr (f_isi (by decide) rfl B.isinstance (by decide +kernel) rfl B.bool (by decide +kernel) (f_var 4))) (fcw_or (fc_lt (f_var 4) f_int) (fcw_or1 (fc_ge (f_var 4) (f_item (f_var 0) f_int))))))) (fs_one (fs_ret f_bl)) fs_nil))))
    (fs_cons (fs_asg (i := 5) sc__law_due.nd rfl (by first | exact Or.inl rfl | exact Or.inr rfl) (f_call C__law_sums (hr.mono (by decide)) rfl bd__law_sums (fa_cons (f_item (f_var 0) f_int) (fa_cons (f_item (f_var 0) f_int) (fa_cons (f_var 3) (fa_cons (f_add (f_mul f_int (f_var 2)) f_int) fa_nil)))) (alen_cons (alen_cons (alen_cons (alen_cons alen_nil))))))
    (fs_one (fs_ret (f_and (f_eq hr.r.units (f_slice (f_var 5) fp_no (fp_some (f_neg f_int))) (f_frz (f_rep (f_lstO (fa_cons f_int fa_nil)) (f_add (f_mul f_int (f_var 2)) f_int)))) (f_one (f_ne hr.r.units (f_item (f_var 5) (f_neg f_int)) f_int))))))))))
theorem sc__law_judged : FnScope N__law_judged ps__law_judged (defScope st__law_judged) := ⟨rfl, rfl, rfl, by decide +kernel, rfl, by decide +kernel, by decide +kernel⟩
theorem der__law_judged {P : Program} {w : World} {K : PySem.W.Frag} {mg : Str → Option Value} {base : Heap} (B : Bl mg) (C__law_due : Cal P w K mg base 2 "_law_due" st__law_due ps__law_due (spF F__law_due 4)) (C_refuses : Cal P w K mg base 6 "refuses" st_refuses ps_refuses (spF F_refuses 4)) {f : Addr} {cdv : Value} {A : Around} {outer : List Env} {s : Shared} {H : Hp} (hr : RoomG 6 (A.deeper (envOfC "_law_judged" (defScope st__law_judged) s.heap.objs.size f cdv))) :
    FSts (cxD P w K mg base N__law_judged "_law_judged" (defScope st__law_judged) f cdv A outer s H) (defBody st__law_judged) fb__law_judged :=
    (fs_cons (fs_par (i := 4) (j := 5) rfl sc__law_judged.nd rfl rfl (by decide) rfl rfl (fa_cons (f_call C__law_due (hr.mono (by decide)) rfl bd__law_due (fa_cons (f_var 0) (fa_cons (f_var 1) (fa_cons (f_var 2) (fa_cons (f_var 3) fa_nil)))) (alen_cons (alen_cons (alen_cons (alen_cons alen_nil))))) (fa_cons (f_callB (call_repr hr.g hr.r.units) p_repr rfl B.repr (by decide +kernel) (fa_cons (f_var 0) fa_nil)) fa_nil)) (by rfl))
    (fs_cons (fs_asg (i := 6) sc__law_judged.nd rfl (by first | exact Or.inl rfl | exact Or.inr rfl) (f_call C_refuses (hr.mono (by decide)) rfl bd_refuses (fa_cons (f_var 1) (fa_cons (f_var 2) (fa_cons (f_var 3) (fa_cons (f_var 0) fa_nil)))) (alen_cons (alen_cons (alen_cons (alen_cons alen_nil))))))
    (fs_one (fs_ret (f_and (f_isi (by decide) rfl B.isinstance (by decide +kernel) rfl B.bool (by decide +kernel) (f_var 6)) (f_and (f_eq hr.r.units (f_var 6) (f_var 4)) (f_one (f_eq hr.r.units (f_callB (call_repr hr.g hr.r.units) p_repr rfl B.repr (by decide +kernel) (fa_cons (f_var 0) fa_nil)) (f_var 5)))))))))
theorem sc__law_paper : FnScope N__law_paper ps__law_paper (defScope st__law_paper) := ⟨rfl, rfl, rfl, by decide +kernel, rfl, by decide +kernel, by decide +kernel⟩
theorem der__law_paper {P : Program} {w : World} {K : PySem.W.Frag} {mg : Str → Option Value} {base : Heap} (B : Bl mg) (C__law_draw : Cal P w K mg base 1 "_law_draw" st__law_draw ps__law_draw (spF F__law_draw 2)) {f : Addr} {cdv : Value} {A : Around} {outer : List Env} {s : Shared} {H : Hp} (hr : RoomG 1 (A.deeper (envOfC "_law_paper" (defScope st__law_paper) s.heap.objs.size f cdv))) :
    FSts (cxD P w K mg base N__law_paper "_law_paper" (defScope st__law_paper) f cdv A outer s H) (defBody st__law_paper) fb__law_paper :=
    (fs_one (fs_ret (f_tup (fa_cons (f_var 1) (fa_cons (f_callTy call_tuple_of2 p_tuple rfl B.tuple (by decide +kernel) (fa_cons (f_lc rfl sc__law_paper.nd (fi_range1 rfl B.range (fa_cons (f_var 2) fa_nil)) (blkOk_by (own := [("_law_place", 3)]) (N := N__law_paper) (sc := defScope st__law_paper) (by decide +kernel)) (compG_name (i := 3) (by decide)) (tgc_name (i := 3) (by decide)) (fun _ _ _ _ _ => (pg_name (i := 3) sc__law_paper.nd rfl (by first | exact Or.inl rfl | exact Or.inr rfl))) (fun _ _ _ _ _ => ft_nil) (fun _ _ _ _ _ => (f_call C__law_draw (hr.mono (by decide)) rfl bd__law_draw (fa_cons (f_var 0) (fa_cons (f_var 1) fa_nil)) (alen_cons (alen_cons alen_nil))))) fa_nil)) fa_nil)))))
theorem sc__law_odd : FnScope N__law_odd ps__law_odd (defScope st__law_odd) := ⟨rfl, rfl, rfl, by decide +kernel, rfl, by decide +kernel, by decide +kernel⟩
theorem der__law_odd {P : Program} {w : World} {K : PySem.W.Frag} {mg : Str → Option Value} {base : Heap} (B : Bl mg) (C__law_draw : Cal P w K mg base 1 "_law_draw" st__law_draw ps__law_draw (spF F__law_draw 2)) {f : Addr} {cdv : Value} {A : Around} {outer : List Env} {s : Shared} {H : Hp} (hr : RoomG 1 (A.deeper (envOfC "_law_odd" (defScope st__law_odd) s.heap.objs.size f cdv))) :
    FSts (cxD P w K mg base N__law_odd "_law_odd" (defScope st__law_odd) f cdv A outer s H) (defBody st__law_odd) fb__law_odd :=
    (fs_cons (fs_asgT (f_var 1) (g_tup (is := [2, 3]) rfl (pgs_name2 (pg_name (i := 2) sc__law_odd.nd rfl (by first | exact Or.inl rfl | exact Or.inr rfl)) (pgs_name2 (pg_name (i := 3) sc__law_odd.nd rfl (by first | exact Or.inl rfl | exact Or.inr rfl)) pgs_nil))))
    (fs_cons (fs_asg (i := 4) sc__law_odd.nd rfl (by first | exact Or.inl rfl | exact Or.inr rfl) (f_lst (fa_cons f_non (fa_cons (f_lst fa_nil) (fa_cons (f_tup fa_nil) (fa_cons f_int (fa_cons f_bl (fa_cons f_str (fa_cons f_dict0 (fa_cons (f_lst (fa_cons (f_var 2) (fa_cons (f_var 3) fa_nil))) (fa_cons (f_tup (fa_cons (f_var 2) (fa_cons (f_callTy call_list_of p_list rfl B.list (by decide +kernel) (fa_cons (f_var 3) fa_nil)) fa_nil))) (fa_cons (f_tup (fa_cons (f_var 3) (fa_cons (f_var 2) fa_nil))) fa_nil))))))))))))
    (fs_cons (fs_asg (i := 4) sc__law_odd.nd rfl (by first | exact Or.inl rfl | exact Or.inr rfl) (f_add (f_var 4) (f_lst (fa_cons (f_tup (fa_cons (f_var 2) fa_nil)) (fa_cons (f_tup (fa_cons (f_var 2) (fa_cons (f_var 3) (fa_cons f_int fa_nil)))) (fa_cons (f_tup (fa_cons (f_var 2) (fa_cons (f_slice (f_var 3) fp_no (fp_some (f_neg f_int))) fa_nil))) (fa_cons (f_tup (fa_cons (f_var 2) (fa_cons (f_add (f_var 3) (f_tup (fa_cons f_int fa_nil))) fa_nil))) (fa_cons (f_var 3) fa_nil))))))))
    (fs_cons (fs_asg (i := 4) sc__law_odd.nd rfl (by first | exact Or.inl rfl | exact Or.inr rfl) (f_add (f_var 4) (f_lst (fa_cons (f_tup (fa_cons (f_var 2) (fa_cons (f_tup fa_nil) fa_nil))) (fa_cons (f_tup (fa_cons (f_var 2) (fa_cons (f_mulT (f_tup (fa_cons f_int fa_nil)) (f_callB call_len_seq p_len rfl B.len (by decide +kernel) (fa_cons (f_var 3) fa_nil))) fa_nil))) (fa_cons (f_tup (fa_cons f_int (fa_cons (f_var 3) fa_nil))) (fa_cons (f_tup (fa_cons f_int (fa_cons (f_var 3) fa_nil))) (fa_cons (f_tup (fa_cons (f_neg (f_var 2)) (fa_cons (f_var 3) fa_nil))) fa_nil))))))))
    (fs_cons (fs_asg (i := 4) sc__law_odd.nd rfl (by first | exact Or.inl rfl | exact Or.inr rfl) (f_add (f_var 4) (f_lst (fa_cons (f_tup (fa_cons (f_callTy call_str_int p_str rfl B.str (by decide +kernel) (fa_cons (f_var 2) fa_nil)) (fa_cons (f_var 3) fa_nil))) (fa_cons (f_tup (fa_cons (f_lst (fa_cons (f_var 2) fa_nil)) (fa_cons (f_var 3) fa_nil))) (fa_cons (f_tup (fa_cons (f_mul (f_var 2) (f_var 2)) (fa_cons (f_var 3) fa_nil))) (fa_cons (f_tup (fa_cons f_bl (fa_cons (f_var 3) fa_nil))) fa_nil)))))))
    (fs_cons (fs_asg (i := 4) sc__law_odd.nd rfl (by first | exact Or.inl rfl | exact Or.inr rfl) (f_add (f_var 4) (f_lst (fa_cons (f_tup (fa_cons (f_var 2) (fa_cons f_non fa_nil))) fa_nil))))
    (fs_cons (fs_if (fc_w (fcw_or (fc_eq hr.r.units (f_callB call_len_seq p_len rfl B.len (by decide +kernel) (fa_cons (f_var 3) fa_nil)) f_int) (fcw_or1 (fc_eq hr.r.units (f_call C__law_draw (hr.mono (by decide)) rfl bd__law_draw (fa_cons (f_var 0) (fa_cons f_int fa_nil)) (alen_cons (alen_cons alen_nil))) f_int)))) (fs_one (fs_ret (f_item (f_var 4) (f_call C__law_draw (hr.mono (by decide)) rfl bd__law_draw (fa_cons (f_var 0) (fa_cons (f_callB call_len_seq p_len rfl B.len (by decide +kernel) (fa_cons (f_var 4) fa_nil)) fa_nil)) (alen_cons (alen_cons alen_nil)))))) fs_nil)
    (fs_cons (fs_asg (i := 5) sc__law_odd.nd rfl (by first | exact Or.inl rfl | exact Or.inr rfl) (f_call C__law_draw (hr.mono (by decide)) rfl bd__law_draw (fa_cons (f_var 0) (fa_cons (f_callB call_len_seq p_len rfl B.len (by decide +kernel) (fa_cons (f_var 3) fa_nil)) fa_nil)) (alen_cons (alen_cons alen_nil))))
    (fs_cons (fs_asg (i := 6) sc__law_odd.nd rfl (by first | exact Or.inl rfl | exact Or.inr rfl) (f_item (f_var 3) (f_var 5)))
    (fs_cons (fs_asg (i := 7) sc__law_odd.nd rfl (by first | exact Or.inl rfl | exact Or.inr rfl) (f_lst (fa_cons (f_add (f_var 6) (f_var 2)) (fa_cons (f_sub (f_var 6) (f_var 2)) (fa_cons (f_mod (f_callTy call_int1 p_int rfl B.int (by decide +kernel) (fa_cons (f_add (f_var 6) f_int) fa_nil)) (f_var 2)) (fa_cons f_non (fa_cons (f_tup (fa_cons (f_var 6) fa_nil)) (fa_cons (f_lst (fa_cons (f_var 6) fa_nil)) (fa_cons (f_callTy call_str_int p_str rfl B.str (by decide +kernel) (fa_cons (f_var 6) fa_nil)) (fa_cons f_bl (fa_cons f_bl fa_nil)))))))))))
    (fs_one (fs_ret (f_tup (fa_cons (f_var 2) (fa_cons (f_add (f_add (f_slice (f_var 3) fp_no (fp_some (f_var 5))) (f_tup (fa_cons (f_item (f_var 7) (f_call C__law_draw (hr.mono (by decide)) rfl bd__law_draw (fa_cons (f_var 0) (fa_cons (f_callB call_len_seq p_len rfl B.len (by decide +kernel) (fa_cons (f_var 7) fa_nil)) fa_nil)) (alen_cons (alen_cons alen_nil)))) fa_nil))) (f_slice (f_var 3) (fp_some (f_add (f_var 5) f_int)) fp_no)) fa_nil)))))))))))))))
theorem sc__law_papers_right : FnScope N__law_papers_right ps__law_papers_right (defScope st__law_papers_right) := ⟨rfl, rfl, rfl, by decide +kernel, rfl, by decide +kernel, by decide +kernel⟩
theorem der__law_papers_right {P : Program} {w : World} {K : PySem.W.Frag} {mg : Str → Option Value} {base : Heap} (B : Bl mg) (C__law_draw : Cal P w K mg base 1 "_law_draw" st__law_draw ps__law_draw (spF F__law_draw 2)) (C__law_paper : Cal P w K mg base 2 "_law_paper" st__law_paper ps__law_paper (spF F__law_paper 3)) (C__law_primes : Cal P w K mg base 1 "_law_primes" st__law_primes ps__law_primes (spF F__law_primes 1)) (C__law_odd : Cal P w K mg base 2 "_law_odd" st__law_odd ps__law_odd (spF F__law_odd 2)) (C__law_judged : Cal P w K mg base 7 "_law_judged" st__law_judged ps__law_judged (spF F__law_judged 4)) (C__law_due : Cal P w K mg base 2 "_law_due" st__law_due ps__law_due (spF F__law_due 4)) {f : Addr} {cdv : Value} {A : Around} {outer : List Env} {s : Shared} {H : Hp} (hr : RoomG 7 (A.deeper (envOfC "_law_papers_right" (defScope st__law_papers_right) s.heap.objs.size f cdv))) :
    FSts (cxD P w K mg base N__law_papers_right "_law_papers_right" (defScope st__law_papers_right) f cdv A outer s H) (defBody st__law_papers_right) fb__law_papers_right :=
    (fs_cons (fs_asgT (f_var 1) (g_tup (is := [5, 6]) rfl (pgs_name2 (pg_name (i := 5) sc__law_papers_right.nd rfl (by first | exact Or.inl rfl | exact Or.inr rfl)) (pgs_name2 (pg_name (i := 6) sc__law_papers_right.nd rfl (by first | exact Or.inl rfl | exact Or.inr rfl)) pgs_nil))))
    (fs_cons (fs_asgT (f_tup (fa_cons (f_add f_int (f_call C__law_draw (hr.mono (by decide)) rfl bd__law_draw (fa_cons (f_var 0) (fa_cons (f_sub (f_var 5) f_int) fa_nil)) (alen_cons (alen_cons alen_nil)))) (fa_cons (f_call C__law_paper (hr.mono (by decide)) rfl bd__law_paper (fa_cons (f_var 0) (fa_cons (f_var 5) (fa_cons (f_callB call_len_seq p_len rfl B.len (by decide +kernel) (fa_cons (f_var 4) fa_nil)) fa_nil))) (alen_cons (alen_cons (alen_cons alen_nil)))) fa_nil))) (g_tup (is := [7, 8]) rfl (pgs_name2 (pg_name (i := 7) sc__law_papers_right.nd rfl (by first | exact Or.inl rfl | exact Or.inr rfl)) (pgs_name2 (pg_name (i := 8) sc__law_papers_right.nd rfl (by first | exact Or.inl rfl | exact Or.inr rfl)) pgs_nil))))
    (fs_cons (fs_asg (i := 9) sc__law_papers_right.nd rfl (by first | exact Or.inl rfl | exact Or.inr rfl) (f_tup (fa_cons (f_var 5) (fa_cons (f_callTy call_tuple_of2 p_tuple rfl B.tuple (by decide +kernel) (fa_cons (f_lc rfl sc__law_papers_right.nd (fi_seq (f_var 6)) (blkOk_by (own := [("_law_part", 10)]) (N := N__law_papers_right) (sc := defScope st__law_papers_right) (by decide +kernel)) (compG_name (i := 10) (by decide)) (tgc_name (i := 10) (by decide)) (fun _ _ _ _ _ => (pg_name (i := 10) sc__law_papers_right.nd rfl (by first | exact Or.inl rfl | exact Or.inr rfl))) (fun _ _ _ _ _ => ft_nil) (fun _ _ _ _ _ => (f_mod (f_callTy call_int1 p_int rfl B.int (by decide +kernel) (fa_cons (f_mul (f_var 10) (f_var 7)) fa_nil)) (f_var 5)))) fa_nil)) fa_nil))))
    (fs_cons (fs_asg (i := 11) sc__law_papers_right.nd rfl (by first | exact Or.inl rfl | exact Or.inr rfl) (f_tup (fa_cons (f_var 5) (fa_cons (f_callTy call_tuple_of2 p_tuple rfl B.tuple (by decide +kernel) (fa_cons (f_lc rfl sc__law_papers_right.nd (fi_zip rfl B.zip (fa_cons (f_var 6) (fa_cons (f_item (f_var 8) f_int) fa_nil))) (blkOk_by (own := [("_law_part", 10), ("_law_more", 12)]) (N := N__law_papers_right) (sc := defScope st__law_papers_right) (by decide +kernel)) (compG_tup (is := [10, 12]) (by decide)) (tgc_tup (is := [10, 12]) (by decide)) (fun _ _ _ _ _ => (pg_tup (n := 2) rfl (pgs_name2 (pg_name (i := 10) sc__law_papers_right.nd rfl (by first | exact Or.inl rfl | exact Or.inr rfl)) (pgs_name2 (pg_name (i := 12) sc__law_papers_right.nd rfl (by first | exact Or.inl rfl | exact Or.inr rfl)) pgs_nil)))) (fun _ _ _ _ _ => ft_nil) (fun _ _ _ _ _ => (f_mod (f_callTy call_int1 p_int rfl B.int (by decide +kernel) (fa_cons (f_add (f_var 10) (f_var 12)) fa_nil)) (f_var 5)))) fa_nil)) fa_nil))))
    (fs_cons (fs_asg (i := 13) sc__law_papers_right.nd rfl (by first | exact Or.inl rfl | exact Or.inr rfl) (f_tup (fa_cons (f_item (f_frz (f_call C__law_primes (hr.mono (by decide)) rfl bd__law_primes (fa_cons (f_var 2) fa_nil) (alen_cons alen_nil))) (f_call C__law_draw (hr.mono (by decide)) rfl bd__law_draw (fa_cons (f_var 0) (fa_cons (f_callB call_len_seq p_len rfl B.len (by decide +kernel) (fa_cons (f_frz (f_call C__law_primes (hr.mono (by decide)) rfl bd__law_primes (fa_cons (f_var 2) fa_nil) (alen_cons alen_nil))) fa_nil)) fa_nil)) (alen_cons (alen_cons alen_nil)))) (fa_cons (f_var 6) fa_nil))))
    (fs_cons (fs_asg (i := 14) sc__law_papers_right.nd rfl (by first | exact Or.inl rfl | exact Or.inr rfl) (f_lst (fa_cons (f_call C__law_odd (hr.mono (by decide)) rfl bd__law_odd (fa_cons (f_var 0) (fa_cons (f_var 1) fa_nil)) (alen_cons (alen_cons alen_nil))) (fa_cons (f_call C__law_odd (hr.mono (by decide)) rfl bd__law_odd (fa_cons (f_var 0) (fa_cons (f_var 1) fa_nil)) (alen_cons (alen_cons alen_nil))) (fa_cons (f_call C__law_odd (hr.mono (by decide)) rfl bd__law_odd (fa_cons (f_var 0) (fa_cons (f_var 9) fa_nil)) (alen_cons (alen_cons alen_nil))) fa_nil)))))
    (fs_cons (fs_for PassesOwn.never rfl (fi_seq (f_add (f_lst (fa_cons (f_var 1) (fa_cons (f_var 9) (fa_cons (f_var 11) (fa_cons (f_var 8) (fa_cons (f_var 13) fa_nil)))))) (f_var 14))) (g_name (i := 15) sc__law_papers_right.nd rfl (by first | exact Or.inl rfl | exact Or.inr rfl)) (tgd_name (i := 15)) (show FSts _ _ lb__law_papers_right_1 from (fs_one (fs_if (fc_not (fc_tr (f_call C__law_judged (hr.mono (by decide)) rfl bd__law_judged (fa_cons (f_var 15) (fa_cons (f_var 2) (fa_cons (f_var 3) (fa_cons (f_var 4) fa_nil)))) (alen_cons (alen_cons (alen_cons (alen_cons alen_nil))))))) (fs_one (fs_ret f_bl)) fs_nil))))
    (fs_one (fs_ret (f_call C__law_due (hr.mono (by decide)) rfl bd__law_due (fa_cons (f_var 9) (fa_cons (f_var 2) (fa_cons (f_var 3) (fa_cons (f_var 4) fa_nil)))) (alen_cons (alen_cons (alen_cons (alen_cons alen_nil))))))))))))))
theorem sc__law_torn : FnScope N__law_torn ps__law_torn (defScope st__law_torn) := ⟨rfl, rfl, rfl, by decide +kernel, rfl, by decide +kernel, by decide +kernel⟩
theorem der__law_torn {P : Program} {w : World} {K : PySem.W.Frag} {mg : Str → Option Value} {base : Heap} (B : Bl mg) (C__law_primes : Cal P w K mg base 1 "_law_primes" st__law_primes ps__law_primes (spF F__law_primes 1)) (C__law_draw : Cal P w K mg base 1 "_law_draw" st__law_draw ps__law_draw (spF F__law_draw 2)) {f : Addr} {cdv : Value} {A : Around} {outer : List Env} {s : Shared} {H : Hp} (hr : RoomG 1 (A.deeper (envOfC "_law_torn" (defScope st__law_torn) s.heap.objs.size f cdv))) :
    FSts (cxD P w K mg base N__law_torn "_law_torn" (defScope st__law_torn) f cdv A outer s H) (defBody st__law_torn) fb__law_torn :=
    (fs_cons (fs_asg (i := 4) sc__law_torn.nd rfl (by first | exact Or.inl rfl | exact Or.inr rfl) (f_frz (f_call C__law_primes (hr.mono (by decide)) rfl bd__law_primes (fa_cons (f_var 1) fa_nil) (alen_cons alen_nil))))
    (fs_cons (fs_asg (i := 5) sc__law_torn.nd rfl (by first | exact Or.inl rfl | exact Or.inr rfl) (f_item (f_var 4) (f_call C__law_draw (hr.mono (by decide)) rfl bd__law_draw (fa_cons (f_var 0) (fa_cons (f_callB call_len_seq p_len rfl B.len (by decide +kernel) (fa_cons (f_var 4) fa_nil)) fa_nil)) (alen_cons (alen_cons alen_nil)))))
    (fs_cons (fs_par (i := 6) (j := 7) rfl sc__law_torn.nd rfl rfl (by decide) rfl rfl (fa_cons (f_item (f_var 2) (f_call C__law_draw (hr.mono (by decide)) rfl bd__law_draw (fa_cons (f_var 0) (fa_cons (f_callB call_len_seq p_len rfl B.len (by decide +kernel) (fa_cons (f_var 2) fa_nil)) fa_nil)) (alen_cons (alen_cons alen_nil)))) (fa_cons (f_item (f_var 2) (f_call C__law_draw (hr.mono (by decide)) rfl bd__law_draw (fa_cons (f_var 0) (fa_cons (f_callB call_len_seq p_len rfl B.len (by decide +kernel) (fa_cons (f_var 2) fa_nil)) fa_nil)) (alen_cons (alen_cons alen_nil)))) fa_nil)) (by rfl))
    (fs_cons (fs_asg (i := 8) sc__law_torn.nd rfl (by first | exact Or.inl rfl | exact Or.inr rfl) (f_callTy call_tuple_of2 p_tuple rfl B.tuple (by decide +kernel) (fa_cons (f_lc rfl sc__law_torn.nd (fi_zip rfl B.zip (fa_cons (f_item (f_var 6) f_int) (fa_cons (f_item (f_var 7) f_int) fa_nil))) (blkOk_by (own := [("_law_value", 9), ("_law_further", 10)]) (N := N__law_torn) (sc := defScope st__law_torn) (by decide +kernel)) (compG_tup (is := [9, 10]) (by decide)) (tgc_tup (is := [9, 10]) (by decide)) (fun _ _ _ _ _ => (pg_tup (n := 2) rfl (pgs_name2 (pg_name (i := 9) sc__law_torn.nd rfl (by first | exact Or.inl rfl | exact Or.inr rfl)) (pgs_name2 (pg_name (i := 10) sc__law_torn.nd rfl (by first | exact Or.inl rfl | exact Or.inr rfl)) pgs_nil)))) (fun _ _ _ _ _ => ft_nil) (fun _ _ _ _ _ => (f_mod (f_callTy call_int1 p_int rfl B.int (by decide +kernel) (fa_cons (f_add (f_var 9) (f_var 10)) fa_nil)) (f_var 1)))) fa_nil)))
    (fs_cons (fs_asg (i := 11) sc__law_torn.nd rfl (by first | exact Or.inl rfl | exact Or.inr rfl) (f_mul (f_fdiv (f_var 1) (f_var 5)) (f_add f_int (f_call C__law_draw (hr.mono (by decide)) rfl bd__law_draw (fa_cons (f_var 0) (fa_cons (f_sub (f_var 5) f_int) fa_nil)) (alen_cons (alen_cons alen_nil))))))
    (fs_one (fs_ret (f_add (f_var 2) (f_tup (fa_cons (f_tup (fa_cons (f_var 8) (fa_cons (f_mod (f_callTy call_int1 p_int rfl B.int (by decide +kernel) (fa_cons (f_add (f_add (f_item (f_var 6) f_int) (f_item (f_var 7) f_int)) (f_var 11)) fa_nil)) (f_var 1)) fa_nil))) fa_nil))))))))))
theorem sc__law_right : FnScope N__law_right ps__law_right (defScope st__law_right) := ⟨rfl, rfl, rfl, by decide +kernel, rfl, by decide +kernel, by decide +kernel⟩
theorem der__law_right {P : Program} {w : World} {K : PySem.W.Frag} {mg : Str → Option Value} {base : Heap} (B : Bl mg) (C__law_draw : Cal P w K mg base 1 "_law_draw" st__law_draw ps__law_draw (spF F__law_draw 2)) (C__law_looks : Cal P w K mg base 3 "_law_looks" st__law_looks ps__law_looks (spF F__law_looks 4)) (C__law_torn : Cal P w K mg base 2 "_law_torn" st__law_torn ps__law_torn (spF F__law_torn 4)) (C_refusal : Cal P w K mg base 6 "refusal" st_refusal ps_refusal (spF F_refusal 3)) (C__law_count : Cal P w K mg base 3 "_law_count" st__law_count ps__law_count (spF F__law_count 3)) (C__law_primes : Cal P w K mg base 1 "_law_primes" st__law_primes ps__law_primes (spF F__law_primes 1)) (C__law_paper : Cal P w K mg base 2 "_law_paper" st__law_paper ps__law_paper (spF F__law_paper 3)) (C__law_odd : Cal P w K mg base 2 "_law_odd" st__law_odd ps__law_odd (spF F__law_odd 2)) (C_refuses : Cal P w K mg base 6 "refuses" st_refuses ps_refuses (spF F_refuses 4)) (C__law_due : Cal P w K mg base 2 "_law_due" st__law_due ps__law_due (spF F__law_due 4)) (C__law_papers_right : Cal P w K mg base 8 "_law_papers_right" st__law_papers_right ps__law_papers_right (spF F__law_papers_right 5)) {f : Addr} {cdv : Value} {A : Around} {outer : List Env} {s : Shared} {H : Hp} (hr : RoomG 8 (A.deeper (envOfC "_law_right" (defScope st__law_right) s.heap.objs.size f cdv))) :
    FSts (cxD P w K mg base N__law_right "_law_right" (defScope st__law_right) f cdv A outer s H) (defBody st__law_right) fb__law_right :=
    (fs_cons (fs_par (i := 1) (j := 2) rfl sc__law_right.nd rfl rfl (by decide) rfl rfl (fa_cons (f_item (f_lst (fa_cons f_int (fa_cons f_int (fa_cons f_int (fa_cons f_int (fa_cons f_int (fa_cons f_int (fa_cons f_int (fa_cons f_int (fa_cons f_int (fa_cons f_int fa_nil))))))))))) (f_call C__law_draw (hr.mono (by decide)) rfl bd__law_draw (fa_cons (f_var 0) (fa_cons f_int fa_nil)) (alen_cons (alen_cons alen_nil)))) (fa_cons (f_call C__law_draw (hr.mono (by decide)) rfl bd__law_draw (fa_cons (f_var 0) (fa_cons f_int fa_nil)) (alen_cons (alen_cons alen_nil))) fa_nil)) (by rfl))
    (fs_cons (fs_asg (i := 3) sc__law_right.nd rfl (by first | exact Or.inl rfl | exact Or.inr rfl) (f_call C__law_looks (hr.mono (by decide)) rfl bd__law_looks (fa_cons (f_var 0) (fa_cons (f_var 1) (fa_cons (f_var 2) (fa_cons f_int fa_nil)))) (alen_cons (alen_cons (alen_cons (alen_cons alen_nil))))))
    (fs_cons (fs_if (fc_w (fcw_and (fc_ne hr.r.units (f_var 3) (f_tup fa_nil)) (fcw_and1 (fc_eq hr.r.units (f_call C__law_draw (hr.mono (by decide)) rfl bd__law_draw (fa_cons (f_var 0) (fa_cons f_int fa_nil)) (alen_cons (alen_cons alen_nil))) f_int)))) (fs_one (fs_asg (i := 3) sc__law_right.nd rfl (by first | exact Or.inl rfl | exact Or.inr rfl) (f_call C__law_torn (hr.mono (by decide)) rfl bd__law_torn (fa_cons (f_var 0) (fa_cons (f_var 1) (fa_cons (f_var 3) (fa_cons (f_var 2) fa_nil)))) (alen_cons (alen_cons (alen_cons (alen_cons alen_nil))))))) fs_nil)
    (fs_cons (fs_asg (i := 4) sc__law_right.nd rfl (by first | exact Or.inl rfl | exact Or.inr rfl) (f_call C_refusal (hr.mono (by decide)) rfl bd_refusal (fa_cons (f_var 1) (fa_cons (f_var 2) (fa_cons (f_var 3) fa_nil))) (alen_cons (alen_cons (alen_cons alen_nil)))))
    (fs_cons (fs_asg (i := 5) sc__law_right.nd rfl (by first | exact Or.inl rfl | exact Or.inr rfl) (f_gt (f_call C__law_count (hr.mono (by decide)) rfl bd__law_count (fa_cons (f_var 1) (fa_cons (f_var 2) (fa_cons (f_var 3) fa_nil))) (alen_cons (alen_cons (alen_cons alen_nil)))) f_int))
    (fs_cons (fs_if (fc_ne hr.r.units (f_isN (f_var 4) f_non) (f_var 5)) (fs_one (fs_ret f_bl)) fs_nil)
    (fs_cons (fs_if (fc_isN (f_var 4) f_non) (fs_cons (fs_asg (i := 6) sc__law_right.nd rfl (by first | exact Or.inl rfl | exact Or.inr rfl) (f_item (f_frz (f_call C__law_primes (hr.mono (by decide)) rfl bd__law_primes (fa_cons (f_var 1) fa_nil) (alen_cons alen_nil))) f_int))
    (fs_cons (fs_for PassesOwn.never rfl (fi_seq (f_lst (fa_cons f_non (fa_cons (f_call C__law_paper (hr.mono (by decide)) rfl bd__law_paper (fa_cons (f_var 0) (fa_cons (f_var 6) (fa_cons (f_callB call_len_seq p_len rfl B.len (by decide +kernel) (fa_cons (f_var 3) fa_nil)) fa_nil))) (alen_cons (alen_cons (alen_cons alen_nil)))) (fa_cons (f_call C__law_odd (hr.mono (by decide)) rfl bd__law_odd (fa_cons (f_var 0) (fa_cons (f_call C__law_paper (hr.mono (by decide)) rfl bd__law_paper (fa_cons (f_var 0) (fa_cons (f_var 6) (fa_cons (f_callB call_len_seq p_len rfl B.len (by decide +kernel) (fa_cons (f_var 3) fa_nil)) fa_nil))) (alen_cons (alen_cons (alen_cons alen_nil)))) fa_nil)) (alen_cons (alen_cons alen_nil))) fa_nil))))) (g_name (i := 7) sc__law_right.nd rfl (by first | exact Or.inl rfl | exact Or.inr rfl)) (tgd_name (i := 7)) (show FSts _ _ lb__law_right_1 from (fs_one (fs_if (fc_notB (f_callK C_refuses (hr.mono (by decide)) rfl kb_refuses_value_looks_reach_modulus pm_refuses_value_looks_reach_modulus (fk_cons (f_var 7) (fk_cons (f_var 3) (fk_cons (f_var 2) (fk_cons (f_var 1) fk_nil)))) (alen_cons (alen_cons (alen_cons (alen_cons alen_nil))))) f_bl) (fs_one (fs_ret f_bl)) fs_nil))))
    (fs_one (fs_ret f_bl)))) fs_nil)
    (fs_cons (fs_if (fc_w (fcw_or (fc_not (fc_tr (f_call C__law_due (hr.mono (by decide)) rfl bd__law_due (fa_cons (f_var 4) (fa_cons (f_var 1) (fa_cons (f_var 2) (fa_cons (f_var 3) fa_nil)))) (alen_cons (alen_cons (alen_cons (alen_cons alen_nil))))))) (fcw_or1 (fc_not (fc_tr (f_call C__law_papers_right (hr.mono (by decide)) rfl bd__law_papers_right (fa_cons (f_var 0) (fa_cons (f_var 4) (fa_cons (f_var 1) (fa_cons (f_var 2) (fa_cons (f_var 3) fa_nil))))) (alen_cons (alen_cons (alen_cons (alen_cons (alen_cons alen_nil))))))))))) (fs_one (fs_ret f_bl)) fs_nil)
    (fs_cons (fs_asg (i := 8) sc__law_right.nd rfl (by first | exact Or.inl rfl | exact Or.inr rfl) (f_callK C_refusal (hr.mono (by decide)) rfl kb_refusal_looks_reach_modulus pm_refusal_looks_reach_modulus (fk_cons (f_var 3) (fk_cons (f_var 2) (fk_cons (f_var 1) fk_nil))) (alen_cons (alen_cons (alen_cons alen_nil)))))
    (fs_one (fs_ret (f_and (f_call C__law_due (hr.mono (by decide)) rfl bd__law_due (fa_cons (f_var 8) (fa_cons (f_var 1) (fa_cons (f_var 2) (fa_cons (f_var 3) fa_nil)))) (alen_cons (alen_cons (alen_cons (alen_cons alen_nil))))) (f_one (f_isN (f_call C_refusal (hr.mono (by decide)) rfl bd_refusal (fa_cons (f_var 1) (fa_cons (f_var 2) (fa_cons (f_tup fa_nil) fa_nil))) (alen_cons (alen_cons (alen_cons alen_nil)))) f_non))))))))))))))
theorem sc_law : FnScope N_law ps_law (defScope st_law) := ⟨rfl, rfl, rfl, by decide +kernel, rfl, by decide +kernel, by decide +kernel⟩
theorem der_law {P : Program} {w : World} {K : PySem.W.Frag} {mg : Str → Option Value} {base : Heap} (B : Bl mg) (C__law_right : Cal P w K mg base 9 "_law_right" st__law_right ps__law_right (spF F__law_right 1)) (C__law_pot : Cal P w K mg base 1 "_law_pot" st__law_pot ps__law_pot (spF F__law_pot 2)) {f : Addr} {cdv : Value} {A : Around} {outer : List Env} {s : Shared} {H : Hp} (hr : RoomG 9 (A.deeper (envOfC "law" (defScope st_law) s.heap.objs.size f cdv))) :
    FSts (cxD P w K mg base N_law "law" (defScope st_law) f cdv A outer s H) (defBody st_law) fb_law :=
    (fs_cons (fs_for PassesOwn.never rfl (fi_range1 rfl B.range (fa_cons (f_callB (call_max2 rfl) p_max2 rfl B.max (by decide +kernel) (fa_cons f_int (fa_cons (f_callB (call_min2 rfl) p_min2 rfl B.min (by decide +kernel) (fa_cons f_int (fa_cons (f_callB call_len_seq p_len rfl B.len (by decide +kernel) (fa_cons (f_var 0) fa_nil)) fa_nil))) fa_nil))) fa_nil)) (g_name (i := 1) sc_law.nd rfl (by first | exact Or.inl rfl | exact Or.inr rfl)) (tgd_name (i := 1)) (show FSts _ _ lb_law_1 from (fs_one (fs_if (fc_not (fc_tr (f_call1O C__law_right (hr.mono (by decide)) rfl bd__law_right (f_call C__law_pot (hr.mono (by decide)) rfl bd__law_pot (fa_cons (f_var 0) (fa_cons (f_var 1) fa_nil)) (alen_cons (alen_cons alen_nil)))))) (fs_one (fs_ret f_bl)) fs_nil))))
    (fs_one (fs_ret f_bl)))
end K25

namespace K25
open PySem PySem.Spec PyProof.Rows L2 DL FL
open NA

structure Facts (K : PySem.W.Frag) (mg : Str → Option Value) : Prop where
  B : Bl mg
  H_PRIMES : KName K mg "PRIMES" [2, 3, 5, 6, 7, 10, 11, 13, 14, 15]
  HT_PRIMES : KTup K mg "PRIMES" [(2, [2]), (3, [3]), (5, [5]), (6, [2, 3]), (7, [7]), (10, [2, 5]), (11, [11]), (13, [13]), (14, [2, 7]), (15, [3, 5])]
  H_MOST_REACH : KNum mg "MOST_REACH" 3
  D_inverse : DefM K mg "inverse" st_inverse
  D_cleared : DefM K mg "cleared" st_cleared
  D_one_at : DefM K mg "one_at" st_one_at
  D_echelon : DefM K mg "echelon" st_echelon
  D_is_number : DefM K mg "is_number" st_is_number
  D_is_within : DefM K mg "is_within" st_is_within
  D_is_two : DefM K mg "is_two" st_is_two
  D_is_remainders : DefM K mg "is_remainders" st_is_remainders
  D_is_modulus : DefM K mg "is_modulus" st_is_modulus
  D_has_prime : DefM K mg "has_prime" st_has_prime
  D_primes_of : DefM K mg "primes_of" st_primes_of
  D_is_look : DefM K mg "is_look" st_is_look
  D_need_looks : DefM K mg "need_looks" st_need_looks
  D_solved : DefM K mg "solved" st_solved
  D_refusal : DefM K mg "refusal" st_refusal
  D_refuses : DefM K mg "refuses" st_refuses
  D__law_pot : DefM K mg "_law_pot" st__law_pot
  D__law_draw : DefM K mg "_law_draw" st__law_draw
  D__law_told : DefM K mg "_law_told" st__law_told
  D__law_cells : DefM K mg "_law_cells" st__law_cells
  D__law_looks : DefM K mg "_law_looks" st__law_looks
  D__law_primes : DefM K mg "_law_primes" st__law_primes
  D__law_less : DefM K mg "_law_less" st__law_less
  D__law_rank : DefM K mg "_law_rank" st__law_rank
  D__law_count : DefM K mg "_law_count" st__law_count
  D__law_sums : DefM K mg "_law_sums" st__law_sums
  D__law_due : DefM K mg "_law_due" st__law_due
  D__law_judged : DefM K mg "_law_judged" st__law_judged
  D__law_paper : DefM K mg "_law_paper" st__law_paper
  D__law_odd : DefM K mg "_law_odd" st__law_odd
  D__law_papers_right : DefM K mg "_law_papers_right" st__law_papers_right
  D__law_torn : DefM K mg "_law_torn" st__law_torn
  D__law_right : DefM K mg "_law_right" st__law_right
  D_law : DefM K mg "law" st_law
theorem cal_inverse {P : Program} {w : World} {K : PySem.W.Frag} {mg : Str → Option Value} {base : Heap} (F : Facts K mg) : Cal P w K mg base 1 "inverse" st_inverse ps_inverse (spF F_inverse 2) := Cal.ofF F.D_inverse sc_inverse rfl (fun f cdv A outer s H hr => der_inverse F.B hr)
theorem cal_cleared {P : Program} {w : World} {K : PySem.W.Frag} {mg : Str → Option Value} {base : Heap} (F : Facts K mg) : Cal P w K mg base 1 "cleared" st_cleared ps_cleared (spF F_cleared 4) := Cal.ofF F.D_cleared sc_cleared rfl (fun f cdv A outer s H hr => der_cleared F.B hr)
theorem cal_one_at {P : Program} {w : World} {K : PySem.W.Frag} {mg : Str → Option Value} {base : Heap} (F : Facts K mg) : Cal P w K mg base 2 "one_at" st_one_at ps_one_at (spF F_one_at 3) := Cal.ofF F.D_one_at sc_one_at rfl (fun f cdv A outer s H hr => der_one_at F.B (cal_inverse F) hr)
theorem cal_echelon {P : Program} {w : World} {K : PySem.W.Frag} {mg : Str → Option Value} {base : Heap} (F : Facts K mg) : Cal P w K mg base 3 "echelon" st_echelon ps_echelon (spF F_echelon 3) := Cal.ofF F.D_echelon sc_echelon rfl (fun f cdv A outer s H hr => der_echelon F.B (cal_one_at F) (cal_cleared F) hr)
theorem cal_is_number {P : Program} {w : World} {K : PySem.W.Frag} {mg : Str → Option Value} {base : Heap} (F : Facts K mg) : Cal P w K mg base 1 "is_number" st_is_number ps_is_number (spF F_is_number 1) := Cal.ofF F.D_is_number sc_is_number rfl (fun f cdv A outer s H hr => der_is_number F.B hr)
theorem cal_is_within {P : Program} {w : World} {K : PySem.W.Frag} {mg : Str → Option Value} {base : Heap} (F : Facts K mg) : Cal P w K mg base 2 "is_within" st_is_within ps_is_within (spF F_is_within 3) := Cal.ofF F.D_is_within sc_is_within rfl (fun f cdv A outer s H hr => der_is_within F.B (cal_is_number F) hr)
theorem cal_is_two {P : Program} {w : World} {K : PySem.W.Frag} {mg : Str → Option Value} {base : Heap} (F : Facts K mg) : Cal P w K mg base 1 "is_two" st_is_two ps_is_two (spF F_is_two 1) := Cal.ofF F.D_is_two sc_is_two rfl (fun f cdv A outer s H hr => der_is_two F.B hr)
theorem cal_is_remainders {P : Program} {w : World} {K : PySem.W.Frag} {mg : Str → Option Value} {base : Heap} (F : Facts K mg) : Cal P w K mg base 3 "is_remainders" st_is_remainders ps_is_remainders (spF F_is_remainders 3) := Cal.ofF F.D_is_remainders sc_is_remainders rfl (fun f cdv A outer s H hr => der_is_remainders F.B (cal_is_within F) hr)
theorem cal_is_modulus {P : Program} {w : World} {K : PySem.W.Frag} {mg : Str → Option Value} {base : Heap} (F : Facts K mg) : Cal P w K mg base 2 "is_modulus" st_is_modulus ps_is_modulus (spF F_is_modulus 1) := Cal.ofF F.D_is_modulus sc_is_modulus rfl (fun f cdv A outer s H hr => der_is_modulus F.B F.H_PRIMES F.HT_PRIMES (cal_is_number F) hr)
theorem cal_has_prime {P : Program} {w : World} {K : PySem.W.Frag} {mg : Str → Option Value} {base : Heap} (F : Facts K mg) : Cal P w K mg base 2 "has_prime" st_has_prime ps_has_prime (spF F_has_prime 2) := Cal.ofF F.D_has_prime sc_has_prime rfl (fun f cdv A outer s H hr => der_has_prime F.B F.H_PRIMES F.HT_PRIMES (cal_is_two F) (cal_is_number F) hr)
theorem cal_primes_of {P : Program} {w : World} {K : PySem.W.Frag} {mg : Str → Option Value} {base : Heap} (F : Facts K mg) : Cal P w K mg base 3 "primes_of" st_primes_of ps_primes_of (spF F_primes_of 1) := Cal.ofF F.D_primes_of sc_primes_of rfl (fun f cdv A outer s H hr => der_primes_of F.B F.H_PRIMES F.HT_PRIMES (cal_is_modulus F) hr)
theorem cal_is_look {P : Program} {w : World} {K : PySem.W.Frag} {mg : Str → Option Value} {base : Heap} (F : Facts K mg) : Cal P w K mg base 4 "is_look" st_is_look ps_is_look (spF F_is_look 3) := Cal.ofF F.D_is_look sc_is_look rfl (fun f cdv A outer s H hr => der_is_look F.B (cal_is_two F) (cal_is_remainders F) (cal_is_within F) hr)
theorem cal_need_looks {P : Program} {w : World} {K : PySem.W.Frag} {mg : Str → Option Value} {base : Heap} (F : Facts K mg) : Cal P w K mg base 5 "need_looks" st_need_looks ps_need_looks (spF F_need_looks 3) := Cal.ofF F.D_need_looks sc_need_looks rfl (fun f cdv A outer s H hr => der_need_looks F.B F.H_MOST_REACH (cal_primes_of F) (cal_is_look F) hr)
theorem cal_solved {P : Program} {w : World} {K : PySem.W.Frag} {mg : Str → Option Value} {base : Heap} (F : Facts K mg) : Cal P w K mg base 4 "solved" st_solved ps_solved (spF F_solved 3) := Cal.ofF F.D_solved sc_solved rfl (fun f cdv A outer s H hr => der_solved F.B (cal_echelon F) hr)
theorem cal_refusal {P : Program} {w : World} {K : PySem.W.Frag} {mg : Str → Option Value} {base : Heap} (F : Facts K mg) : Cal P w K mg base 6 "refusal" st_refusal ps_refusal (spF F_refusal 3) := Cal.ofF F.D_refusal sc_refusal rfl (fun f cdv A outer s H hr => der_refusal F.B (cal_need_looks F) (cal_solved F) hr)
theorem cal_refuses {P : Program} {w : World} {K : PySem.W.Frag} {mg : Str → Option Value} {base : Heap} (F : Facts K mg) : Cal P w K mg base 6 "refuses" st_refuses ps_refuses (spF F_refuses 4) := Cal.ofF F.D_refuses sc_refuses rfl (fun f cdv A outer s H hr => der_refuses F.B (cal_need_looks F) (cal_has_prime F) (cal_is_remainders F) hr)
theorem cal__law_pot {P : Program} {w : World} {K : PySem.W.Frag} {mg : Str → Option Value} {base : Heap} (F : Facts K mg) : Cal P w K mg base 1 "_law_pot" st__law_pot ps__law_pot (spF F__law_pot 2) := Cal.ofF F.D__law_pot sc__law_pot rfl (fun f cdv A outer s H hr => der__law_pot F.B hr)
theorem cal__law_draw {P : Program} {w : World} {K : PySem.W.Frag} {mg : Str → Option Value} {base : Heap} (F : Facts K mg) : Cal P w K mg base 1 "_law_draw" st__law_draw ps__law_draw (spF F__law_draw 2) := Cal.ofF F.D__law_draw sc__law_draw rfl (fun f cdv A outer s H hr => der__law_draw F.B hr)
theorem cal__law_told {P : Program} {w : World} {K : PySem.W.Frag} {mg : Str → Option Value} {base : Heap} (F : Facts K mg) : Cal P w K mg base 1 "_law_told" st__law_told ps__law_told (spF F__law_told 3) := Cal.ofF F.D__law_told sc__law_told rfl (fun f cdv A outer s H hr => der__law_told F.B hr)
theorem cal__law_cells {P : Program} {w : World} {K : PySem.W.Frag} {mg : Str → Option Value} {base : Heap} (F : Facts K mg) : Cal P w K mg base 2 "_law_cells" st__law_cells ps__law_cells (spF F__law_cells 4) := Cal.ofF F.D__law_cells sc__law_cells rfl (fun f cdv A outer s H hr => der__law_cells F.B (cal__law_draw F) hr)
theorem cal__law_looks {P : Program} {w : World} {K : PySem.W.Frag} {mg : Str → Option Value} {base : Heap} (F : Facts K mg) : Cal P w K mg base 3 "_law_looks" st__law_looks ps__law_looks (spF F__law_looks 4) := Cal.ofF F.D__law_looks sc__law_looks rfl (fun f cdv A outer s H hr => der__law_looks F.B (cal__law_draw F) (cal__law_cells F) (cal__law_told F) hr)
theorem cal__law_primes {P : Program} {w : World} {K : PySem.W.Frag} {mg : Str → Option Value} {base : Heap} (F : Facts K mg) : Cal P w K mg base 1 "_law_primes" st__law_primes ps__law_primes (spF F__law_primes 1) := Cal.ofF F.D__law_primes sc__law_primes rfl (fun f cdv A outer s H hr => der__law_primes F.B hr)
theorem cal__law_less {P : Program} {w : World} {K : PySem.W.Frag} {mg : Str → Option Value} {base : Heap} (F : Facts K mg) : Cal P w K mg base 1 "_law_less" st__law_less ps__law_less (spF F__law_less 4) := Cal.ofF F.D__law_less sc__law_less rfl (fun f cdv A outer s H hr => der__law_less F.B hr)
theorem cal__law_rank {P : Program} {w : World} {K : PySem.W.Frag} {mg : Str → Option Value} {base : Heap} (F : Facts K mg) : Cal P w K mg base 2 "_law_rank" st__law_rank ps__law_rank (spF F__law_rank 3) := Cal.ofF F.D__law_rank sc__law_rank rfl (fun f cdv A outer s H hr => der__law_rank F.B (cal__law_less F) hr)
theorem cal__law_count {P : Program} {w : World} {K : PySem.W.Frag} {mg : Str → Option Value} {base : Heap} (F : Facts K mg) : Cal P w K mg base 3 "_law_count" st__law_count ps__law_count (spF F__law_count 3) := Cal.ofF F.D__law_count sc__law_count rfl (fun f cdv A outer s H hr => der__law_count F.B (cal__law_primes F) (cal__law_rank F) hr)
theorem cal__law_sums {P : Program} {w : World} {K : PySem.W.Frag} {mg : Str → Option Value} {base : Heap} (F : Facts K mg) : Cal P w K mg base 1 "_law_sums" st__law_sums ps__law_sums (spF F__law_sums 4) := Cal.ofF F.D__law_sums sc__law_sums rfl (fun f cdv A outer s H hr => der__law_sums F.B hr)
theorem cal__law_due {P : Program} {w : World} {K : PySem.W.Frag} {mg : Str → Option Value} {base : Heap} (F : Facts K mg) : Cal P w K mg base 2 "_law_due" st__law_due ps__law_due (spF F__law_due 4) := Cal.ofF F.D__law_due sc__law_due rfl (fun f cdv A outer s H hr => der__law_due F.B (cal__law_primes F) (cal__law_sums F) hr)
theorem cal__law_judged {P : Program} {w : World} {K : PySem.W.Frag} {mg : Str → Option Value} {base : Heap} (F : Facts K mg) : Cal P w K mg base 7 "_law_judged" st__law_judged ps__law_judged (spF F__law_judged 4) := Cal.ofF F.D__law_judged sc__law_judged rfl (fun f cdv A outer s H hr => der__law_judged F.B (cal__law_due F) (cal_refuses F) hr)
theorem cal__law_paper {P : Program} {w : World} {K : PySem.W.Frag} {mg : Str → Option Value} {base : Heap} (F : Facts K mg) : Cal P w K mg base 2 "_law_paper" st__law_paper ps__law_paper (spF F__law_paper 3) := Cal.ofF F.D__law_paper sc__law_paper rfl (fun f cdv A outer s H hr => der__law_paper F.B (cal__law_draw F) hr)
theorem cal__law_odd {P : Program} {w : World} {K : PySem.W.Frag} {mg : Str → Option Value} {base : Heap} (F : Facts K mg) : Cal P w K mg base 2 "_law_odd" st__law_odd ps__law_odd (spF F__law_odd 2) := Cal.ofF F.D__law_odd sc__law_odd rfl (fun f cdv A outer s H hr => der__law_odd F.B (cal__law_draw F) hr)
theorem cal__law_papers_right {P : Program} {w : World} {K : PySem.W.Frag} {mg : Str → Option Value} {base : Heap} (F : Facts K mg) : Cal P w K mg base 8 "_law_papers_right" st__law_papers_right ps__law_papers_right (spF F__law_papers_right 5) := Cal.ofF F.D__law_papers_right sc__law_papers_right rfl (fun f cdv A outer s H hr => der__law_papers_right F.B (cal__law_draw F) (cal__law_paper F) (cal__law_primes F) (cal__law_odd F) (cal__law_judged F) (cal__law_due F) hr)
theorem cal__law_torn {P : Program} {w : World} {K : PySem.W.Frag} {mg : Str → Option Value} {base : Heap} (F : Facts K mg) : Cal P w K mg base 2 "_law_torn" st__law_torn ps__law_torn (spF F__law_torn 4) := Cal.ofF F.D__law_torn sc__law_torn rfl (fun f cdv A outer s H hr => der__law_torn F.B (cal__law_primes F) (cal__law_draw F) hr)
theorem cal__law_right {P : Program} {w : World} {K : PySem.W.Frag} {mg : Str → Option Value} {base : Heap} (F : Facts K mg) : Cal P w K mg base 9 "_law_right" st__law_right ps__law_right (spF F__law_right 1) := Cal.ofF F.D__law_right sc__law_right rfl (fun f cdv A outer s H hr => der__law_right F.B (cal__law_draw F) (cal__law_looks F) (cal__law_torn F) (cal_refusal F) (cal__law_count F) (cal__law_primes F) (cal__law_paper F) (cal__law_odd F) (cal_refuses F) (cal__law_due F) (cal__law_papers_right F) hr)
theorem cal_law {P : Program} {w : World} {K : PySem.W.Frag} {mg : Str → Option Value} {base : Heap} (F : Facts K mg) : Cal P w K mg base 10 "law" st_law ps_law (spF F_law 1) := Cal.ofF F.D_law sc_law rfl (fun f cdv A outer s H hr => der_law F.B (cal__law_right F) (cal__law_pot F) hr)
theorem ends {P : Program} {w : World} {K : PySem.W.Frag} {mg : Str → Option Value} {fa : Addr} (hmg : mg "law" = some (.ref fa)) (F : Facts K mg) :
    ∃ fd : FuncData, (∀ (s : Shared) (u : Value), BindsTo s fd ⟨[u], []⟩ [("_law_script", u)]) ∧ ∀ base : Heap, K.In base → base.Ns mainGlobals mg → FnD P w K mg base 10 fa fd ["_law_script"] (spF F_law 1) := by
  obtain ⟨f, fd, m, Fn⟩ := F.D_law.ex
  have e := hmg.symm.trans m
  cases e
  refine ⟨fd, ?_, fun base _ _ => ?_⟩
  · obtain ⟨oc, od, kV, doc, pm, an, cdv, ct, osl, rfl, lk, hcd⟩ := Fn.ex
    exact fun s v => .of_eq rfl
  · obtain ⟨f', fd', F', m', Fn'⟩ := (cal_law (P := P) (w := w) (base := base) F).ex
    rw [m] at m'
    cases m'
    obtain ⟨oc, od, kV, doc, pm, an, cdv, ct, osl, rfl, lk, hcd⟩ := Fn.ex
    obtain ⟨oc', od', kV', doc', pm', an', cdv', ct', osl', rfl, lk', hcd'⟩ := Fn'.ex
    rw [lk] at lk'
    cases lk'
    exact F'
end K25

open PySem PySem.W PyProof.Rows
set_option maxRecDepth 100000 in
set_option maxHeartbeats 0 in
theorem PySem.Challenge.cw_nearadds_k25_multiples_that_contradict_holds : PySem.Challenge.rw_nearadds_k25_multiples_that_contradict.Holds := by
  w_on; o_law; k_head; (case hw => w_witness2)
  k_fill
  refine DL.dwalk (n := 63) (k := 10) (x := "_law_script") (sp := FL.spF K25.F_law 1) rfl (by decide) rfl ⟨rfl, by decide, by decide⟩ (fun w h Y => PySem.W.kIn_of Y) ?F (FL.law_sp K25.main)
  intro w mg fa h KX G hmg
  refine K25.ends hmg (K25.Facts.mk ?B ?H_PRIMES ?HT_PRIMES ?H_MOST_REACH ?D_inverse ?D_cleared ?D_one_at ?D_echelon ?D_is_number ?D_is_within ?D_is_two ?D_is_remainders ?D_is_modulus ?D_has_prime ?D_primes_of ?D_is_look ?D_need_looks ?D_solved ?D_refusal ?D_refuses ?D__law_pot ?D__law_draw ?D__law_told ?D__law_cells ?D__law_looks ?D__law_primes ?D__law_less ?D__law_rank ?D__law_count ?D__law_sums ?D__law_due ?D__law_judged ?D__law_paper ?D__law_odd ?D__law_papers_right ?D__law_torn ?D__law_right ?D_law)
  case B =>
    refine' DL.bl_mk KX G ?b_isinstance ?b_int ?b_bool ?b_str ?b_tuple ?b_list ?b_dict ?b_len ?b_all ?b_any ?b_sum ?b_abs ?b_max ?b_min ?b_repr ?b_range ?b_enumerate ?b_zip ?b_reversed ?b_sorted ?b_set
    (case b_isinstance => k_is)
    (case b_int => k_is)
    (case b_bool => k_is)
    (case b_str => k_is)
    (case b_tuple => k_is)
    (case b_list => k_is)
    (case b_dict => k_is)
    (case b_len => k_is)
    (case b_all => k_is)
    (case b_any => k_is)
    (case b_sum => k_is)
    (case b_abs => k_is)
    (case b_max => k_is)
    (case b_min => k_is)
    (case b_repr => k_is)
    (case b_range => k_is)
    (case b_enumerate => k_is)
    (case b_zip => k_is)
    (case b_reversed => k_is)
    (case b_sorted => k_is)
    (case b_set => k_is)
  case H_PRIMES =>
    refine' DL.kname_mk KX G ?a ?l ?e ?n ?o
    (case a => k_is); (case l => k_is); (case e => rfl); (case n => decide); (case o => rfl)
  case HT_PRIMES =>
    refine' FL.primes_mk KX G ?a ?l ?e ?l2 ?l3 ?l5 ?l6 ?l7 ?l10 ?l11 ?l13 ?l14 ?l15
    (case a => k_is); (case l => k_is); (case e => exact ⟨rfl, rfl, rfl, rfl, rfl, rfl, rfl, rfl, rfl, rfl, rfl⟩); (case l2 => k_is); (case l3 => k_is); (case l5 => k_is); (case l6 => k_is); (case l7 => k_is); (case l10 => k_is); (case l11 => k_is); (case l13 => k_is); (case l14 => k_is); (case l15 => k_is)
  case H_MOST_REACH =>
    refine' DL.knum_mk KX G ?a
    (case a => k_is)
  case D_inverse =>
    refine' DL.def_mk KX G ?a ?l ?c ?k
    (case a => k_is); (case l => k_is); (case c => k_is); (case k => k_is)
  case D_cleared =>
    refine' DL.def_mk KX G ?a ?l ?c ?k
    (case a => k_is); (case l => k_is); (case c => k_is); (case k => k_is)
  case D_one_at =>
    refine' DL.def_mk KX G ?a ?l ?c ?k
    (case a => k_is); (case l => k_is); (case c => k_is); (case k => k_is)
  case D_echelon =>
    refine' DL.def_mk KX G ?a ?l ?c ?k
    (case a => k_is); (case l => k_is); (case c => k_is); (case k => k_is)
  case D_is_number =>
    refine' DL.def_mk KX G ?a ?l ?c ?k
    (case a => k_is); (case l => k_is); (case c => k_is); (case k => k_is)
  case D_is_within =>
    refine' DL.def_mk KX G ?a ?l ?c ?k
    (case a => k_is); (case l => k_is); (case c => k_is); (case k => k_is)
  case D_is_two =>
    refine' DL.def_mk KX G ?a ?l ?c ?k
    (case a => k_is); (case l => k_is); (case c => k_is); (case k => k_is)
  case D_is_remainders =>
    refine' DL.def_mk KX G ?a ?l ?c ?k
    (case a => k_is); (case l => k_is); (case c => k_is); (case k => k_is)
  case D_is_modulus =>
    refine' DL.def_mk KX G ?a ?l ?c ?k
    (case a => k_is); (case l => k_is); (case c => k_is); (case k => k_is)
  case D_has_prime =>
    refine' DL.def_mk KX G ?a ?l ?c ?k
    (case a => k_is); (case l => k_is); (case c => k_is); (case k => k_is)
  case D_primes_of =>
    refine' DL.def_mk KX G ?a ?l ?c ?k
    (case a => k_is); (case l => k_is); (case c => k_is); (case k => k_is)
  case D_is_look =>
    refine' DL.def_mk KX G ?a ?l ?c ?k
    (case a => k_is); (case l => k_is); (case c => k_is); (case k => k_is)
  case D_need_looks =>
    refine' DL.def_mk KX G ?a ?l ?c ?k
    (case a => k_is); (case l => k_is); (case c => k_is); (case k => k_is)
  case D_solved =>
    refine' DL.def_mk KX G ?a ?l ?c ?k
    (case a => k_is); (case l => k_is); (case c => k_is); (case k => k_is)
  case D_refusal =>
    refine' DL.def_mk KX G ?a ?l ?c ?k
    (case a => k_is); (case l => k_is); (case c => k_is); (case k => k_is)
  case D_refuses =>
    refine' DL.def_mk KX G ?a ?l ?c ?k
    (case a => k_is); (case l => k_is); (case c => k_is); (case k => k_is)
  case D__law_pot =>
    refine' DL.def_mk KX G ?a ?l ?c ?k
    (case a => k_is); (case l => k_is); (case c => k_is); (case k => k_is)
  case D__law_draw =>
    refine' DL.def_mk KX G ?a ?l ?c ?k
    (case a => k_is); (case l => k_is); (case c => k_is); (case k => k_is)
  case D__law_told =>
    refine' DL.def_mk KX G ?a ?l ?c ?k
    (case a => k_is); (case l => k_is); (case c => k_is); (case k => k_is)
  case D__law_cells =>
    refine' DL.def_mk KX G ?a ?l ?c ?k
    (case a => k_is); (case l => k_is); (case c => k_is); (case k => k_is)
  case D__law_looks =>
    refine' DL.def_mk KX G ?a ?l ?c ?k
    (case a => k_is); (case l => k_is); (case c => k_is); (case k => k_is)
  case D__law_primes =>
    refine' DL.def_mk KX G ?a ?l ?c ?k
    (case a => k_is); (case l => k_is); (case c => k_is); (case k => k_is)
  case D__law_less =>
    refine' DL.def_mk KX G ?a ?l ?c ?k
    (case a => k_is); (case l => k_is); (case c => k_is); (case k => k_is)
  case D__law_rank =>
    refine' DL.def_mk KX G ?a ?l ?c ?k
    (case a => k_is); (case l => k_is); (case c => k_is); (case k => k_is)
  case D__law_count =>
    refine' DL.def_mk KX G ?a ?l ?c ?k
    (case a => k_is); (case l => k_is); (case c => k_is); (case k => k_is)
  case D__law_sums =>
    refine' DL.def_mk KX G ?a ?l ?c ?k
    (case a => k_is); (case l => k_is); (case c => k_is); (case k => k_is)
  case D__law_due =>
    refine' DL.def_mk KX G ?a ?l ?c ?k
    (case a => k_is); (case l => k_is); (case c => k_is); (case k => k_is)
  case D__law_judged =>
    refine' DL.def_mk KX G ?a ?l ?c ?k
    (case a => k_is); (case l => k_is); (case c => k_is); (case k => k_is)
  case D__law_paper =>
    refine' DL.def_mk KX G ?a ?l ?c ?k
    (case a => k_is); (case l => k_is); (case c => k_is); (case k => k_is)
  case D__law_odd =>
    refine' DL.def_mk KX G ?a ?l ?c ?k
    (case a => k_is); (case l => k_is); (case c => k_is); (case k => k_is)
  case D__law_papers_right =>
    refine' DL.def_mk KX G ?a ?l ?c ?k
    (case a => k_is); (case l => k_is); (case c => k_is); (case k => k_is)
  case D__law_torn =>
    refine' DL.def_mk KX G ?a ?l ?c ?k
    (case a => k_is); (case l => k_is); (case c => k_is); (case k => k_is)
  case D__law_right =>
    refine' DL.def_mk KX G ?a ?l ?c ?k
    (case a => k_is); (case l => k_is); (case c => k_is); (case k => k_is)
  case D_law =>
    refine' DL.def_mk KX G ?a ?l ?c ?k
    (case a => k_is); (case l => k_is); (case c => k_is); (case k => k_is)
