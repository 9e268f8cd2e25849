import PyProof.Rows.All
import Wide.All
import OpenK.AllK
import Wide.FinOn
import HandS.ForMost
import HandS.Conv
import HandS.TupAny
import HandS.IsInst
import HandS.Wide
import HandS.EndBits
import HandS.RevRange
import HandS.TupLe
import HandS.Style
import PyProof.ReprRoads
import PyProof.ReprBulk
import HandS.Zip
import PyProof.FitsInt
import HandS.Small
import HandS.More
import HandS.SortInts
import HandS.WideBits
import HandS.SetFor
import HandS.Strs
import HandS.TupMul
import HandS.Flow
import KE.KDictPairs
import HandS.NoneIn
import KE.GoesEnum
import KE.GoesMore
import KE.GoesZip
import PyProof.LongRange
import HandS.TupLen
import HandS.Deep
import KE.LtSeq
import HandS.Gcd
import KE.KMathG
import PySem.Challenge.RW_nearadds_k31_rounds_that_come_again
set_option linter.all false
set_option Elab.async false
set_option maxRecDepth 100000
set_option maxHeartbeats 4000000
namespace DL
open PySem PySem.Spec PyProof.Rows L2
/-- a tuple's object without a dict of its own -/
structure TupO (o : Obj) : Prop where
  cl : o.cls = .type "tuple"
  nd : o.dict = none
/-- what stands stays, only a dict may be locked -/
def Sm (H H' : Hp) : Prop := ∀ b o, H b = some o → H' b = some o ∨ ∃ k kvs, o = .dK kvs ∧ H' b = some (.frz k (.dK kvs))
theorem Sm.refl (H : Hp) : Sm H H := fun _ _ h => .inl h
theorem Sm.of {H H' : Hp} (h : ∀ b o, H b = some o → H' b = some o) : Sm H H' := fun b o e => .inl (h b o e)
theorem Sm.at' {H H' : Hp} (e : Sm H H') {a : Addr} {o : HO} (h : H a = some o) (n : ∀ kvs, o ≠ .dK kvs) : H' a = some o := by
  rcases e a o h with h | ⟨k, kvs, rfl, _⟩
  · exact h
  · exact (n kvs rfl).elim
theorem Sm.trans {H H1 H2 : Hp} (a : Sm H H1) (b : Sm H1 H2) : Sm H H2 := fun c o h => by
  rcases a c o h with h1 | ⟨k, kvs, rfl, h1⟩
  · exact b c o h1
  · exact .inr ⟨k, kvs, rfl, b.at' h1 (fun _ z => by cases z)⟩
theorem Sm.seq {K : PySem.W.Frag} {H H' : Hp} (e : Sm H H') {a : Addr} {xs : List V} (h : SqL K H a xs) : SqL K H' a xs := by
  rcases h with (h | ⟨o, h⟩) | h
  · exact .inl (.inl (e.at' h fun _ z => by cases z))
  · exact .inl (.inr ⟨o, e.at' h fun _ z => by cases z⟩)
  · exact .inr h
theorem Sm.rdK {H H' : Hp} (e : Sm H H') {a : Addr} {kvs : List (Key × V)} (h : Rd H a (.dK kvs)) : Rd H' a (.dK kvs) := by
  rcases h with h | ⟨o, h⟩
  · rcases e _ _ h with h | ⟨k, kvs', z, h⟩
    · exact .inl h
    · cases z; exact .inr ⟨k, h⟩
  · exact .inr ⟨o, e.at' h fun _ z => by cases z⟩
/-- the place holds such a tuple -/
def SqP (K : PySem.W.Frag) (H : Hp) (a : Addr) (xs : List V) : Prop :=
  (∃ o, H a = some (.frz o (.tup xs)) ∧ TupO o) ∨
    ∃ (o : Obj) (its : Array Value) (n : Nat), K.lookup a = some o ∧ TupO o ∧ o.data = .seq its n ∧ its.size ≤ sizeLine ∧ Vals xs its.toList
theorem SqP.t {K : PySem.W.Frag} {H : Hp} {a : Addr} {xs : List V} (h : SqP K H a xs) : SqT K H a xs := by
  rcases h with ⟨o, e, _⟩ | ⟨o, its, n, e, t, r⟩
  · exact .inl (.inr ⟨o, e⟩)
  · exact .inr ⟨o, its, n, e, t.cl, r⟩
theorem SqP.mono {K : PySem.W.Frag} {H H' : Hp} {a : Addr} {xs : List V} (e : Sm H H') (h : SqP K H a xs) : SqP K H' a xs := by
  rcases h with ⟨o, h, t⟩ | h
  · exact .inl ⟨o, e.at' h (fun _ z => by cases z), t⟩
  · exact .inr h
/-- a new tuple -/
def NewT (H : Hp) (xs : List V) (Q : VK) : Prop := ∀ p o, H p = none → TupO o → Q (.ref p) (upd H p (.frz o (.tup xs)))
section
variable {X : Cx} {pins : List (Addr × Obj)} {σ : L2.St} {H : Hp} {s : Shared} {Q : VK}
theorem lay_tup (I : Inv X pins σ H s) {its : List Value} {xs : List V} (z : xs.length ≤ sizeLine) (r : Vals xs its) (q : NewT H xs Q) : EP X pins σ Q (.ref s.heap.objs.size) { s with heap := s.heap.push { cls := .type "tuple", data := .seq its.toArray } } := by
  have new : (s.heap.push { cls := .type "tuple", data := .seq its.toArray }).get? s.heap.objs.size = some { cls := .type "tuple", data := .seq its.toArray } := Heap.get?_push_size _ rfl
  have old : ∀ b ob, s.heap.get? b = some ob → (s.heap.push { cls := .type "tuple", data := .seq its.toArray }).get? b = some ob := fun _ _ e => Heap.get?_push_of_some _ e
  exact ⟨.ref _, _, I.laid (t' := s.toks) (o := .frz _ (.tup xs)) old (Nat.le_refl _) ⟨new, z, its, r, _, new, rfl, _, rfl⟩, rfl, q _ _ (I.hok.fresh (Nat.le_refl _)) ⟨rfl, rfl⟩⟩
theorem pt_tup {es : List Expr} {pos : Pos} {x1} {t : TA} (h : PA X es t) : PE X (.Tuple es x1 pos) (fun σ H Q => t σ H fun xs H1 => xs.length ≤ sizeLine ∧ NewT H1 xs Q) :=
  ⟨fun pins s σ H Q I hq => wpAny_Tuple_spliced (thn (h.run pos pins s σ H _ I hq) fun us s1 ⟨xs, H1, I1, r, z, q⟩ => ⟨by rw [← r.length]; exact z, lay_tup I1 z r q⟩)⟩
theorem callT_tuple : CallR X (.type "tuple") (fun xs H Q => ∃ p ys, xs = [.ref p] ∧ ((SqL X.K H p ys ∧ NewT H ys Q) ∨ (SqT X.K H p ys ∧ Q (.ref p) H))) := by
  rintro pins s σ H xs us Q I r ⟨p, ys, rfl, h⟩
  obtain ⟨u, rfl, rx⟩ := vals1 r
  cases rx
  rcases h with ⟨hL, q⟩ | ⟨hT, q⟩
  · obtain ⟨its, rv, pl, z⟩ := I.list hL
    have hn := rv.length
    exact call_tuple_list pl.isList (fun h2 keep => lay_tup (I.kept (t' := s.toks) keep) z rv q) (by rw [List.size_toArray]; omega)
  · obtain ⟨its, rv, pl, z⟩ := I.tuple hT
    exact call_tuple_same pl ⟨.ref p, H, I, rfl, q⟩
def rCatP (K : PySem.W.Frag) : R2 := fun x y H Q => ∃ a b xs ys, x = .ref a ∧ y = .ref b ∧ SqT K H a xs ∧ SqT K H b ys ∧ xs.length + ys.length ≤ sizeLine ∧
  (xs = [] → Q (.ref b) H) ∧ (xs ≠ [] → ys = [] → Q (.ref a) H) ∧ (xs ≠ [] → ys ≠ [] → NewT H (xs ++ ys) Q)
theorem opP_cat : OpR X (binaryOp .Add) (rCatP X.K) := by
  rintro pins s σ H x y v u Q I rx ry ⟨a, b, xs, ys, rfl, rfl, ha, hb, z, q0, q1, q2⟩
  cases rx; cases ry
  obtain ⟨its, r1, p1, _⟩ := I.tuple ha
  obtain ⟨its2, r2, p2, _⟩ := I.tuple hb
  by_cases hx : xs = []
  · subst hx
    cases r1
    exact cat_tup0 p1 p2 ⟨.ref b, H, I, rfl, q0 rfl⟩
  · refine HT.cat_tup p1 p2 (fun e => hx (r1.nil_iff.mp e)) (fun e => ⟨.ref a, H, I, rfl, q1 hx (r2.nil_iff.mp e)⟩) (fun e => ?_) (by rw [← r1.length, ← r2.length]; exact z)
    exact lay_tup I (by rw [List.length_append]; exact z) (r1.append r2) (q2 hx fun w => e (r2.nil_iff.mpr w))
def rSlP (K : PySem.W.Frag) : V → Option Int → Option Int → Hp → VK → Prop := fun x lo hi H Q => ∃ a xs, x = .ref a ∧ SqT K H a xs ∧
  (HT.sIx xs.length 0 lo = 0 ∧ HT.sIx xs.length xs.length hi = xs.length → Q (.ref a) H) ∧ (¬ (HT.sIx xs.length 0 lo = 0 ∧ HT.sIx xs.length xs.length hi = xs.length) → NewT H (cutV xs lo hi) Q)
theorem slP_tup : SlR X (rSlP X.K) := by
  rintro pins s σ H x v vl vu lo hi sl Q I rx hs pl pu ⟨a, xs, rfl, hx, q1, q2⟩
  cases rx
  obtain ⟨its, r, ht, z⟩ := I.tuple hx
  have hn : its.toArray.size = xs.length := by rw [List.size_toArray]; exact r.length.symm
  refine ⟨"tuple", _, PyProof.Rows.slot_tuple_getitem.lookup, ht.typeIs, ?_⟩
  by_cases hw : HT.sIx xs.length 0 lo = 0 ∧ HT.sIx xs.length xs.length hi = xs.length
  · exact getItem_tuple_whole ht hs pl pu (by rw [hn]; exact hw) ⟨.ref a, H, I, rfl, q1 hw⟩
  · refine HT.getItem_tuple_cut ht hs pl pu (by rw [hn]; exact hw) ?_ (by rw [hn]; exact z)
    rw [hn]
    exact lay_tup I (Nat.le_trans (cutV_length xs lo hi) z) ((r.drop (HT.sIx xs.length 0 lo)).take (HT.sIx xs.length xs.length hi - HT.sIx xs.length 0 lo)) (q2 hw)
end
end DL

namespace DL
open PySem PySem.Spec PyProof.Rows L2

/-- what a slot holds: data, or the address of a mutable cell -/
inductive DV where
  | d (x : PyData)
  | cell (a : Addr)
/-- the hash of a tuple of ints -/
def tHash (ks : List Int) : Int := reduceHash (Builtin.Tuple.tupleHashOf (ks.map hashInt))
/-- what is so of the object of a dict with tuples of ints as keys, wherever these stand -/
def dtiOk (p : Addr) (xs : List (List Int × Addr × V)) : Heap → Prop := fun h => xs.length ≤ sizeLine ∧ (p == sysModules) = false ∧ (xs.map (·.1)).Nodup ∧
  ∃ (vs : List Value) (o : Obj) (es : Array DictEntry) (ep : Nat), Vals (xs.map (·.2.2)) vs ∧ h.get? p = some o ∧ o.ExactDict ∧ o.data = .dict es ep ∧
    es.toList = List.zipWith (fun x v => (⟨tHash x.1, .ref x.2.1, v⟩ : DictEntry)) xs vs
def dtiO (p : Addr) (xs : List (List Int × Addr × V)) : HO := .ext (dtiOk p xs)
/-- a dict of which nothing is told -/
inductive Opq (a : Addr) : HO → Prop
  | t (kvs : List (List Key × V)) : Opq a (.dT kvs)
  | i (xs : List (List Int × Addr × V)) : Opq a (dtiO a xs)
/-- what stands in a mutable cell -/
inductive Cell where
  | lst (xs : List PyData)
  | dct (kvs : List (Key × PyData))
  | dtt (kvs : List (List Key × PyData))
  | dti (kvs : List (List Int × PyData))
abbrev Mu := Addr → Option Cell
def put (μ : Mu) (a : Addr) (c : Cell) : Mu := fun b => if b = a then some c else μ b
def del (μ : Mu) (a : Addr) : Mu := fun b => if b = a then none else μ b
theorem put_same {μ : Mu} {a : Addr} {c : Cell} : put μ a c a = some c := by simp [put]
theorem put_ne {μ : Mu} {a b : Addr} {c : Cell} (h : b ≠ a) : put μ a c b = μ b := by simp [put, h]
theorem del_same {μ : Mu} {a : Addr} : del μ a a = none := by simp [del]
theorem del_ne {μ : Mu} {a b : Addr} (h : b ≠ a) : del μ a b = μ b := by simp [del, h]
/-- the heap without the cells -/
def hid (μ : Mu) (H : Hp) : Hp := fun b => if (μ b).isSome = true then none else H b
theorem hid_of {μ : Mu} {H : Hp} {b : Addr} (h : μ b = none) : hid μ H b = H b := by simp [hid, h]
theorem hid_some {μ : Mu} {H : Hp} {b : Addr} {o : HO} (h : hid μ H b = some o) : H b = some o ∧ μ b = none := by
  unfold hid at h
  cases e : μ b with
  | none => rw [e] at h; exact ⟨by simpa using h, rfl⟩
  | some c => rw [e] at h; simp at h

def kD : Key → PyData
  | .inl i => .int i
  | .inr x => .str x

mutual
/-- the value v is the data d in the heap H -/
inductive Da (K : PySem.W.Frag) (H : Hp) : V → PyData → Prop
  | non : Da K H .non .none
  | bl (b : Bool) : Da K H (.bl b) (.bool b)
  | int (i : Int) : Da K H (.int i) (.int i)
  | str (x : Str) : Da K H (.str x) (.str x)
  | lst {a : Addr} {xs : List V} {ds : List PyData} : SqL K H a xs → DaAll K H xs ds → Da K H (.ref a) (.list ds)
  | tup {a : Addr} {xs : List V} {ds : List PyData} : SqP K H a xs → DaAll K H xs ds → Da K H (.ref a) (.tuple ds)
  | dct {a : Addr} {kvs : List (Key × V)} {ds : List PyData} : Rd H a (.dK kvs) → DaAll K H (kvs.map (·.2)) ds → Da K H (.ref a) (.dict ((kvs.map fun p => kD p.1).zip ds))
  | opq {a : Addr} {o : HO} : H a = some o → Opq a o → Da K H (.ref a) (.dict [(.dict [], .list [])])
inductive DaAll (K : PySem.W.Frag) (H : Hp) : List V → List PyData → Prop
  | nil : DaAll K H [] []
  | cons {v : V} {vs : List V} {d : PyData} {ds : List PyData} : Da K H v d → DaAll K H vs ds → DaAll K H (v :: vs) (d :: ds)
end

theorem same_seqW {K : PySem.W.Frag} {H H' : Hp} {a : Addr} {xs : List V} (e : Sm H H') (h : SqT K H a xs) : SqT K H' a xs := by
  rcases h with (h | ⟨o, h⟩) | h
  · exact .inl (.inl (e.at' h fun _ z => by cases z))
  · exact .inl (.inr ⟨o, e.at' h fun _ z => by cases z⟩)
  · exact .inr h
theorem same_seqT {K : PySem.W.Frag} {H H' : Hp} {a : Addr} {xs : List V} (e : Sm H H') (h : SqP K H a xs) : SqT K H' a xs := (h.mono e).t

mutual
theorem Da.mono {K : PySem.W.Frag} {H H' : Hp} (e : Sm H H') : ∀ {v : V} {d : PyData}, Da K H v d → Da K H' v d
  | _, _, .non => .non
  | _, _, .bl b => .bl b
  | _, _, .int i => .int i
  | _, _, .str x => .str x
  | _, _, .lst h a => .lst (e.seq h) (DaAll.mono e a)
  | _, _, .tup h a => .tup (h.mono e) (DaAll.mono e a)
  | _, _, .dct h a => .dct (e.rdK h) (DaAll.mono e a)
  | _, _, .opq h q => .opq (e.at' h fun _ z => by subst z; cases q) q
theorem DaAll.mono {K : PySem.W.Frag} {H H' : Hp} (e : Sm H H') : ∀ {vs : List V} {ds : List PyData}, DaAll K H vs ds → DaAll K H' vs ds
  | _, _, .nil => .nil
  | _, _, .cons h t => .cons (Da.mono e h) (DaAll.mono e t)
end
theorem DaAll.length {K : PySem.W.Frag} {H : Hp} : ∀ {vs : List V} {ds : List PyData}, DaAll K H vs ds → vs.length = ds.length
  | _, _, .nil => rfl
  | _, _, .cons _ t => by simp [DaAll.length t]
theorem DaAll.get {K : PySem.W.Frag} {H : Hp} : ∀ {vs : List V} {ds : List PyData}, DaAll K H vs ds → ∀ {i : Nat} {d : PyData}, ds[i]? = some d → ∃ v, vs[i]? = some v ∧ Da K H v d
  | _, _, .nil, i, d, h => by simp at h
  | _, _, .cons h t, 0, d, e => by simp at e; subst e; exact ⟨_, rfl, h⟩
  | _, _, .cons h t, i + 1, d, e => by
    obtain ⟨v, h1, h2⟩ := DaAll.get t (i := i) (by simpa using e)
    exact ⟨v, by simpa using h1, h2⟩
theorem DaAll.append {K : PySem.W.Frag} {H : Hp} : ∀ {vs ws : List V} {ds es : List PyData}, DaAll K H vs ds → DaAll K H ws es → DaAll K H (vs ++ ws) (ds ++ es)
  | _, _, _, _, .nil, h => h
  | _, _, _, _, .cons a t, h => .cons a (DaAll.append t h)
theorem DaAll.take {K : PySem.W.Frag} {H : Hp} : ∀ {vs : List V} {ds : List PyData} (n : Nat), DaAll K H vs ds → DaAll K H (vs.take n) (ds.take n)
  | _, _, 0, _ => by simpa using DaAll.nil
  | _, _, n + 1, .nil => by simpa using DaAll.nil
  | _, _, n + 1, .cons a t => by simpa using DaAll.cons a (DaAll.take n t)
theorem DaAll.drop {K : PySem.W.Frag} {H : Hp} : ∀ {vs : List V} {ds : List PyData} (n : Nat), DaAll K H vs ds → DaAll K H (vs.drop n) (ds.drop n)
  | _, _, 0, h => by simpa using h
  | _, _, n + 1, .nil => by simpa using DaAll.nil
  | _, _, n + 1, .cons a t => by simpa using DaAll.drop n t
theorem DaAll.ints {K : PySem.W.Frag} {H : Hp} : ∀ (ns : List Int), DaAll K H (ns.map V.int) (ns.map PyData.int)
  | [] => .nil
  | n :: ns => .cons (.int n) (DaAll.ints ns)
theorem DaAll.ints_inv {K : PySem.W.Frag} {H : Hp} : ∀ {ns : List Int} {vs : List V}, DaAll K H vs (ns.map PyData.int) → vs = ns.map V.int
  | [], _, h => by cases h; rfl
  | n :: ns, _, h => by
    cases h with
    | cons a t => cases a; rw [DaAll.ints_inv t]; rfl

/-- an item that is walked over: data, or a tuple whose object is not told in full -/
def DaI (K : PySem.W.Frag) (H : Hp) (v : V) (d : PyData) : Prop := Da K H v d ∨ ∃ a vs ds, v = .ref a ∧ d = .tuple ds ∧ SqT K H a vs ∧ DaAll K H vs ds
theorem DaI.mono {K : PySem.W.Frag} {H H' : Hp} (e : Sm H H') {v : V} {d : PyData} (h : DaI K H v d) : DaI K H' v d := by
  rcases h with h | ⟨a, vs, ds, e1, e2, s, t⟩
  · exact .inl (h.mono e)
  · exact .inr ⟨a, vs, ds, e1, e2, same_seqW e s, t.mono e⟩
theorem DaI.tup {K : PySem.W.Frag} {H : Hp} {v : V} {ds : List PyData} (h : DaI K H v (.tuple ds)) : ∃ a vs, v = .ref a ∧ SqT K H a vs ∧ DaAll K H vs ds := by
  rcases h with h | ⟨a, vs, ds', e1, e2, s, t⟩
  · cases h with
    | tup s t => exact ⟨_, _, rfl, s.t, t⟩
  · cases e2
    exact ⟨a, vs, e1, s, t⟩
def DaB (b : Bool) (K : PySem.W.Frag) (H : Hp) (v : V) (d : PyData) : Prop := match b with
  | true => Da K H v d
  | false => DaI K H v d
theorem DaB.mono {K : PySem.W.Frag} {H H' : Hp} (e : Sm H H') {v : V} {d : PyData} : ∀ {b : Bool}, DaB b K H v d → DaB b K H' v d
  | true, h => Da.mono e h
  | false, h => DaI.mono e h
theorem DaB.i {K : PySem.W.Frag} {H : Hp} {v : V} {d : PyData} : ∀ {b : Bool}, DaB b K H v d → DaI K H v d
  | true, h => .inl h
  | false, h => h
/-- a slot's (or a result's) value -/
def RV (K : PySem.W.Frag) (μ : Mu) (H : Hp) (v : V) : DV → Prop
  | .d x => Da K (hid μ H) v x
  | .cell a => v = .ref a
def RVb (b : Bool) (K : PySem.W.Frag) (μ : Mu) (H : Hp) (v : V) : DV → Prop
  | .d x => DaB b K (hid μ H) v x
  | .cell a => v = .ref a
theorem RVb.rv {K : PySem.W.Frag} {μ : Mu} {H : Hp} {v : V} : ∀ {d : DV}, RVb true K μ H v d → RV K μ H v d
  | .d _, h => h
  | .cell _, h => h
theorem RV.rvb {K : PySem.W.Frag} {μ : Mu} {H : Hp} {v : V} : ∀ {d : DV}, RV K μ H v d → RVb true K μ H v d
  | .d _, h => h
  | .cell _, h => h
def RVs (K : PySem.W.Frag) (μ : Mu) (H : Hp) : List V → List DV → Prop := Paired fun v d => RV K μ H v d
abbrev DSt := List (Option DV)
def RS (K : PySem.W.Frag) (μ : Mu) (H : Hp) (σ : L2.St) (δ : DSt) : Prop := σ.length = δ.length ∧ ∀ (i : Nat) (d : DV), δ[i]? = some (some d) → ∃ v, σ[i]? = some (some v) ∧ RV K μ H v d
/-- a cell stands in the heap -/
def CellOk (K : PySem.W.Frag) (μ : Mu) (H : Hp) (a : Addr) : Cell → Prop
  | .lst ds => ∃ xs, H a = some (.lst xs) ∧ DaAll K (hid μ H) xs ds
  | .dct kvs => ∃ ks : List (Key × V), H a = some (.dK ks) ∧ ks.map (·.1) = kvs.map (·.1) ∧ DaAll K (hid μ H) (ks.map (·.2)) (kvs.map (·.2))
  | .dtt kvs => ∃ ks : List (List Key × V), H a = some (.dT ks) ∧ ks.map (·.1) = kvs.map (·.1) ∧ DaAll K (hid μ H) (ks.map (·.2)) (kvs.map (·.2))
  | .dti kvs => ∃ xs : List (List Int × Addr × V), H a = some (dtiO a xs) ∧ xs.map (·.1) = kvs.map (·.1) ∧ (∀ x ∈ xs, SqT K (hid μ H) x.2.1 (x.1.map V.int)) ∧ DaAll K (hid μ H) (xs.map (·.2.2)) (kvs.map (·.2))
def RM (K : PySem.W.Frag) (μ : Mu) (H : Hp) : Prop := ∀ a c, μ a = some c → CellOk K μ H a c
/-- what was tracked and is no cell stays -/
def Ext (μ : Mu) (H : Hp) (μ' : Mu) (H' : Hp) : Prop := Sm (hid μ H) (hid μ' H')
theorem Ext.refl (μ : Mu) (H : Hp) : Ext μ H μ H := Sm.refl _
theorem Ext.trans {μ μ1 μ2 : Mu} {H H1 H2 : Hp} (a : Ext μ H μ1 H1) (b : Ext μ1 H1 μ2 H2) : Ext μ H μ2 H2 := Sm.trans a b
theorem RV.mono {K : PySem.W.Frag} {μ μ' : Mu} {H H' : Hp} (e : Ext μ H μ' H') {v : V} : ∀ {d : DV}, RV K μ H v d → RV K μ' H' v d
  | .d _, h => Da.mono e h
  | .cell _, h => h
theorem RVs.mono {K : PySem.W.Frag} {μ μ' : Mu} {H H' : Hp} (e : Ext μ H μ' H') : ∀ {vs : List V} {ds : List DV}, RVs K μ H vs ds → RVs K μ' H' vs ds
  | _, _, .nil => .nil
  | _, _, .cons h t => .cons (h.mono e) (RVs.mono e t)
theorem RS.mono {K : PySem.W.Frag} {μ μ' : Mu} {H H' : Hp} (e : Ext μ H μ' H') {σ : L2.St} {δ : DSt} (h : RS K μ H σ δ) : RS K μ' H' σ δ :=
  ⟨h.1, fun i d q => let ⟨v, a, b⟩ := h.2 i d q; ⟨v, a, b.mono e⟩⟩
theorem RS.set {K : PySem.W.Frag} {μ : Mu} {H : Hp} {σ : L2.St} {δ : DSt} (h : RS K μ H σ δ) {v : V} {d : DV} (r : RV K μ H v d) (i : Nat) : RS K μ H (σ.set i (some v)) (δ.set i (some d)) := by
  refine ⟨by simpa using h.1, fun j e q => ?_⟩
  by_cases hj : i = j
  · subst hj
    by_cases hl : i < δ.length
    · rw [List.getElem?_set_self hl] at q
      cases q
      exact ⟨v, by rw [List.getElem?_set_self (by rw [h.1]; exact hl)], r⟩
    · rw [List.getElem?_eq_none (by simpa using hl)] at q; cases q
  · rw [List.getElem?_set_ne hj] at q
    obtain ⟨v', a, b⟩ := h.2 j e q
    exact ⟨v', by rw [List.getElem?_set_ne hj]; exact a, b⟩
/-- slots forgotten -/
theorem RS.weak {K : PySem.W.Frag} {μ : Mu} {H : Hp} {σ σ' : L2.St} {δ δ' : DSt} (h : RS K μ H σ δ) (hl : σ'.length = δ'.length) (hw : ∀ (i : Nat) d, δ'[i]? = some (some d) → δ[i]? = some (some d) ∧ σ'[i]? = σ[i]?) : RS K μ H σ' δ' :=
  ⟨hl, fun i d q => let ⟨a, b⟩ := hw i d q; let ⟨v, c, e⟩ := h.2 i d a; ⟨v, b ▸ c, e⟩⟩
theorem RS.start {K : PySem.W.Frag} {μ : Mu} {H : Hp} {N : List Str} {vs : List V} {ds : List DV} (h : RVs K μ H vs ds) : RS K μ H (L2.start N vs) (ds.map some ++ List.replicate (N.length - ds.length) none) := by
  have hl : vs.length = ds.length := Paired.length h
  refine ⟨by simp [L2.start, hl], fun i d q => ?_⟩
  by_cases hi : i < ds.length
  · rw [List.getElem?_append_left (by simpa using hi), List.getElem?_map] at q
    have e : ds[i]? = some d := by
      cases e : ds[i]? with
      | none => rw [e] at q; cases q
      | some x => rw [e] at q; simp at q; rw [q]
    have g : ∀ {vs : List V} {ds : List DV} {i : Nat}, RVs K μ H vs ds → ds[i]? = some d → ∃ v, vs[i]? = some v ∧ RV K μ H v d := by
      intro vs ds i h
      induction h generalizing i with
      | nil => intro e; simp at e
      | cons a t ih =>
        intro e
        cases i with
        | zero => simp at e; subst e; exact ⟨_, rfl, a⟩
        | succ i => obtain ⟨v, h1, h2⟩ := ih (i := i) (by simpa using e); exact ⟨v, by simpa using h1, h2⟩
    obtain ⟨v, h1, h2⟩ := g h e
    refine ⟨v, ?_, h2⟩
    unfold L2.start
    rw [List.getElem?_append_left (by simpa [hl] using hi), List.getElem?_map, h1]
    rfl
  · rw [List.getElem?_append_right (by simpa using hi), List.getElem?_replicate] at q
    split at q <;> cases q

theorem RM.free {K : PySem.W.Frag} {μ : Mu} {H : Hp} (m : RM K μ H) {p : Addr} (h : H p = none) : μ p = none := by
  cases e : μ p with
  | none => rfl
  | some c =>
    have q := m p c e
    cases c with
    | lst ds => obtain ⟨xs, a, _⟩ := q; rw [h] at a; cases a
    | dct kvs => obtain ⟨xs, a, _⟩ := q; rw [h] at a; cases a
    | dtt kvs => obtain ⟨xs, a, _⟩ := q; rw [h] at a; cases a
    | dti kvs => obtain ⟨xs, a, _⟩ := q; rw [h] at a; cases a
theorem ext_new {μ : Mu} {H : Hp} {p : Addr} {o : HO} (h : H p = none) : Ext μ H μ (upd H p o) := Sm.of fun b u e => by
  obtain ⟨e1, e2⟩ := hid_some e
  rw [hid_of e2, upd_ne (ne_of_none e1 h)]
  exact e1
theorem CellOk.mono {K : PySem.W.Frag} {μ μ' : Mu} {H H' : Hp} (e : Ext μ H μ' H') {a : Addr} : ∀ {c : Cell}, CellOk K μ H a c → H' a = H a → CellOk K μ' H' a c
  | .lst _, ⟨xs, h, r⟩, q => ⟨xs, by rw [q]; exact h, r.mono e⟩
  | .dct _, ⟨ks, h, k, r⟩, q => ⟨ks, by rw [q]; exact h, k, r.mono e⟩
  | .dtt _, ⟨ks, h, k, r⟩, q => ⟨ks, by rw [q]; exact h, k, r.mono e⟩
  | .dti _, ⟨xs, h, k, t, r⟩, q => ⟨xs, by rw [q]; exact h, k, fun x hx => same_seqW e (t x hx), r.mono e⟩
theorem RM.new {K : PySem.W.Frag} {μ : Mu} {H : Hp} (m : RM K μ H) {p : Addr} {o : HO} (h : H p = none) : RM K μ (upd H p o) := fun a c e => by
  have hne : a ≠ p := fun z => by subst z; rw [m.free h] at e; cases e
  exact (m a c e).mono (ext_new h) (upd_ne hne)
theorem hid_new {K : PySem.W.Frag} {μ : Mu} {H : Hp} (m : RM K μ H) {p : Addr} {o : HO} (h : H p = none) : hid μ (upd H p o) p = some o := by
  rw [hid_of (m.free h), upd_same]
/-- a new cell -/
theorem ext_cell {μ : Mu} {H : Hp} {p : Addr} {o : HO} {c : Cell} (h : H p = none) : Ext μ H (put μ p c) (upd H p o) := Sm.of fun b u e => by
  obtain ⟨e1, e2⟩ := hid_some e
  have hb : b ≠ p := ne_of_none e1 h
  rw [hid_of (by rw [put_ne hb]; exact e2), upd_ne hb]
  exact e1
theorem RM.cell {K : PySem.W.Frag} {μ : Mu} {H : Hp} (m : RM K μ H) {p : Addr} {o : HO} {c : Cell} (h : H p = none) (hc : CellOk K (put μ p c) (upd H p o) p c) : RM K (put μ p c) (upd H p o) := fun a e q => by
  by_cases ha : a = p
  · subst ha; rw [put_same] at q; cases q; exact hc
  · rw [put_ne ha] at q
    exact (m a e q).mono (ext_cell h) (upd_ne ha)
/-- a cell is written -/
theorem ext_write {μ : Mu} {H : Hp} {p : Addr} {o : HO} {c e : Cell} (h : μ p = some e) : Ext μ H (put μ p c) (upd H p o) := Sm.of fun b u q => by
  obtain ⟨e1, e2⟩ := hid_some q
  have hb : b ≠ p := fun z => by subst z; rw [h] at e2; cases e2
  rw [hid_of (by rw [put_ne hb]; exact e2), upd_ne hb]
  exact e1
theorem RM.write {K : PySem.W.Frag} {μ : Mu} {H : Hp} (m : RM K μ H) {p : Addr} {o : HO} {c e : Cell} (h : μ p = some e) (hc : CellOk K (put μ p c) (upd H p o) p c) : RM K (put μ p c) (upd H p o) := fun a u q => by
  by_cases ha : a = p
  · subst ha; rw [put_same] at q; cases q; exact hc
  · rw [put_ne ha] at q
    exact (m a u q).mono (ext_write h) (upd_ne ha)
/-- a cell becomes data -/
theorem ext_freeze {μ : Mu} {H : Hp} {p : Addr} : Ext μ H (del μ p) H := Sm.of fun b u q => by
  obtain ⟨e1, e2⟩ := hid_some q
  rw [hid_of (by unfold del; split <;> first | rfl | exact e2)]
  exact e1
theorem RM.freeze {K : PySem.W.Frag} {μ : Mu} {H : Hp} (m : RM K μ H) {p : Addr} : RM K (del μ p) H := fun a c q => by
  have ha : a ≠ p := fun z => by subst z; rw [del_same] at q; cases q
  rw [del_ne ha] at q
  exact (m a c q).mono ext_freeze rfl
theorem freeze_lst {K : PySem.W.Frag} {μ : Mu} {H : Hp} (m : RM K μ H) {p : Addr} {ds : List PyData} (h : μ p = some (.lst ds)) : Da K (hid (del μ p) H) (.ref p) (.list ds) := by
  obtain ⟨xs, h1, h2⟩ := m p _ h
  exact .lst (.of (by rw [hid_of del_same]; exact h1)) (h2.mono ext_freeze)
/-- what a sequence's data say of the heap itself -/
theorem unhid {μ : Mu} {H : Hp} : Sm (hid μ H) H := Sm.of fun _ _ h => (hid_some h).1
end DL

namespace DL
open PySem PySem.Spec PyProof.Rows L2

abbrev DK := DV → Mu → Prop
abbrev DT := DSt → Mu → DK → Prop
abbrev DTT := DSt → Mu → (Bool → Mu → Prop) → Prop
abbrev DTA := DSt → Mu → (List DV → Mu → Prop) → Prop
abbrev DTP := DSt → Mu → (Option Int → Mu → Prop) → Prop
structure DEnds where
  nx : DSt → Mu → Prop
  rt : DK
  bk : DSt → Mu → Prop := fun _ _ => False
  ct : DSt → Mu → Prop := fun _ _ => False
abbrev DTS := DEnds → DSt → Mu → Prop
abbrev DTG := DV → DSt → Mu → (DSt → Mu → Prop) → Prop
abbrev DTGs := List DV → DSt → Mu → (DSt → Mu → Prop) → Prop

/-- what a wish over data says of a wish over values -/
def Wk (K : PySem.W.Frag) (μ : Mu) (H : Hp) (Qd : DK) (Q : VK) : Prop := ∀ d μ' v H', Ext μ H μ' H' → RM K μ' H' → RV K μ' H' v d → Qd d μ' → Q v H'
def up (K : PySem.W.Frag) (t : DT) : TE := fun σ H Q => ∃ δ μ Qd, RS K μ H σ δ ∧ RM K μ H ∧ t δ μ Qd ∧ Wk K μ H Qd Q
def upT (K : PySem.W.Frag) (t : DTT) : TT := fun σ H Q => ∃ δ μ Qd, RS K μ H σ δ ∧ RM K μ H ∧ t δ μ Qd ∧ ∀ b μ' H', Ext μ H μ' H' → RM K μ' H' → Qd b μ' → Q b H'
def upA (K : PySem.W.Frag) (t : DTA) : TA := fun σ H Q => ∃ δ μ Qd, RS K μ H σ δ ∧ RM K μ H ∧ t δ μ Qd ∧ ∀ ds μ' vs H', Ext μ H μ' H' → RM K μ' H' → RVs K μ' H' vs ds → Qd ds μ' → Q vs H'
abbrev DE (X : Cx) (e : Expr) (t : DT) : Prop := PE X e (up X.K t)
abbrev DC (X : Cx) (e : Expr) (t : DTT) : Prop := PT X e (upT X.K t)
abbrev DCW (X : Cx) (e : Expr) (t : DTT) : Prop := PW X e (upT X.K t)
abbrev DA (X : Cx) (es : List Expr) (t : DTA) : Prop := PA X es (upA X.K t)

theorem pe_imp {X : Cx} {e : Expr} {t t' : TE} (h : PE X e t) (w : ∀ σ H Q, t' σ H Q → t σ H Q) : PE X e t' := ⟨fun pins s σ H Q I q => h.run pins s σ H Q I (w _ _ _ q)⟩
theorem pt_imp {X : Cx} {e : Expr} {t t' : TT} (h : PT X e t) (w : ∀ σ H Q, t' σ H Q → t σ H Q) : PT X e t' := ⟨fun pins s σ H Q I q => h.run pins s σ H Q I (w _ _ _ q)⟩
theorem pw_imp {X : Cx} {e : Expr} {t t' : TT} (h : PW X e t) (w : ∀ σ H Q, t' σ H Q → t σ H Q) : PW X e t' := ⟨fun wh pins s σ H Q I q => h.run wh pins s σ H Q I (w _ _ _ q)⟩
theorem pa_imp {X : Cx} {e : List Expr} {t t' : TA} (h : PA X e t) (w : ∀ σ H Q, t' σ H Q → t σ H Q) : PA X e t' := ⟨fun pos pins s σ H Q I q => h.run pos pins s σ H Q I (w _ _ _ q)⟩
theorem ps_imp {X : Cx} {e : Stmt} {t t' : TS} (h : PS X e t) (w : ∀ D σ H, t' D σ H → t D σ H) : PS X e t' := ⟨fun pins s σ H D I q => h.run pins s σ H D I (w _ _ _ q)⟩
theorem pss_imp {X : Cx} {e : List Stmt} {t t' : TS} (h : PSs X e t) (w : ∀ D σ H, t' D σ H → t D σ H) : PSs X e t' := ⟨fun pins s σ H D I q => h.run pins s σ H D I (w _ _ _ q)⟩

section
variable {K : PySem.W.Frag} {μ : Mu} {H : Hp} {σ : L2.St} {δ : DSt}
/-- a wish behind a further step -/
theorem Wk.step {Qd : DK} {Q : VK} {μ1 : Mu} {H1 : Hp} (w : Wk K μ H Qd Q) (e : Ext μ H μ1 H1) : Wk K μ1 H1 Qd Q := fun d μ' v H' e' m r q => w d μ' v H' (e.trans e') m r q
/-- use of a part -/
theorem up_use {t : DT} {Qd : DK} {Q : VK} (rs : RS K μ H σ δ) (rm : RM K μ H) (h : t δ μ Qd) (w : Wk K μ H Qd Q) : up K t σ H Q := ⟨δ, μ, Qd, rs, rm, h, w⟩
theorem upT_use {t : DTT} {Qd : Bool → Mu → Prop} {Q : Bool → Hp → Prop} (rs : RS K μ H σ δ) (rm : RM K μ H) (h : t δ μ Qd) (w : ∀ b μ' H', Ext μ H μ' H' → RM K μ' H' → Qd b μ' → Q b H') : upT K t σ H Q := ⟨δ, μ, Qd, rs, rm, h, w⟩
theorem upA_use {t : DTA} {Qd : List DV → Mu → Prop} {Q : List V → Hp → Prop} (rs : RS K μ H σ δ) (rm : RM K μ H) (h : t δ μ Qd) (w : ∀ ds μ' vs H', Ext μ H μ' H' → RM K μ' H' → RVs K μ' H' vs ds → Qd ds μ' → Q vs H') : upA K t σ H Q := ⟨δ, μ, Qd, rs, rm, h, w⟩
end

def dVar (i : Nat) : DT := fun δ μ Q => match δ[i]? with
  | some (some x) => Q x μ
  | _ => False
def dC (x : PyData) : DT := fun _ μ Q => Q (.d x) μ
section
variable {X : Cx} {pos : Pos} {a b c e : Expr} {ta tb tc te : DT}
theorem d_var (i : Nat) {x : Str} (hN : X.N[i]? = some x := by rfl) (hv : Vis X.env.scope x := by first | exact Or.inl rfl | exact Or.inr (Or.inl rfl) | exact Or.inr (Or.inr rfl)) (hd : (x == ("__debug__" : Str)) = false := by decide)
    (hcd : (x == ("__classdict__" : Str)) = false := by decide) : DE X (.Name x pos) (dVar i) := pe_imp (pe_var hN hv hd hcd) fun σ H Q h => by
  obtain ⟨δ, μ, Qd, rs, rm, q, w⟩ := h
  unfold dVar at q
  split at q
  · next x e =>
    obtain ⟨v, h1, h2⟩ := rs.2 i x e
    exact ⟨v, h1, w x μ v H (.refl _ _) rm h2 q⟩
  · exact q.elim
theorem d_const {v : V} {x : PyData} (h : PE X e (tC v)) (r : ∀ K H, Da K H v x) : DE X e (dC x) := pe_imp h fun σ H Q ⟨δ, μ, Qd, rs, rm, q, w⟩ => w (.d x) μ v H (.refl _ _) rm (r _ _) q
theorem d_int {i j} : DE X (.Constant (.int i) j pos) (dC (.int i)) := d_const pe_int fun _ _ => .int i
theorem d_bl {i j} : DE X (.Constant (.bool i) j pos) (dC (.bool i)) := d_const pe_bl fun _ _ => .bl i
theorem d_non {j} : DE X (.Constant .none j pos) (dC .none) := d_const pe_non fun _ _ => .non
abbrev DR2 := DV → DV → Mu → DK → Prop
abbrev DR1 := DV → Mu → DK → Prop
def dOp (r : DR2) (ta tb : DT) : DT := fun δ μ Q => ta δ μ fun x μ1 => tb δ μ1 fun y μ2 => r x y μ2 Q
def dUn (r : DR1) (ta : DT) : DT := fun δ μ Q => ta δ μ fun x μ1 => r x μ1 Q
/-- rd over data leads to rv over values -/
def Up2 (K : PySem.W.Frag) (rd : DR2) (rv : R2) : Prop := ∀ x y μ Qd v u H Q, RM K μ H → RV K μ H v x → RV K μ H u y → rd x y μ Qd → Wk K μ H Qd Q → rv v u H Q
theorem up_op {rd : DR2} {rv : R2} (h : Up2 X.K rd rv) : ∀ σ H Q, up X.K (dOp rd ta tb) σ H Q → tOp rv (up X.K ta) (up X.K tb) σ H Q := fun σ H Q ⟨δ, μ, Qd, rs, rm, q, w⟩ =>
  up_use rs rm q fun x μ1 v H1 e1 m1 r1 q1 => up_use (rs.mono e1) m1 q1 fun y μ2 u H2 e2 m2 r2 q2 => h x y μ2 Qd v u H2 Q m2 (r1.mono e2) r2 q2 (w.step (e1.trans e2))
theorem d_op {op : Operator} {rd : DR2} {rv : R2} (ho : OpR X (binaryOp op) rv) (h : Up2 X.K rd rv) (ha : DE X a ta) (hb : DE X b tb) : DE X (.BinOp a op b pos) (dOp rd ta tb) := pe_imp (pe_op ho ha hb) (up_op h)
theorem d_cmp {op : CmpOp} {rd : DR2} {rv : R2} (ho : OpR X (compareOp op) rv) (h : Up2 X.K rd rv) (ha : DE X a ta) (hb : DE X b tb) (hm : behindInMarks op b = false) : DE X (.Compare a [op] [b] pos) (dOp rd ta tb) := pe_imp (pe_cmpR ho ha hb hm) (up_op h)
theorem d_ix {rd : DR2} {rv : R2} (ho : IxR X rv) (h : Up2 X.K rd rv) (ha : DE X a ta) (hb : DE X b tb) (hs : PlainIx b) : DE X (.Subscript a b pos) (dOp rd ta tb) := pe_imp (pe_ix ho ha hb hs) (up_op h)
/-- ints in, under C, data out -/
def rdI (C : Int → Int → Prop) (g : Int → Int → PyData) : DR2 := fun x y μ Q => match x, y with
  | .d (.int i), .d (.int j) => C i j ∧ Q (.d (g i j)) μ
  | _, _ => False
def rdI0 (g : Int → Int → PyData) : DR2 := fun x y μ Q => match x, y with
  | .d (.int i), .d (.int j) => Q (.d (g i j)) μ
  | _, _ => False
def rdU (g : Int → PyData) : DR1 := fun x μ Q => match x with
  | .d (.int i) => Q (.d (g i)) μ
  | _ => False
/-- the bits together within the line -/
def Bits (i j : Int) : Prop := Builtin.Int.intBits i + Builtin.Int.intBits j < 100000000
theorem Bits.ok {i j : Int} (h : Bits i j) : IntMulOk i j := by
  unfold Bits at h
  have e : bitsLine = 134217728 := by decide
  unfold IntMulOk
  intro z
  rw [Bool.and_eq_true] at z
  have z2 := z.2
  unfold Builtin.Int.intTooBig at z2
  have z3 := of_decide_eq_true z2
  rw [e] at z3
  omega
theorem op_mulB : OpR X (binaryOp .Mult) (rI Bits fun i j => .int (i * j)) := opI fun _ _ _ _ _ _ _ hc q => mul_int q hc.ok
def CPowB (i j : Int) : Prop := 0 ≤ j ∧ (Builtin.Int.intBits i : Int) * j ≤ 2 ^ 27
theorem op_powB : OpR X (binaryOp .Pow) (rI CPowB fun i j => .int (i ^ j.toNat)) := opI fun _ _ _ _ _ _ _ hc q => pow_int hc.1 hc.2 q
abbrev cLt : DR2 := rdI0 fun i j => .bool (decide (i < j))
abbrev cLe : DR2 := rdI0 fun i j => .bool (decide (i ≤ j))
abbrev cGt : DR2 := rdI0 fun i j => .bool (decide (j < i))
abbrev cGe : DR2 := rdI0 fun i j => .bool (decide (j ≤ i))
/-- a < b < c -/
def dChain (r r' : DR2) (ta tb tc : DT) : DT := fun δ μ Q => ta δ μ fun x μ1 => tb δ μ1 fun y μ2 => r x y μ2 fun z μ3 => match z with
  | .d (.bool true) => tc δ μ3 fun w μ4 => r' y w μ4 Q
  | .d (.bool false) => Q (.d (.bool false)) μ3
  | _ => False
theorem d_chain {op op' : CmpOp} {rd rd' : DR2} {rv rv' : R2} (ho : OpR X (compareOp op) rv) (h : Up2 X.K rd rv) (ho' : OpR X (compareOp op') rv') (h' : Up2 X.K rd' rv') (ha : DE X a ta) (hb : DE X b tb) (hc : DE X c tc) (hm : lastMarks [op, op'] [b, c] = false := by with_unfolding_all rfl) :
    DE X (.Compare a [op, op'] [b, c] pos) (dChain rd rd' ta tb tc) := pe_imp (pe_chain ho ho' ha hb hc hm) fun σ H Q ⟨δ, μ, Qd, rs, rm, q, w⟩ =>
  up_use rs rm q fun x μ1 v H1 e1 m1 r1 q1 => up_use (rs.mono e1) m1 q1 fun y μ2 u H2 e2 m2 r2 q2 => h x y μ2 _ v u H2 _ m2 (r1.mono e2) r2 q2 fun z μ3 p H3 e3 m3 r3 q3 => by
    split at q3
    · cases r3
      exact ⟨true, rfl, by
        rw [if_pos rfl]
        exact up_use (rs.mono (e1.trans (e2.trans e3))) m3 q3 fun k μ4 w' H4 e4 m4 r4 q4 => h' y k μ4 Qd u w' H4 Q m4 (r2.mono (e3.trans e4)) r4 q4 (w.step (e1.trans (e2.trans (e3.trans e4))))⟩
    · cases r3
      refine ⟨false, rfl, ?_⟩
      rw [if_neg Bool.false_ne_true]
      exact w (.d (.bool false)) μ3 _ H3 (e1.trans (e2.trans e3)) m3 (Da.bl false) q3
    · exact q3.elim

def dB (t : DT) : DTT := fun δ μ Q => t δ μ fun x μ1 => match x with
  | .d (.bool b) => Q b μ1
  | _ => False
theorem c_cmp {op : CmpOp} {rd : DR2} {rv : R2} (ho : OpR X (compareOp op) rv) (h : Up2 X.K rd rv) (ha : DE X a ta) (hb : DE X b tb) (hm : behindInMarks op b = false) : DC X (.Compare a [op] [b] pos) (dB (dOp rd ta tb)) :=
  pt_imp (pt_cmpR ho ha hb hm) fun σ H Q ⟨δ, μ, Qd, rs, rm, q, w⟩ => up_op h σ H _ ⟨δ, μ, _, rs, rm, q, fun x μ1 v H1 e1 m1 r1 q1 => by
    split at q1
    · cases r1
      exact ⟨_, rfl, w _ μ1 H1 e1 m1 q1⟩
    · exact q1.elim⟩
variable {rest : List Expr}
variable {tA tB : DTT}
def dAnd (t u : DTT) : DTT := fun δ μ Q => t δ μ fun b μ1 => if b = true then u δ μ1 Q else Q false μ1
def dOr (t u : DTT) : DTT := fun δ μ Q => t δ μ fun b μ1 => if b = true then Q true μ1 else u δ μ1 Q
def dNot (t : DTT) : DTT := fun δ μ Q => t δ μ fun b μ1 => Q (!b) μ1
theorem cw_and1 (ha : DC X a tA) : DCW X (.BoolOp .And [a] pos) tA := pw_and1 ha
theorem cw_or1 (ha : DC X a tA) : DCW X (.BoolOp .Or [a] pos) tA := pw_or1 ha
theorem cw_and (ha : DC X a tA) (hb : DCW X (.BoolOp .And (b :: rest) pos) tB) : DCW X (.BoolOp .And (a :: b :: rest) pos) (dAnd tA tB) := pw_imp (pw_and ha hb) fun σ H Q ⟨δ, μ, Qd, rs, rm, q, w⟩ =>
  upT_use rs rm q fun c μ1 H1 e1 m1 q1 => by
    cases c with
    | true => rw [if_pos rfl] at q1 ⊢; exact upT_use (rs.mono e1) m1 q1 fun d μ2 H2 e2 m2 q2 => w d μ2 H2 (e1.trans e2) m2 q2
    | false => rw [if_neg Bool.false_ne_true] at q1 ⊢; exact w _ μ1 H1 e1 m1 q1
theorem cw_or (ha : DC X a tA) (hb : DCW X (.BoolOp .Or (b :: rest) pos) tB) : DCW X (.BoolOp .Or (a :: b :: rest) pos) (dOr tA tB) := pw_imp (pw_or ha hb) fun σ H Q ⟨δ, μ, Qd, rs, rm, q, w⟩ =>
  upT_use rs rm q fun c μ1 H1 e1 m1 q1 => by
    cases c with
    | true => rw [if_pos rfl] at q1 ⊢; exact w _ μ1 H1 e1 m1 q1
    | false => rw [if_neg Bool.false_ne_true] at q1 ⊢; exact upT_use (rs.mono e1) m1 q1 fun d μ2 H2 e2 m2 q2 => w d μ2 H2 (e1.trans e2) m2 q2
theorem c_w (h : DCW X e tA) : DC X e tA := h.pt
theorem c_not (ha : DC X a tA) : DC X (.UnaryOp .Not a pos) (dNot tA) := pt_imp (pt_not ha) fun σ H Q ⟨δ, μ, Qd, rs, rm, q, w⟩ =>
  upT_use rs rm q fun c μ1 H1 e1 m1 q1 => w _ μ1 H1 e1 m1 q1
/-- and, or, not as values (all True or False but the last) -/
def dAndV (ta tb : DT) : DT := fun δ μ Q => ta δ μ fun x μ1 => match x with
  | .d (.bool true) => tb δ μ1 Q
  | .d (.bool false) => Q (.d (.bool false)) μ1
  | _ => False
def dOrV (ta tb : DT) : DT := fun δ μ Q => ta δ μ fun x μ1 => match x with
  | .d (.bool true) => Q (.d (.bool true)) μ1
  | .d (.bool false) => tb δ μ1 Q
  | _ => False
def dNotV (ta : DT) : DT := fun δ μ Q => ta δ μ fun x μ1 => match x with
  | .d (.bool b) => Q (.d (.bool (!b))) μ1
  | _ => False
theorem d_one {op} (h : DE X a ta) : DE X (.BoolOp op [a] pos) ta := pe_one h
def dIf (t : DTT) (ta tb : DT) : DT := fun δ μ Q => t δ μ fun c μ1 => if c = true then ta δ μ1 Q else tb δ μ1 Q
theorem d_if (hc : DC X c tA) (ha : DE X a ta) (hb : DE X b tb) : DE X (.IfExp c a b pos) (dIf tA ta tb) := pe_imp (pe_ifExp hc ha hb) fun σ H Q ⟨δ, μ, Qd, rs, rm, q, w⟩ =>
  upT_use rs rm q fun x μ1 H1 e1 m1 q1 => by
    cases x with
    | true => rw [if_pos rfl] at q1 ⊢; exact up_use (rs.mono e1) m1 q1 (w.step e1)
    | false => rw [if_neg Bool.false_ne_true] at q1 ⊢; exact up_use (rs.mono e1) m1 q1 (w.step e1)
/-- is None -/
def isNone : PyData → Bool
  | .none => true
  | _ => false
def rdIsN : DR2 := fun x y μ Q => match x, y with
  | .d x, .d .none => Q (.d (.bool (isNone x))) μ
  | _, _ => False
def rdNotN : DR2 := fun x y μ Q => match x, y with
  | .d x, .d .none => Q (.d (.bool (!isNone x))) μ
  | _, _ => False

def aNil : DTA := fun _ μ Q => Q [] μ
def aCons (ta : DT) (tr : DTA) : DTA := fun δ μ Q => ta δ μ fun x μ1 => tr δ μ1 fun xs μ2 => Q (x :: xs) μ2
variable {es : List Expr} {tr : DTA}
theorem a_nil : DA X [] aNil := pa_imp pa_nil fun σ H Q ⟨δ, μ, Qd, rs, rm, q, w⟩ => w [] μ [] H (.refl _ _) rm .nil q
theorem a_cons (ha : DE X e te) (hr : DA X es tr) (hs : starEach (e :: es) X.env = (false, eval e X.env) :: starEach es X.env := by rfl) : DA X (e :: es) (aCons te tr) :=
  pa_imp (pa_cons ha hr hs) fun σ H Q ⟨δ, μ, Qd, rs, rm, q, w⟩ => up_use rs rm q fun x μ1 v H1 e1 m1 r1 q1 => upA_use (rs.mono e1) m1 q1 fun xs μ2 vs H2 e2 m2 r2 q2 =>
    w (x :: xs) μ2 (v :: vs) H2 (e1.trans e2) m2 (.cons (r1.mono e2) r2) q2
/-- all data -/
def allD : List DV → Option (List PyData)
  | [] => some []
  | .d x :: r => (allD r).map (x :: ·)
  | .cell _ :: _ => none
theorem allD_da {K : PySem.W.Frag} {μ : Mu} {H : Hp} : ∀ {ds : List DV} {vs : List V} {xs : List PyData}, allD ds = some xs → RVs K μ H vs ds → DaAll K (hid μ H) vs xs
  | [], _, _, h, .nil => by cases h; exact .nil
  | .d x :: r, _, _, h, .cons a t => by
    simp only [allD, Option.map_eq_some_iff] at h
    obtain ⟨y, h1, rfl⟩ := h
    exact .cons a (allD_da h1 t)
  | .cell _ :: _, _, _, h, _ => by cases h
def dTup (t : DTA) : DT := fun δ μ Q => t δ μ fun ds μ1 => match allD ds with
  | some xs => xs.length ≤ 1000 ∧ Q (.d (.tuple xs)) μ1
  | none => False
def dLst (t : DTA) : DT := fun δ μ Q => t δ μ fun ds μ1 => match allD ds with
  | some xs => xs.length ≤ 1000 ∧ Q (.d (.list xs)) μ1
  | none => False
/-- a list that will be changed -/
def dLstC (t : DTA) : DT := fun δ μ Q => t δ μ fun ds μ1 => match allD ds with
  | some xs => xs.length ≤ 1000 ∧ ∀ p, μ1 p = none → Q (.cell p) (put μ1 p (.lst xs))
  | none => False
theorem small_line {n : Nat} (h : n ≤ 1000) : n ≤ sizeLine := Nat.le_of_lt (small1000 h)
/-- the wish behind a new object that is data -/
theorem wk_tup {K : PySem.W.Frag} {μ : Mu} {H : Hp} {Qd : DK} {Q : VK} {vs : List V} {xs : List PyData} (w : Wk K μ H Qd Q) (m : RM K μ H) (r : DaAll K (hid μ H) vs xs) (q : Qd (.d (.tuple xs)) μ) : NewT H vs Q := fun p o hp t =>
  w (.d (.tuple xs)) μ _ _ (ext_new hp) (m.new hp) (.tup (.inl ⟨o, hid_new m hp, t⟩) (r.mono (ext_new hp))) q
theorem wk_lst {K : PySem.W.Frag} {μ : Mu} {H : Hp} {Qd : DK} {Q : VK} {vs : List V} {xs : List PyData} (w : Wk K μ H Qd Q) (m : RM K μ H) (r : DaAll K (hid μ H) vs xs) (q : Qd (.d (.list xs)) μ) {p : Addr} (hp : H p = none) : Q (.ref p) (upd H p (.lst vs)) :=
  w (.d (.list xs)) μ _ _ (ext_new hp) (m.new hp) (.lst (.of (hid_new m hp)) (r.mono (ext_new hp))) q
theorem wk_lstC {K : PySem.W.Frag} {μ : Mu} {H : Hp} {Qd : DK} {Q : VK} {vs : List V} {xs : List PyData} (w : Wk K μ H Qd Q) (m : RM K μ H) (r : DaAll K (hid μ H) vs xs) {p : Addr} (hp : H p = none) (q : Qd (.cell p) (put μ p (.lst xs))) : Q (.ref p) (upd H p (.lst vs)) :=
  w (.cell p) (put μ p (.lst xs)) _ _ (ext_cell hp) (m.cell (c := .lst xs) hp ⟨vs, upd_same, r.mono (ext_cell hp)⟩) rfl q
theorem d_tup {x1} (h : DA X es tr) : DE X (.Tuple es x1 pos) (dTup tr) := pe_imp (pt_tup h) fun σ H Q ⟨δ, μ, Qd, rs, rm, q, w⟩ => upA_use rs rm q fun xs μ1 vs H1 e1 m1 r1 q1 => by
  split at q1
  · next ys e =>
    have r := allD_da e r1
    exact ⟨small_line (by rw [r.length]; exact q1.1), wk_tup (w.step e1) m1 r q1.2⟩
  · exact q1.elim
theorem d_lst (h : DA X es tr) : DE X (.List es pos) (dLst tr) := pe_imp (pe_lst h) fun σ H Q ⟨δ, μ, Qd, rs, rm, q, w⟩ => upA_use rs rm q fun xs μ1 vs H1 e1 m1 r1 q1 => by
  split at q1
  · next ys e =>
    have r := allD_da e r1
    exact ⟨small_line (by rw [r.length]; exact q1.1), fun p hp => wk_lst (w.step e1) m1 r q1.2 hp⟩
  · exact q1.elim
theorem d_lstC (h : DA X es tr) : DE X (.List es pos) (dLstC tr) := pe_imp (pe_lst h) fun σ H Q ⟨δ, μ, Qd, rs, rm, q, w⟩ => upA_use rs rm q fun xs μ1 vs H1 e1 m1 r1 q1 => by
  split at q1
  · next ys e =>
    have r := allD_da e r1
    exact ⟨small_line (by rw [r.length]; exact q1.1), fun p hp => wk_lstC (w.step e1) m1 r hp (q1.2 p (m1.free hp))⟩
  · exact q1.elim

abbrev DRA := List DV → Mu → DK → Prop
def dCall (r : DRA) (t : DTA) : DT := fun δ μ Q => t δ μ fun ds μ1 => r ds μ1 Q
def UpA (K : PySem.W.Frag) (rd : DRA) (rv : List V → Hp → VK → Prop) : Prop := ∀ ds μ Qd vs H Q, RM K μ H → RVs K μ H vs ds → rd ds μ Qd → Wk K μ H Qd Q → rv vs H Q
variable {x : Str} {p : Pos} {id T : String} {rd : DRA} {rv : List V → Hp → VK → Prop}
theorem up_call (h : UpA X.K rd rv) : ∀ σ H Q, up X.K (dCall rd tr) σ H Q → tCB rv (upA X.K tr) σ H Q := fun σ H Q ⟨δ, μ, Qd, rs, rm, q, w⟩ =>
  upA_use rs rm q fun ds μ1 vs H1 e1 m1 r1 q1 => h ds μ1 Qd vs H1 Q m1 r1 q1 (w.step e1)
theorem d_callB (hc : CallR X (.builtin id) rv) (h : UpA X.K rd rv) (hg : Gl X x) (hm : X.mg x = none) (hv : bootBuiltins x = some (.builtin id)) (ha : DA X (e :: es) tr) (hn : x ≠ "__name__" := by decide) (hdb : (x == ("__debug__" : Str)) = false := by decide)
    (he : starEach (e :: es) X.env = (false, eval e X.env) :: starEach es X.env := by rfl) (hpl : (backTo pos (starEach es X.env)).any (·.1) = false := by rfl) : DE X (.Call (.Name x p) (e :: es) [] pos) (dCall rd tr) :=
  pe_imp (pe_callB hc hg hm hv ha hn hdb he hpl) (up_call h)
theorem d_callTy (hc : CallR X (.type T) rv) (h : UpA X.K rd rv) (hg : Gl X x) (hm : X.mg x = none) (hv : bootBuiltins x = some (.type T)) (ha : DA X (e :: es) tr) (hn : x ≠ "__name__" := by decide) (hdb : (x == ("__debug__" : Str)) = false := by decide)
    (he : starEach (e :: es) X.env = (false, eval e X.env) :: starEach es X.env := by rfl) (hpl : (backTo pos (starEach es X.env)).any (·.1) = false := by rfl) : DE X (.Call (.Name x p) (e :: es) [] pos) (dCall rd tr) :=
  pe_imp (pe_callTy hc hg hm hv ha hn hdb he hpl) (up_call h)
end
end DL

namespace DL
open PySem PySem.Spec PyProof.Rows L2
section
variable {X : Cx} {pos : Pos} {a b c e : Expr} {ta tb tc te : DT} {K : PySem.W.Frag}

def rdEq : DR2 := fun x y μ Q => match x, y with
  | .d (.int i), .d (.int j) => Q (.d (.bool (decide (i = j)))) μ
  | .d (.str i), .d (.str j) => Q (.d (.bool (decide (i = j)))) μ
  | .d (.bool i), .d (.bool j) => Q (.d (.bool (decide (i = j)))) μ
  | _, _ => False
def rdNe : DR2 := fun x y μ Q => match x, y with
  | .d (.int i), .d (.int j) => Q (.d (.bool (!decide (i = j)))) μ
  | .d (.str i), .d (.str j) => Q (.d (.bool (!decide (i = j)))) μ
  | .d (.bool i), .d (.bool j) => Q (.d (.bool (!decide (i = j)))) μ
  | _, _ => False
theorem dec_str {i j : Str} : decide (V.str i = V.str j) = decide (i = j) := by
  rw [Bool.eq_iff_iff]; simp
theorem dec_int2 {i j : Int} : decide (V.int i = V.int j) = decide (i = j) := by
  rw [Bool.eq_iff_iff]; simp
theorem dec_bl2 {i j : Bool} : decide (V.bl i = V.bl j) = decide (i = j) := by
  rw [Bool.eq_iff_iff]; simp
mutual
theorem Da.dp {H : Hp} : ∀ {v : V} {d : PyData}, Da K H v d → d.canLay0 = true → Dp K H v d
  | _, _, .non, _ => .non
  | _, _, .bl b, _ => .bl b
  | _, _, .int i, _ => .int i
  | _, _, .str x, _ => .str x
  | _, _, .lst (ds := ds) h r, c => .lst h (DaAll.dp r (by simpa [PyData.canLay0] using c))
  | _, _, .tup (ds := ds) h r, c => .tup h.t (DaAll.dp r (by simpa [PyData.canLay0] using c))
  | _, _, .dct h r, c => by simp [PyData.canLay0] at c
  | _, _, .opq h _, c => by simp [PyData.canLay0] at c
theorem DaAll.dp {H : Hp} : ∀ {vs : List V} {ds : List PyData}, DaAll K H vs ds → PyData.canLayAll0 ds = true → DpAll K H vs ds
  | _, _, .nil, _ => .nil
  | _, _, .cons h t, c => by
    simp only [PyData.canLayAll0, Bool.and_eq_true] at c
    exact .cons (Da.dp h c.1) (DaAll.dp t c.2)
end
def intsOf : List PyData → Option (List Int)
  | [] => some []
  | .int i :: r => (intsOf r).map (i :: ·)
  | _ :: _ => none
theorem intsOf_map : ∀ (ns : List Int), intsOf (ns.map PyData.int) = some ns
  | [] => rfl
  | n :: ns => by simp [intsOf, intsOf_map ns]
theorem intsOf_some : ∀ {ds : List PyData} {ns : List Int}, intsOf ds = some ns → ds = ns.map PyData.int
  | [], _, h => by cases h; rfl
  | d :: ds, ns, h => by
    cases d <;> simp only [intsOf, Option.map_eq_some_iff, reduceCtorEq] at h
    obtain ⟨ms, h1, rfl⟩ := h
    rw [intsOf_some h1]; rfl
/-- the items of a sequence -/
def seqOf (μ : Mu) : DV → Option (List PyData)
  | .d (.list xs) => some xs
  | .d (.tuple xs) => some xs
  | .cell a => match μ a with
    | some (.lst xs) => some xs
    | _ => none
  | _ => none
def rdIn : DR2 := fun x y μ Q => match x, (seqOf μ y).bind intsOf with
  | .d (.int i), some ns => Q (.d (.bool (decide (i ∈ ns)))) μ
  | _, _ => False
def rdIx : DR2 := fun x y μ Q => match seqOf μ x, y with
  | some xs, .d (.int i) => match atI xs i with
    | some d => Q (.d d) μ
    | none => False
  | _, _ => False
theorem atI_da {H : Hp} {vs : List V} {ds : List PyData} (r : DaAll K H vs ds) {i : Int} {d : PyData} (h : atI ds i = some d) : ∃ v, atI vs i = some v ∧ Da K H v d := by
  unfold atI at h ⊢
  rw [Option.bind_eq_some_iff] at h
  obtain ⟨j, h1, h2⟩ := h
  obtain ⟨v, h3, h4⟩ := r.get h2
  exact ⟨v, by rw [r.length, h1]; exact h3, h4⟩
/-- an optional bound -/
def dNo : DTP := fun _ μ Q => Q none μ
def dPart (t : DT) : DTP := fun δ μ Q => t δ μ fun x μ1 => match x with
  | .d (.int i) => Q (some i) μ1
  | _ => False
abbrev TPo := L2.St → Hp → (Option Int → Hp → Prop) → Prop
def upP (K : PySem.W.Frag) (t : DTP) : TPo := fun σ H Q => ∃ δ μ Qd, RS K μ H σ δ ∧ RM K μ H ∧ t δ μ Qd ∧ ∀ o μ' H', Ext μ H μ' H' → RM K μ' H' → Qd o μ' → Q o H'
abbrev DPO (X : Cx) (o : Option Expr) (t : DTP) : Prop := PO X o (upP X.K t)
theorem po_imp {o : Option Expr} {t t' : TPo} (h : PO X o t) (w : ∀ σ H Q, t' σ H Q → t σ H Q) : PO X o t' := ⟨fun pins s σ H Q I q => h.run pins s σ H Q I (w _ _ _ q)⟩
theorem o_no : DPO X none dNo := po_imp po_none fun σ H Q ⟨δ, μ, Qd, rs, rm, q, w⟩ => w none μ H (.refl _ _) rm q
theorem o_some (h : DE X e te) : DPO X (some e) (dPart te) := po_imp (po_some h) fun σ H Q ⟨δ, μ, Qd, rs, rm, q, w⟩ => up_use rs rm q fun x μ1 v H1 e1 m1 r1 q1 => by
  split at q1
  · cases r1; exact ⟨_, rfl, w _ μ1 H1 e1 m1 q1⟩
  · exact q1.elim
end
end DL

namespace DL
open PySem PySem.Spec PyProof.Rows L2
section
variable {X : Cx} {pos : Pos} {a b c e : Expr} {ta tb tc te : DT} {K : PySem.W.Frag}

def cutD (xs : List PyData) (lo hi : Option Int) : List PyData := (xs.drop (HT.sIx xs.length 0 lo)).take (HT.sIx xs.length xs.length hi - HT.sIx xs.length 0 lo)
theorem cut_da {H : Hp} {vs : List V} {ds : List PyData} (r : DaAll K H vs ds) (lo hi : Option Int) : DaAll K H (cutV vs lo hi) (cutD ds lo hi) := by
  unfold cutV cutD
  rw [r.length]
  exact (r.drop _).take _
theorem cut_whole {H : Hp} {vs : List V} {ds : List PyData} (r : DaAll K H vs ds) {lo hi : Option Int} (h : HT.sIx vs.length 0 lo = 0 ∧ HT.sIx vs.length vs.length hi = vs.length) : cutD ds lo hi = ds := by
  rw [r.length] at h
  unfold cutD
  rw [h.1, h.2]
  simp
abbrev DRS := DV → Option Int → Option Int → Mu → DK → Prop
def dSl (te : DT) (tl th : DTP) : DT := fun δ μ Q => te δ μ fun x μ1 => tl δ μ1 fun l μ2 => th δ μ2 fun u μ3 => match x with
  | .d (.list xs) => Q (.d (.list (cutD xs l u))) μ3
  | .d (.tuple xs) => Q (.d (.tuple (cutD xs l u))) μ3
  | .cell a => match μ3 a with
    | some (.lst xs) => Q (.d (.list (cutD xs l u))) μ3
    | _ => False
  | _ => False
theorem d_slice {lo hi : Option Expr} {tl th : DTP} {p2 : Pos} (he : DE X e te) (hl : DPO X lo tl) (hu : DPO X hi th) : DE X (.Subscript e (.Slice lo hi none p2) pos) (dSl te tl th) :=
  pe_imp (pe_slice (SlR.or sl_list slP_tup) he hl hu) fun σ H Q ⟨δ, μ, Qd, rs, rm, q, w⟩ =>
    up_use rs rm q fun x μ1 v H1 e1 m1 r1 q1 => ⟨δ, μ1, _, rs.mono e1, m1, q1, fun l μ2 H2 e2 m2 q2 => ⟨δ, μ2, _, rs.mono (e1.trans e2), m2, q2, fun u μ3 H3 e3 m3 q3 => by
      have r3 := r1.mono (e2.trans e3)
      have w3 := w.step (e1.trans (e2.trans e3))
      have lst : ∀ {p : Addr} {vs : List V} {xs : List PyData}, SqL X.K H3 p vs → DaAll X.K (hid μ3 H3) vs xs → Qd (.d (.list (cutD xs l u))) μ3 → rSlL X.K (.ref p) l u H3 Q := fun {p vs xs} s t q => ⟨p, vs, rfl, s, fun p' hp => wk_lst w3 m3 (cut_da t l u) q hp⟩
      split at q3
      · next xs =>
        cases (show Da X.K (hid μ3 H3) v (.list xs) from r3) with
        | lst s t => exact .inl (lst (unhid.seq s) t q3)
      · next xs =>
        cases (show Da X.K (hid μ3 H3) v (.tuple xs) from r3) with
        | @tup p vs _ s t =>
          refine .inr ⟨p, vs, rfl, same_seqT unhid s, fun hw => ?_, fun _ => wk_tup w3 m3 (cut_da t l u) q3⟩
          rw [cut_whole t hw] at q3
          exact w3 (.d (.tuple xs)) μ3 _ H3 (.refl _ _) m3 (Da.tup s t) q3
      · next a =>
        split at q3
        · next xs e =>
          obtain ⟨vs, h1, h2⟩ := m3 a _ e
          cases (show v = .ref a from r3)
          exact .inl (lst (.of h1) h2 q3)
        · exact q3.elim
      · exact q3.elim⟩⟩

variable {es : List Expr} {tr : DTA}
def rdLen : DRA := fun ds μ Q => match ds with
  | [x] => match seqOf μ x with
    | some xs => Q (.d (.int xs.length)) μ
    | none => False
  | _ => False
def rdTuple : DRA := fun ds μ Q => match ds with
  | [x] => match seqOf μ x with
    | some xs => Q (.d (.tuple xs)) μ
    | none => False
  | _ => False
def rdList : DRA := fun ds μ Q => match ds with
  | [x] => match seqOf μ x with
    | some xs => Q (.d (.list xs)) μ
    | none => False
  | _ => False
/-- ints of a list, for sum -/
def rdSum : DRA := fun ds μ Q => match ds with
  | [.d (.list xs)] => match intsOf xs with
    | some ns => Q (.d (.int ns.sum)) μ
    | none => False
  | _ => False
def boolsOf : List PyData → Option (List Bool)
  | [] => some []
  | .bool i :: r => (boolsOf r).map (i :: ·)
  | _ :: _ => none
theorem boolsOf_map : ∀ (ns : List Bool), boolsOf (ns.map PyData.bool) = some ns
  | [] => rfl
  | n :: ns => by simp [boolsOf, boolsOf_map ns]
theorem boolsOf_some : ∀ {ds : List PyData} {ns : List Bool}, boolsOf ds = some ns → ds = ns.map PyData.bool
  | [], _, h => by cases h; rfl
  | d :: ds, ns, h => by
    cases d <;> simp only [boolsOf, Option.map_eq_some_iff, reduceCtorEq] at h
    obtain ⟨ms, h1, rfl⟩ := h
    rw [boolsOf_some h1]; rfl
theorem bools_inv {H : Hp} : ∀ {ns : List Bool} {vs : List V}, DaAll K H vs (ns.map PyData.bool) → vs = ns.map V.bl
  | [], _, h => by cases h; rfl
  | n :: ns, _, h => by
    cases h with
    | cons a t => cases a; rw [bools_inv t]; rfl
def rdAll : DRA := fun ds μ Q => match ds with
  | [.d (.list xs)] => match boolsOf xs with
    | some bs => Q (.d (.bool (bs.all id))) μ
    | none => False
  | _ => False
def rdAny : DRA := fun ds μ Q => match ds with
  | [.d (.list xs)] => match boolsOf xs with
    | some bs => Q (.d (.bool (bs.any id))) μ
    | none => False
  | _ => False
def rdAbs : DRA := fun ds μ Q => match ds with
  | [.d (.int i)] => Q (.d (.int (if i < 0 then -i else i))) μ
  | _ => False
def rdMax2 : DRA := fun ds μ Q => match ds with
  | [.d (.int i), .d (.int j)] => Q (.d (.int (if j > i then j else i))) μ
  | _ => False
def rdMin2 : DRA := fun ds μ Q => match ds with
  | [.d (.int i), .d (.int j)] => Q (.d (.int (if j < i then j else i))) μ
  | _ => False
def rdInt : DRA := fun ds μ Q => match ds with
  | [.d (.int i)] => Q (.d (.int i)) μ
  | [.d (.bool k)] => Q (.d (.int (if k then 1 else 0))) μ
  | _ => False
def rdStr : DRA := fun ds μ Q => match ds with
  | [.d (.int i)] => i.natAbs.log2 < 1920 ∧ Q (.d (.str (toString i))) μ
  | _ => False
def kindOf : PyData → String
  | .none => "NoneType"
  | .bool _ => "bool"
  | .int _ => "int"
  | .str _ => "str"
  | .list _ => "list"
  | .tuple _ => "tuple"
  | .dict _ => "dict"
def TyL (K : PySem.W.Frag) (H : Hp) (x : V) (t : Value) : Prop := TyX K H x t ∨ ∃ p xs, x = .ref p ∧ H p = some (dtiO p xs) ∧ t = .type "dict"
theorem call_isiL {X : Cx} : CallR X (.builtin "isinstance") (fun xs H Q => ∃ (x c : V) (t u : Value) (b : Bool), xs = [x, c] ∧ ClsV c u ∧ TyL X.K H x t ∧ PySem.W.kitOne X.K t u = some b ∧ Q (.bl b) H) := by
  intro pins s σ H xs us Q I r h
  obtain ⟨x, c, t, u, b, rfl, k, ty, e, q⟩ := h
  obtain ⟨u1, u2, rfl, r1, r2⟩ := vals2 r
  have e2 := k.eq r2
  subst e2
  rcases ty with ty | ⟨p, ys, rfl, hp, rfl⟩
  · obtain ⟨P, Z, p, hx⟩ := kit_of I r1 ty
    exact PySem.W.kia_one Z I.kIn p e hx fun tk => ⟨.bl b, H, I.tok tk, rfl, q⟩
  · cases (show u1 = Value.ref p from r1)
    obtain ⟨⟨_, _, _, _, o, _, _, _, h1, h2, _⟩, _⟩ := (show ObjOk X.prog X.w H s.heap p (dtiO p ys) from I.hok p _ hp)
    exact PySem.W.kia_one PySem.W.kitx_dict I.kIn ⟨o, h1, h2.1⟩ e (fun z => nomatch z) fun tk => ⟨.bl b, H, I.tok tk, rfl, q⟩
theorem da_ty {H : Hp} {v : V} {d : PyData} (r : Da K H v d) : TyL K H v (.type (kindOf d)) := by
  cases r with
  | non => exact .inl <| .base .non
  | bl b => exact .inl <| .base (.bl b)
  | int i => exact .inl <| .base (.int i)
  | str x => exact .inl <| .base (.str x)
  | lst s t =>
    rcases s with (s | ⟨o, s⟩) | ⟨o, _, _, h1, h2, _⟩
    · exact .inl <| .base (.lst s)
    · exact .inl <| .base (.frz s)
    · exact .inl <| .kList h1 h2
  | tup s t =>
    rcases s with ⟨o, s, _⟩ | ⟨o, _, _, h1, h2, _⟩
    · exact .inl <| .fTuple s
    · exact .inl <| .kTuple h1 h2.cl
  | dct s t =>
    rcases s with s | ⟨o, s⟩
    · exact .inl <| .base (.dK s)
    · exact .inl <| .fDict s
  | opq s q =>
    cases q with
    | t kvs => exact .inl <| .base (.dT s)
    | i xs => exact .inr ⟨_, xs, rfl, s, rfl⟩
def dIsi (T : String) (te : DT) : DT := fun δ μ Q => te δ μ fun x μ1 => match x with
  | .d d => Q (.d (.bool ((kitB (kindOf d) T).getD false))) μ1
  | _ => False
theorem kit_all (T : String) (hT : ∀ t ∈ ["NoneType", "bool", "int", "str", "list", "tuple", "dict"], (kitB t T).isSome = true) (d : PyData) : PySem.W.kitOne K (.type (kindOf d)) (.type T) = some ((kitB (kindOf d) T).getD false) := by
  refine kit_ty ?_
  have h : (kitB (kindOf d) T).isSome = true := hT _ (by cases d <;> simp [kindOf])
  cases e : kitB (kindOf d) T with
  | none => rw [e] at h; cases h
  | some b => rfl
theorem d_isi {T : String} {xi xt : Str} {p pt : Pos} (hT : ∀ t ∈ ["NoneType", "bool", "int", "str", "list", "tuple", "dict"], (kitB t T).isSome = true) (hg : Gl X xi) (hm : X.mg xi = none) (hv : bootBuiltins xi = some (.builtin "isinstance"))
    (hgt : Gl X xt) (hmt : X.mg xt = none) (hvt : bootBuiltins xt = some (.type T)) (ha : DE X a ta) (hn : xi ≠ "__name__" := by decide) (hdb : (xi == ("__debug__" : Str)) = false := by decide) (hnt : xt ≠ "__name__" := by decide) (hdbt : (xt == ("__debug__" : Str)) = false := by decide)
    (he : starEach [a, .Name xt pt] X.env = (false, eval a X.env) :: starEach [.Name xt pt] X.env := by rfl) (hpl : (backTo pos (starEach [.Name xt pt] X.env)).any (·.1) = false := by rfl) (hs1 : starEach [.Name xt pt] X.env = (false, eval (.Name xt pt) X.env) :: starEach [] X.env := by rfl) :
    DE X (.Call (.Name xi p) [a, .Name xt pt] [] pos) (dIsi T ta) :=
  pe_imp (pe_callB call_isiL hg hm hv (pa_cons ha (pa_cons (pe_bltn (v := .ty T) hgt hmt hvt rfl hnt hdbt) pa_nil hs1) he) hn hdb he hpl) fun σ H Q ⟨δ, μ, Qd, rs, rm, q, w⟩ =>
    up_use rs rm q fun x μ1 v H1 e1 m1 r1 q1 => by
      split at q1
      · next d =>
        exact ⟨v, .ty T, .type (kindOf d), .type T, _, rfl, .ty T, da_ty (Da.mono unhid r1), kit_all T hT d, w (.d (.bool _)) μ1 _ H1 e1 m1 (Da.bl _) q1⟩
      · exact q1.elim
end
end DL

namespace DL
open PySem PySem.Spec PyProof.Rows L2

mutual
def noList : PyData → Bool
  | .list _ => false
  | .tuple xs => noListAll xs
  | .dict kvs => noListKv kvs
  | _ => true
def noListAll : List PyData → Bool
  | [] => true
  | x :: xs => noList x && noListAll xs
def noListKv : List (PyData × PyData) → Bool
  | [] => true
  | (_, v) :: r => noList v && noListKv r
end
theorem noListKv_vals : ∀ (ks : List PyData) (ds : List PyData), ks.length = ds.length → noListKv (ks.zip ds) = true → noListAll ds = true
  | [], [], _, _ => by simp [noListAll]
  | k :: ks, d :: ds, hl, h => by
    simp only [List.zip_cons_cons, noListKv, Bool.and_eq_true] at h
    simp only [noListAll, Bool.and_eq_true]
    exact ⟨h.1, noListKv_vals ks ds (by simpa using hl) h.2⟩
  | [], _ :: _, hl, _ => by simp at hl
  | _ :: _, [], hl, _ => by simp at hl
theorem mix_keys {P : Program} {w : World} {k : Key} {v : Value} (h : (mixKind P w).is k v = true) : RelV (kV k) v := by
  rcases keyIs_shape h with ⟨i, t, rfl, rfl⟩ | ⟨x, t, rfl, rfl⟩
  · exact ⟨t, rfl⟩
  · exact ⟨t, rfl⟩
theorem reads_key {h : Heap} {k : Key} {v : Value} (r : RelV (kV k) v) : Reads h v (kD k) [] := by
  cases k with
  | inl i => obtain ⟨t, rfl⟩ := r; exact .int i t
  | inr x => obtain ⟨t, rfl⟩ := r; exact .str x t
theorem pairs_keys {P : Program} {w : World} {h : Heap} : ∀ {es : List DictEntry} {kvs : List (Key × Value)}, Pairs (mixKind P w) es kvs → ReadsAll h (es.map (·.key)) (kvs.map fun p => kD p.1) []
  | _, _, .nil => .nil
  | _, _, .cons a b t => ReadsAll.cons (as := []) (bs := []) (reads_key (mix_keys a)) (pairs_keys t)
theorem pairs_vals {P : Program} {w : World} : ∀ {es : List DictEntry} {kvs : List (Key × Value)}, Pairs (mixKind P w) es kvs → es.map (·.val) = kvs.map (·.2)
  | _, _, .nil => rfl
  | _, _, .cons a b t => by rw [List.map_cons, List.map_cons, b, pairs_vals t]
theorem kv_parts : ∀ {ks : List (Key × V)} {vs : List (Key × Value)}, KV ks vs → ks.map (·.1) = vs.map (·.1) ∧ Vals (ks.map (·.2)) (vs.map (·.2))
  | _, _, .nil => ⟨rfl, .nil⟩
  | _, _, .cons a t => by
    obtain ⟨h1, h2⟩ := kv_parts t
    exact ⟨by rw [List.map_cons, List.map_cons, h1, a.1], .cons a.2 h2⟩
section
variable {X : Cx} {pins : List (Addr × Obj)} {σ : L2.St} {H : Hp} {s : Shared}
mutual
theorem Da.reads (I : Inv X pins σ H s) : ∀ {v : V} {d : PyData}, Da X.K H v d → (d.hasDict = false ∨ noList d = true) → ∀ (u : Value), RelV v u → ∃ as, Reads s.heap u d as ∧ (noList d = true → sysModules ∉ as)
  | _, _, .non, _, _, r => by
    cases r
    exact ⟨_, .none, fun _ => by simp⟩
  | _, _, .bl b, _, _, r => by
    cases r
    exact ⟨_, .bool b, fun _ => by simp⟩
  | _, _, .int i, _, _, r => by
    obtain ⟨t, rfl⟩ := r
    exact ⟨_, .int i t, fun _ => by simp⟩
  | _, _, .str x, _, _, r => by
    obtain ⟨t, rfl⟩ := r
    exact ⟨_, .str x t, fun _ => by simp⟩
  | _, _, .lst hs ha, gd, _, r => by
    cases r
    obtain ⟨its, rv, ⟨o, n, ho, hc, _, hd⟩, _⟩ := I.list hs
    obtain ⟨as, hr, _⟩ := DaAll.reads I ha (.inl (gd.elim (fun z => by simpa only [PyData.hasDict] using z) (fun z => by simp [noList] at z))) its rv
    exact ⟨_, .list ho hc hd hr, fun z => by simp [noList] at z⟩
  | _, _, .tup hs ha, gd, _, r => by
    cases r
    obtain ⟨its, rv, ⟨o, ho, hc, n, hd⟩, _⟩ := I.tuple hs.t
    obtain ⟨as, hr, hm⟩ := DaAll.reads I ha (gd.imp (fun z => by simpa only [PyData.hasDict] using z) (fun z => by simpa only [noList] using z)) its rv
    exact ⟨_, .tuple ho hc hd hr, fun z => hm (by simpa only [noList] using z)⟩
  | _, _, .opq h _, gd, _, r => by
    rcases gd with z | z
    · simp [PyData.hasDict] at z
    · simp [noList, noListKv] at z
  | _, _, .dct (a := a) (kvs := ks) (ds := ds) he ha, gd, _, r => by
    cases r
    obtain ⟨_, hz, vs, rel, o, es, ep, ho, hx, hd, hko, hp, hnd⟩ := dk_rd I.hok he
    obtain ⟨e1, e2⟩ := kv_parts rel
    have lk : (ks.map fun p => kD p.1).length = ds.length := by rw [List.length_map, ← ha.length, List.length_map]
    have gd2 : noListAll ds = true := by
      rcases gd with z | z
      · simp [PyData.hasDict] at z
      · exact noListKv_vals _ _ lk (by simpa only [noList] using z)
    obtain ⟨as, hr, hm⟩ := DaAll.reads I ha (.inr gd2) (vs.map (·.2)) e2
    have f1 : ((ks.map fun p => kD p.1).zip ds).map (·.1) = ks.map fun p => kD p.1 := by rw [List.map_fst_zip]; omega
    have f2 : ((ks.map fun p => kD p.1).zip ds).map (·.2) = ds := by rw [List.map_snd_zip]; omega
    have kk : (ks.map fun p => kD p.1) = vs.map fun p => kD p.1 := by
      have e := congrArg (List.map kD) e1
      simpa [List.map_map, Function.comp_def] using e
    refine ⟨a :: [] ++ as, .dict ho hx.1 hd (by rw [f1, kk]; exact pairs_keys hp) (by rw [f2, pairs_vals hp]; exact hr), fun z => ?_⟩
    have z2 := hm (noListKv_vals _ _ lk (by simpa only [noList] using z))
    intro hmem
    rcases List.mem_cons.mp hmem with e | e
    · rw [← e] at hz; simp at hz
    · exact z2 e
theorem DaAll.reads (I : Inv X pins σ H s) : ∀ {vs : List V} {ds : List PyData}, DaAll X.K H vs ds → (PyData.hasDictAll ds = false ∨ noListAll ds = true) → ∀ (us : List Value), Vals vs us → ∃ as, ReadsAll s.heap us ds as ∧ (noListAll ds = true → sysModules ∉ as)
  | _, _, .nil, _, _, r => by
    cases r
    exact ⟨_, .nil, fun _ => by simp⟩
  | _, _, .cons h1 h2, gd, _, r => by
    cases r with
    | cons r1 r2 =>
      have g1 := gd.imp (fun z => by simp only [PyData.hasDictAll, Bool.or_eq_false_iff] at z; exact z.1) (fun z => by simp only [noListAll, Bool.and_eq_true] at z; exact z.1)
      have g2 := gd.imp (fun z => by simp only [PyData.hasDictAll, Bool.or_eq_false_iff] at z; exact z.2) (fun z => by simp only [noListAll, Bool.and_eq_true] at z; exact z.2)
      obtain ⟨as, q1, m1⟩ := Da.reads I h1 g1 _ r1
      obtain ⟨bs, q2, m2⟩ := DaAll.reads I h2 g2 _ r2
      refine ⟨_, .cons q1 q2, fun z => ?_⟩
      simp only [noListAll, Bool.and_eq_true] at z
      intro hm
      rcases List.mem_append.mp hm with e | e
      · exact m1 z.1 e
      · exact m2 z.2 e
end

/-- a dict that holds no further dict -/
def FlatDict (d : PyData) : Prop := ∃ kvs, d = .dict kvs ∧ PyData.hasDictAll (kvs.map (·.1)) = false ∧ PyData.hasDictAll (kvs.map (·.2)) = false
section flat
variable {prog : Program} {w : World} {H0 : Heap} {ad : Addr} {kvs : List (PyData × PyData)}
/-- a dict of the heap as it is read: it is not the table of the modules -/
def FlatAt (H0 : Heap) (ad : Addr) (kvs : List (PyData × PyData)) : Prop :=
  ∃ (ob : Obj) (es : Array DictEntry) (ln : Nat) (xs ys : List Addr), H0.get? ad = some ob ∧ ob.cls = .type "dict" ∧ ob.data = .dict es ln ∧
    ReadsAll H0 (es.toList.map (·.key)) (kvs.map (·.1)) xs ∧ ReadsAll H0 (es.toList.map (·.val)) (kvs.map (·.2)) ys ∧ (ad == sysModules) = false
theorem parts_flat {us : List Value} {ds : List PyData} {xs : List Addr} (r : ReadsAll H0 us ds xs) (no : PyData.hasDictAll ds = false) (sh : PyData.showableAll ds = true) (fits : ∀ t ∈ PyData.shownAll ds, t.length ≤ sizeLine) :
    ∃ deep, ReadAtMost H0 (PyData.depthAll ds) deep ∧ ReprAllK prog w deep H0 (PyData.depthAll ds) us (PyData.shownAll ds) :=
  ReprAllK.of_readsAll r sh (fun yes => absurd yes (by simp only [no, Bool.false_eq_true, not_false_eq_true])) fits
theorem repr_flat {A : Around} {E Q : Value → Shared → Prop} {s : Shared} (f : FlatAt H0 ad kvs) (nk : PyData.hasDictAll (kvs.map (·.1)) = false) (nv : PyData.hasDictAll (kvs.map (·.2)) = false)
    (sh : (PyData.dict kvs).showable = true) (sz : (PyData.dict kvs).shown.length ≤ sizeLine) (free : A.guards = some []) (room : A.units + ((PyData.dict kvs).depth + 1) < cLine) (keep : ∀ b o, H0.get? b = some o → s.heap.get? b = some o)
    (after : ∀ h2 u tk, (∀ b o, s.heap.get? b = some o → h2.get? b = some o) → Q (.str (PyData.dict kvs).shown u) { s with heap := h2, toks := tk }) : wpAny (model prog w) A (call (.builtin "repr") [.ref ad]) Q E s := by
  obtain ⟨ob, es, ln, xs, ys, g1, g2, g3, rk, rv, apart⟩ := f
  obtain ⟨shk, shv⟩ := PyData.showableKv_split kvs (by simpa only [PyData.showable] using sh)
  have whole : (dictText (PyData.shownKv kvs)).length ≤ sizeLine := by
    simpa only [PyData.shown] using sz
  have pk := parts_flat (prog := prog) (w := w) rk nk shk fun t ht => by
    obtain ⟨q, hq, le⟩ := PyData.shownKv_key_le kvs t ht
    exact Nat.le_trans (Nat.le_trans le (dictText_mem_le hq)) whole
  have pv := parts_flat (prog := prog) (w := w) rv nv shv fun t ht => by
    obtain ⟨q, hq, le⟩ := PyData.shownKv_val_le kvs t ht
    exact Nat.le_trans (Nat.le_trans le (dictText_mem_le hq)) whole
  obtain ⟨dk, atk, tk1⟩ := pk
  obtain ⟨dv, atv, tv1⟩ := pv
  have inner := (atk.mono (PyData.depthAll_keys_le kvs)).append (atv.mono (PyData.depthAll_vals_le kvs))
  have out : ad ∉ dk ++ dv := not_mem_of_deeper (Reads.dict g1 g2 g3 rk rv) (by rw [PyData.depth]; exact Nat.lt_succ_self _) inner
  have ents := ReprEntriesK.of_two es.toList _ _ (tk1.more_le (as' := dk ++ dv) (fun _ h => List.mem_append.mpr (.inl h)) (PyData.depthAll_keys_le kvs)) (tv1.more_le (as' := dk ++ dv) (fun _ h => List.mem_append.mpr (.inr h)) (PyData.depthAll_vals_le kvs))
  have dp : (PyData.dict kvs).depth = PyData.depthKv kvs + 1 := by rw [PyData.depth]
  rw [dp] at room
  refine call_repr_slot (by omega) ⟨ob, keep _ _ g1, g2⟩ F.slot_dict_repr ?_
  refine call_dict_reprK g1 g2 g3 apart out ents free (fun _ _ => Clear.nil _) (by show A.units + 1 + _ < cLine; omega) keep (fun h2 u tk hk => ?_) (by rw [← PyData.shownKv_eq]; exact whole)
  have q := after h2 u tk hk
  simp only [PyData.shown, PyData.shownKv_eq] at q
  exact ⟨_, _, rfl, q⟩
end flat
/-- what repr asks -/
structure Show (d : PyData) : Prop where
  sh : d.showable = true
  sz : d.shown.length ≤ sizeLine
  dp : d.depth ≤ 60
  mx : d.hasDict = true → noList d = true ∨ FlatDict d
def rdRepr : DRA := fun ds μ Q => match ds with
  | [.d d] => Show d ∧ Q (.d (.str d.shown)) μ
  | _ => False
def rRepr (K : PySem.W.Frag) : List V → Hp → VK → Prop := fun xs H Q => ∃ x d, xs = [x] ∧ Da K H x d ∧ Show d ∧ Q (.str d.shown) H
theorem call_repr (hg : X.A.guards = some []) (hu : X.A.units + 64 < cLine) : CallR X (.builtin "repr") (rRepr X.K) := by
  intro pins s σ H xs us Q I r h
  obtain ⟨x, d, rfl, hd, S, q⟩ := h
  obtain ⟨u, rfl, ru⟩ := vals1 r
  have Sd := S.dp
  cases hd with
  | non => cases ru; exact PySem.P.repr_of_none ⟨.str _, H, I.tok _, ⟨_, rfl⟩, q⟩
  | bl b => cases ru; exact PySem.P.repr_of_bool ⟨.str _, H, I.tok _, ⟨_, rfl⟩, by simpa only [PyData.shown] using q⟩
  | int i =>
    obtain ⟨t, rfl⟩ := ru
    exact PySem.P.repr_of_int (by have z := S.sh; simpa [PyData.showable] using z) ⟨.str _, H, I.tok _, ⟨_, rfl⟩, q⟩
  | str y =>
    obtain ⟨t, rfl⟩ := ru
    exact PySem.P.repr_of_str ⟨.str _, H, I.tok _, ⟨_, rfl⟩, q⟩ (by have z := S.sz; simpa only [PyData.shown] using z)
  | lst s t =>
    cases ru
    obtain ⟨as, hr, hm⟩ := Da.reads I (Da.lst s t) (show _ ∨ _ from (Bool.eq_false_or_eq_true _).elim (fun z => (S.mx z).elim .inr fun ⟨_, z2, _⟩ => by cases z2) .inl) _ rfl
    exact repr_of_reads' hr S.sh (fun z => hm ((S.mx z).resolve_right nofun)) hg (by omega) (fun _ _ e => e) (fun h' u tk hk => ⟨.str _, H, I.kept hk, ⟨_, rfl⟩, q⟩) S.sz
  | tup s t =>
    cases ru
    obtain ⟨as, hr, hm⟩ := Da.reads I (Da.tup s t) (show _ ∨ _ from (Bool.eq_false_or_eq_true _).elim (fun z => (S.mx z).elim .inr fun ⟨_, z2, _⟩ => by cases z2) .inl) _ rfl
    exact repr_of_reads' hr S.sh (fun z => hm ((S.mx z).resolve_right nofun)) hg (by omega) (fun _ _ e => e) (fun h' u tk hk => ⟨.str _, H, I.kept hk, ⟨_, rfl⟩, q⟩) S.sz
  | @dct a ks ds he ha =>
    cases ru
    rcases S.mx (by simp only [PyData.hasDict]) with mx | ⟨kvs, ek, n1, n2⟩
    · obtain ⟨as, hr, hm⟩ := Da.reads I (Da.dct he ha) (.inr mx) _ rfl
      exact repr_of_reads' hr S.sh (fun _ => hm mx) hg (by omega) (fun _ _ e => e) (fun h' u tk hk => ⟨.str _, H, I.kept hk, ⟨_, rfl⟩, q⟩) S.sz
    · obtain ⟨_, hz, vs, rel, o, es, ep, ho, hx, hd, hko, hp, hnd⟩ := dk_rd I.hok he
      obtain ⟨e1, e2⟩ := kv_parts rel
      have lk : (ks.map fun p => kD p.1).length = ds.length := by rw [List.length_map, ← ha.length, List.length_map]
      have gd2 : PyData.hasDictAll ds = false := by
        injection ek with ek
        rw [← ek, List.map_snd_zip (by omega)] at n2
        exact n2
      obtain ⟨as, hr, _⟩ := DaAll.reads I ha (.inl gd2) (vs.map (·.2)) e2
      have f1 : ((ks.map fun p => kD p.1).zip ds).map (·.1) = ks.map fun p => kD p.1 := by rw [List.map_fst_zip]; omega
      have f2 : ((ks.map fun p => kD p.1).zip ds).map (·.2) = ds := by rw [List.map_snd_zip]; omega
      have kk : (ks.map fun p => kD p.1) = vs.map fun p => kD p.1 := by
        have e := congrArg (List.map kD) e1
        simpa [List.map_map, Function.comp_def] using e
      injection ek with ek
      subst ek
      exact repr_flat ⟨_, _, _, [], as, ho, hx.1, hd, by rw [f1, kk]; exact pairs_keys hp, by rw [f2, pairs_vals hp]; exact hr, hz⟩ n1 n2 S.sh S.sz hg (by omega) (fun _ _ e => e) fun h2 u tk hk => ⟨.str _, H, I.kept hk, ⟨_, rfl⟩, q⟩
  | opq s _ =>
    rcases S.mx (by simp only [PyData.hasDict]) with mx | ⟨kvs, ek, n1, n2⟩
    · simp [noList, noListKv] at mx
    · injection ek with ek
      subst ek
      simp [PyData.hasDictAll, PyData.hasDict] at n1
end
end DL

namespace DL
open PySem PySem.Spec PyProof.Rows L2

structure EndsOk (K : PySem.W.Frag) (μ : Mu) (H : Hp) (Dd : DEnds) (D : Ends) : Prop where
  nx : ∀ δ' μ' σ' H', Ext μ H μ' H' → RM K μ' H' → RS K μ' H' σ' δ' → Dd.nx δ' μ' → D.nx σ' H'
  rt : Wk K μ H Dd.rt D.rt
  bk : ∀ δ' μ' σ' H', Ext μ H μ' H' → RM K μ' H' → RS K μ' H' σ' δ' → Dd.bk δ' μ' → D.bk σ' H'
  ct : ∀ δ' μ' σ' H', Ext μ H μ' H' → RM K μ' H' → RS K μ' H' σ' δ' → Dd.ct δ' μ' → D.ct σ' H'
theorem EndsOk.step {K : PySem.W.Frag} {μ μ1 : Mu} {H H1 : Hp} {Dd : DEnds} {D : Ends} (h : EndsOk K μ H Dd D) (e : Ext μ H μ1 H1) : EndsOk K μ1 H1 Dd D :=
  ⟨fun δ' μ' σ' H' x => h.nx δ' μ' σ' H' (e.trans x), h.rt.step e, fun δ' μ' σ' H' x => h.bk δ' μ' σ' H' (e.trans x), fun δ' μ' σ' H' x => h.ct δ' μ' σ' H' (e.trans x)⟩
def upS (K : PySem.W.Frag) (t : DTS) : TS := fun D σ H => ∃ δ μ Dd, RS K μ H σ δ ∧ RM K μ H ∧ t Dd δ μ ∧ EndsOk K μ H Dd D
abbrev DS (X : Cx) (st : Stmt) (t : DTS) : Prop := PS X st (upS X.K t)
abbrev DSs (X : Cx) (st : List Stmt) (t : DTS) : Prop := PSs X st (upS X.K t)
def upG (b : Bool) (K : PySem.W.Frag) (g : DTG) : TG := fun v σ H Q => ∃ δ μ d Qd, RS K μ H σ δ ∧ RM K μ H ∧ RVb b K μ H v d ∧ g d δ μ Qd ∧ ∀ δ' μ' σ' H', Ext μ H μ' H' → RM K μ' H' → RS K μ' H' σ' δ' → Qd δ' μ' → Q σ' H'
abbrev DG (b : Bool) (X : Cx) (tg : Expr) (g : DTG) : Prop := PG X tg (upG b X.K g)
theorem pg_imp {X : Cx} {e : Expr} {t t' : TG} (h : PG X e t) (w : ∀ v σ H Q, t' v σ H Q → t v σ H Q) : PG X e t' := ⟨fun pins s σ H v u Q I r q => h.run pins s σ H v u Q I r (w _ _ _ _ q)⟩
section
variable {X : Cx} {pos : Pos} {a b c e : Expr} {ta tb tc te : DT} {K : PySem.W.Frag} {st : Stmt} {rest : List Stmt} {t u : DTS}
def sNext : DTS := fun D δ μ => D.nx δ μ
def sSeq (t u : DTS) : DTS := fun D δ μ => t { D with nx := u D } δ μ
theorem s_nil : DSs X [] sNext := pss_imp pss_nil fun D σ H ⟨δ, μ, Dd, rs, rm, q, w⟩ => w.nx δ μ σ H (.refl _ _) rm rs q
theorem s_cons (h1 : DS X st t) (h2 : DSs X rest u) : DSs X (st :: rest) (sSeq t u) := pss_imp (pss_cons h1 h2) fun D σ H ⟨δ, μ, Dd, rs, rm, q, w⟩ =>
  ⟨δ, μ, _, rs, rm, q, ⟨fun δ' μ' σ' H' e m r z => ⟨δ', μ', Dd, r, m, z, w.step e⟩, w.rt, w.bk, w.ct⟩⟩
theorem s_one (h1 : DS X st t) : DSs X [st] t := pss_one h1
def sBreak : DTS := fun D δ μ => D.bk δ μ
def sCont : DTS := fun D δ μ => D.ct δ μ
def sRet (te : DT) : DTS := fun D δ μ => te δ μ D.rt
theorem s_ret (he : DE X e te) : DS X (.Return (some e) pos) (sRet te) := ps_imp (ps_ret he) fun D σ H ⟨δ, μ, Dd, rs, rm, q, w⟩ => up_use rs rm q w.rt
def sDrop (te : DT) : DTS := fun D δ μ => te δ μ fun _ μ1 => D.nx δ μ1
theorem s_expr (he : DE X e te) (hs : swapsWith e none pos.line X.env = pure false := by rfl) : DS X (.Expr e pos) (sDrop te) := ps_imp (ps_expr he hs) fun D σ H ⟨δ, μ, Dd, rs, rm, q, w⟩ =>
  up_use rs rm q fun x μ1 v H1 e1 m1 r1 q1 => w.nx δ μ1 σ H1 e1 m1 (rs.mono e1) q1
def sIf (c : DTT) (t u : DTS) : DTS := fun D δ μ => c δ μ fun b μ1 => if b = true then t D δ μ1 else u D δ μ1
theorem s_if {tC : DTT} {as bs : List Stmt} (hc : DC X c tC) (ha : DSs X as t) (hb : DSs X bs u) : DS X (.If c as bs pos) (sIf tC t u) := ps_imp (ps_if hc ha hb) fun D σ H ⟨δ, μ, Dd, rs, rm, q, w⟩ =>
  upT_use rs rm q fun k μ1 H1 e1 m1 q1 => by
    cases k with
    | true => rw [if_pos rfl] at q1 ⊢; exact ⟨δ, μ1, Dd, rs.mono e1, m1, q1, w.step e1⟩
    | false => rw [if_neg Bool.false_ne_true] at q1 ⊢; exact ⟨δ, μ1, Dd, rs.mono e1, m1, q1, w.step e1⟩
/-- a way that is never gone -/
def sNever : DTS := fun _ _ _ => False
theorem s_never : DS X st sNever := ps_imp ps_never fun _ _ _ ⟨_, _, _, _, _, q, _⟩ => q.elim
def gdName (i : Nat) : DTG := fun d δ μ Q => Q (δ.set i (some d)) μ
theorem g_name {i : Nat} {x : Str} (hN : X.N.Nodup) (hi : X.N[i]? = some x) (hx : Loc X.env.scope x) (hf : X.fn x = true ∨ X.env.scope.names.lookup x = some .local := by first | exact .inl rfl | exact .inr rfl | assumption) : DG true X (.Name x pos) (gdName i) :=
  pg_imp (pg_name hN hi hx hf) fun v σ H Q ⟨δ, μ, d, Qd, rs, rm, r, q, w⟩ => w _ μ _ H (.refl _ _) rm (rs.set r.rv i) q
/-- two, three names from a tuple (or a list) -/
def setAll : List Nat → List PyData → DSt → DSt
  | i :: is, d :: ds, δ => setAll is ds (δ.set i (some (.d d)))
  | _, _, δ => δ
def gdTup (is : List Nat) : DTG := fun d δ μ Q => match d with
  | .d (.tuple xs) => xs.length = is.length ∧ Q (setAll is xs δ) μ
  | _ => False
/-- the same over values -/
def gNames : List Nat → TGs
  | [] => gNil
  | i :: is => gCons (gName i) (gNames is)
theorem gNames_use : ∀ {is : List Nat} {vs : List V} {xs : List PyData} {μ : Mu} {H : Hp} {σ : L2.St} {δ : DSt} {Q : L2.St → Hp → Prop}, DaAll K (hid μ H) vs xs → xs.length = is.length → RS K μ H σ δ → (∀ σ', RS K μ H σ' (setAll is xs δ) → Q σ' H) → gNames is vs σ H Q
  | [], _, _, _, _, _, _, _, r, hl, rs, q => by
    cases r with
    | nil => exact ⟨rfl, q _ rs⟩
    | cons _ _ => simp at hl
  | i :: is, _, _, _, _, _, _, _, r, hl, rs, q => by
    cases r with
    | nil => simp at hl
    | @cons v vs d ds a t => exact ⟨v, vs, rfl, gNames_use t (by simpa using hl) (rs.set (d := .d d) a i) q⟩
theorem pgs_name2 {i : Nat} {is : List Nat} {x : Str} {es : List Expr} {p : Pos} (h1 : PG X (.Name x p) (gName i)) (h2 : PGs X es (gNames is))
    (hs : (assignEach (.Name x p :: es) X.env).map (·.2) = assign (.Name x p) X.env :: (assignEach es X.env).map (·.2) := by rfl) : PGs X (.Name x p :: es) (gNames (i :: is)) := pgs_cons h1 h2 hs
theorem g_tup {bb : Bool} {es : List Expr} {k : Nat} {is : List Nat} (hc : X.calm = true) (h : PGs X es (gNames is))
    (hn : (assignEach es X.env).length = is.length := by rfl) (hst : (assignEach es X.env).findIdx? (·.1) = none := by rfl) : DG bb X (.Tuple es k pos) (gdTup is) :=
  pg_imp (pg_tup hc h hn hst) fun v σ H Q ⟨δ, μ, d, Qd, rs, rm, r, q, w⟩ => by
    unfold gdTup at q
    split at q
    · next xs =>
      obtain ⟨a, vs, rfl, s, t⟩ := DaI.tup (DaB.i (show DaB bb X.K (hid μ H) v (.tuple xs) from r))
      exact ⟨a, vs, rfl, same_seqW unhid s, by rw [t.length, q.1], gNames_use t q.1 rs fun σ' rs' => w _ μ σ' H (.refl _ _) rm rs' q.2⟩
    · exact q.elim
def sAsg (te : DT) (g : DTG) : DTS := fun D δ μ => te δ μ fun x μ1 => g x δ μ1 D.nx
theorem s_asg {tg : Expr} {g : DTG} (he : DE X e te) (hg : DG true X tg g) (hs : swapsWithSole [tg] e pos.line X.env = pure false := by rfl) (hw : swappedStores [tg] e X.env = pure none := by rfl)
    (h1 : (assignEach [tg] X.env).map (·.2) = [assign tg X.env] := by rfl) : DS X (.Assign [tg] e pos) (sAsg te g) := ps_imp (ps_asg he hg hs hw h1) fun D σ H ⟨δ, μ, Dd, rs, rm, q, w⟩ =>
  up_use rs rm q fun x μ1 v H1 e1 m1 r1 q1 => ⟨δ, μ1, x, Dd.nx, rs.mono e1, m1, r1.rvb, q1, fun δ' μ' σ' H' e' m' r' z => w.nx δ' μ' σ' H' (e1.trans e') m' r' z⟩
theorem s_set {i : Nat} {x : Str} {pos' : Pos} (hN : X.N.Nodup) (hi : X.N[i]? = some x) (hx : Loc X.env.scope x) (he : DE X e te) (hs : swapsWith e (some (.Name x pos')) pos.line X.env = pure false := by rfl) (hf : X.fn x = true ∨ X.env.scope.names.lookup x = some .local := by first | exact .inl rfl | exact .inr rfl | assumption) :
    DS X (.Assign [.Name x pos'] e pos) (sAsg te (gdName i)) := ps_imp (ps_set hN hi hx he hs hf) fun D σ H ⟨δ, μ, Dd, rs, rm, q, w⟩ =>
  up_use rs rm q fun x μ1 v H1 e1 m1 r1 q1 => w.nx _ μ1 _ H1 e1 m1 ((rs.mono e1).set r1 i) q1
/-- a, b = x, y (two plain locals) -/
def sPar (i j : Nat) (ta : DTA) : DTS := fun D δ μ => ta δ μ fun ds μ1 => match ds with
  | [x, y] => D.nx ((δ.set i (some x)).set j (some y)) μ1
  | _ => False
theorem s_par {i j : Nat} {x y : Str} {tA : DTA} {px py pt : Pos} {kt k2 pt2} (hc : X.calm = true) (hN : X.N.Nodup) (hi : X.N[i]? = some x) (hj : X.N[j]? = some y) (hij : i ≠ j)
    (hx : X.env.scope.names.lookup x = some .local) (hy : X.env.scope.names.lookup y = some .local) (ha : DA X [a, b] tA)
    (hw : swappedStores [.Tuple [.Name x px, .Name y py] kt pt] (.Tuple [a, b] k2 pt2) X.env = pure (some [x, y]))
    (hs : swapsWithSole [.Tuple [.Name x px, .Name y py] kt pt] (.Tuple [a, b] k2 pt2) pos.line X.env = pure false := by rfl) :
    DS X (.Assign [.Tuple [.Name x px, .Name y py] kt pt] (.Tuple [a, b] k2 pt2) pos) (sPar i j tA) := ps_imp (ps_par hc hN hi hj hij hx hy ha hw hs) fun D σ H ⟨δ, μ, Dd, rs, rm, q, w⟩ =>
  upA_use rs rm q fun ds μ1 vs H1 e1 m1 r1 q1 => by
    split at q1
    · next x y =>
      cases r1 with
      | cons r t =>
        cases t with
        | cons r' t =>
          cases t
          exact ⟨_, _, rfl, w.nx _ μ1 _ H1 e1 m1 (((rs.mono e1).set r i).set r' j) q1⟩
    · exact q1.elim
/-- o[i] = e, o a cell that is a list -/
def rdSetL : DV → DV → DV → Mu → (Mu → Prop) → Prop := fun o i v μ Q => match o, i, v with
  | .cell p, .d (.int k), .d x => match μ p with
    | some (.lst xs) => match ixN xs.length k with
      | some j => Q (put μ p (.lst (xs.set j x)))
      | none => False
    | _ => False
  | _, _, _ => False
def gdSub (to ti : DT) (r : DV → DV → DV → Mu → (Mu → Prop) → Prop) : DTG := fun v δ μ Q => to δ μ fun o μ1 => ti δ μ1 fun i μ2 => r o i v μ2 fun μ3 => Q δ μ3
end
end DL

namespace DL
open PySem PySem.Spec PyProof.Rows L2
section
variable {X : Cx} {pos : Pos} {a b c e tg iter : Expr} {ta tb tc te : DT} {K : PySem.W.Frag}

abbrev DTI := DSt → Mu → (List PyData → Mu → Prop) → Prop
def Walk (b : Bool) (K : PySem.W.Frag) (μ0 : Mu) (H0 : Hp) (J : It) (ds : List PyData) : Prop := ∀ i μ H, Ext μ0 H0 μ H → RM K μ H →
  (∀ d, ds[i]? = some d → J.go i H ∧ ∀ x H', J.yld i H x H' → Ext μ H μ H' ∧ RM K μ H' ∧ DaB b K (hid μ H') x d) ∧ (ds[i]? = none → J.stop i H)
def upI (b : Bool) (K : PySem.W.Frag) (wi : DTI) : TI := fun σ H R => ∃ δ μ Qd, RS K μ H σ δ ∧ RM K μ H ∧ wi δ μ Qd ∧ ∀ ds μ' H' J, Ext μ H μ' H' → RM K μ' H' → Walk b K μ' H' J ds → Qd ds μ' → R J H'
abbrev DI (b : Bool) (X : Cx) (tg iter : Expr) (wi : DTI) : Prop := PI X tg iter (upI b X.K wi)
theorem pi_imp {t t' : TI} (h : PI X tg iter t) (w : ∀ σ H R, t' σ H R → t σ H R) : PI X tg iter t' := ⟨fun pins s σ H R I q => h.run pins s σ H R I (w _ _ _ q)⟩
theorem walk_list {μ : Mu} {H : Hp} {p : Addr} {vs : List V} {ds : List PyData} (s : SqL K (hid μ H) p vs) (t : DaAll K (hid μ H) vs ds) : Walk true K μ H (Itl K p) ds := fun i μ' H' e m => by
  have s' : SqL K H' p vs := unhid.seq (e.seq s)
  refine ⟨fun d hd => ?_, fun hd => ⟨vs, s', by rw [t.length]; exact List.getElem?_eq_none_iff.mp hd⟩⟩
  obtain ⟨v, h1, h2⟩ := t.get hd
  refine ⟨⟨vs, v, s', h1⟩, fun x H2 ⟨e1, e2⟩ => ?_⟩
  subst e1
  have e3 := e2 vs s'
  rw [h1] at e3
  cases e3
  exact ⟨.refl _ _, m, h2.mono e⟩
theorem walk_tup {μ : Mu} {H : Hp} {p : Addr} {vs : List V} {ds : List PyData} (s : SqT K (hid μ H) p vs) (t : DaAll K (hid μ H) vs ds) : Walk true K μ H (Itt K p) ds := fun i μ' H' e m => by
  have s' : SqT K H' p vs := same_seqW unhid (same_seqW e s)
  refine ⟨fun d hd => ?_, fun hd => ⟨vs, s', by rw [t.length]; exact List.getElem?_eq_none_iff.mp hd⟩⟩
  obtain ⟨v, h1, h2⟩ := t.get hd
  refine ⟨⟨vs, v, s', h1⟩, fun x H2 ⟨e1, e2⟩ => ?_⟩
  subst e1
  have e3 := e2 vs s'
  rw [h1] at e3
  cases e3
  exact ⟨.refl _ _, m, h2.mono e⟩
def dwList (te : DT) : DTI := fun δ μ Q => te δ μ fun x μ1 => match x with
  | .d (.list xs) => Q xs μ1
  | _ => False
def dwTup (te : DT) : DTI := fun δ μ Q => te δ μ fun x μ1 => match x with
  | .d (.tuple xs) => Q xs μ1
  | _ => False
theorem i_list (h : DE X e te) : DI true X tg e (dwList te) := pi_imp (pi_list h) fun σ H R ⟨δ, μ, Qd, rs, rm, q, w⟩ => up_use rs rm q fun x μ1 v H1 e1 m1 r1 q1 => by
  split at q1
  · next xs =>
    cases (show Da X.K (hid μ1 H1) v (.list xs) from r1) with
    | @lst p vs _ s t => exact ⟨p, rfl, ⟨vs, unhid.seq s⟩, w xs μ1 H1 _ e1 m1 (walk_list s t) q1⟩
  · exact q1.elim
theorem i_tup (h : DE X e te) : DI true X tg e (dwTup te) := pi_imp (pi_tup h) fun σ H R ⟨δ, μ, Qd, rs, rm, q, w⟩ => up_use rs rm q fun x μ1 v H1 e1 m1 r1 q1 => by
  split at q1
  · next xs =>
    cases (show Da X.K (hid μ1 H1) v (.tuple xs) from r1) with
    | @tup p vs _ s t => exact ⟨p, rfl, ⟨vs, same_seqT unhid s⟩, w xs μ1 H1 _ e1 m1 (walk_tup s.t t) q1⟩
  · exact q1.elim
/-- lo, lo + 1, .. (n of them) -/
def rangeD (lo : Int) (n : Nat) : List PyData := (List.range n).map fun (i : Nat) => .int (lo + (i : Int))
end
end DL
namespace DL
open PySem PySem.Spec PyProof.Rows L2
theorem rangeD_get {lo : Int} {n i : Nat} : (rangeD lo n)[i]? = if i < n then some (.int (lo + (i : Int))) else none := by
  unfold rangeD
  by_cases h : i < n
  · rw [if_pos h]; simp [List.getElem?_map, h]
  · rw [if_neg h]; simp [List.getElem?_map, h]
section
variable {X : Cx} {pos : Pos} {a b c e tg iter : Expr} {ta tb tc te : DT} {K : PySem.W.Frag}
theorem walk_range {μ : Mu} {H : Hp} {lo : Int} {n : Nat} : Walk true K μ H (Itr lo n) (rangeD lo n) := fun i μ' H' e m => by
  rw [rangeD_get]
  by_cases h : i < n
  · rw [if_pos h]
    refine ⟨fun d hd => ⟨h, fun x H2 ⟨e1, e2⟩ => ?_⟩, fun z => by cases z⟩
    cases hd
    subst e1; subst e2
    exact ⟨.refl _ _, m, .int _⟩
  · rw [if_neg h]
    exact ⟨fun d hd => (by cases hd), fun _ => Nat.le_of_not_lt h⟩
def dwRange1 (ta : DTA) : DTI := fun δ μ Q => ta δ μ fun ds μ1 => match ds with
  | [.d (.int j)] => (-(2 ^ 62) ≤ j ∧ j < 2 ^ 62) ∧ Q (rangeD 0 j.toNat) μ1
  | _ => False
def dwRange2 (ta : DTA) : DTI := fun δ μ Q => ta δ μ fun ds μ1 => match ds with
  | [.d (.int i), .d (.int j)] => (-(2 ^ 62) ≤ i ∧ i < 2 ^ 62 ∧ -(2 ^ 62) ≤ j ∧ j < 2 ^ 62) ∧ Q (rangeD i (j - i).toNat) μ1
  | _ => False
theorem i_range1 {tA : DTA} {p : Pos} (hg : Gl X "range") (hm : X.mg "range" = none) (ha : DA X [a] tA) (hs : starEach [a] X.env = [(false, eval a X.env)] := by rfl) : DI true X tg (.Call (.Name "range" p) [a] [] pos) (dwRange1 tA) :=
  pi_imp (pi_range1 hg hm ha hs) fun σ H R ⟨δ, μ, Qd, rs, rm, q, w⟩ => upA_use rs rm q fun ds μ1 vs H1 e1 m1 r1 q1 => by
    split at q1
    · next j =>
      cases r1 with
      | cons r t => cases t; cases r; exact ⟨j, rfl, q1.1.1, q1.1.2, w _ μ1 H1 _ e1 m1 walk_range q1.2⟩
    · exact q1.elim
/-- enumerate -/
def enumD : Nat → List PyData → List PyData
  | _, [] => []
  | n, x :: xs => .tuple [.int n, x] :: enumD (n + 1) xs
theorem enumD_get : ∀ (n : Nat) (xs : List PyData) (i : Nat), (enumD n xs)[i]? = (xs[i]?).map fun x => .tuple [.int ((n + i : Nat) : Int), x]
  | _, [], _ => by simp [enumD]
  | n, x :: xs, 0 => by simp [enumD]
  | n, x :: xs, i + 1 => by
    rw [enumD, List.getElem?_cons_succ, List.getElem?_cons_succ, enumD_get (n + 1) xs i]
    have e : n + 1 + i = n + (i + 1) := by omega
    rw [e]
theorem walk_enum {μ : Mu} {H : Hp} {p : Addr} {vs : List V} {ds : List PyData} (s : SqL K (hid μ H) p vs) (t : DaAll K (hid μ H) vs ds) : Walk false K μ H (Ite K p) (enumD 0 ds) := fun i μ' H' e m => by
  have s' : SqL K H' p vs := unhid.seq (e.seq s)
  rw [enumD_get]
  refine ⟨fun d hd => ?_, fun hd => ⟨vs, s', ?_⟩⟩
  · rw [Option.map_eq_some_iff] at hd
    obtain ⟨y, hy, rfl⟩ := hd
    obtain ⟨v, h1, h2⟩ := t.get hy
    refine ⟨⟨vs, v, s', h1⟩, ?_⟩
    rintro x H2 ⟨T, x', rfl, hT, rfl, e2⟩
    have e3 := e2 vs s'
    rw [h1] at e3
    cases e3
    refine ⟨ext_new hT, m.new hT, Or.inr ⟨T, _, _, rfl, rfl, .inl (.inl (hid_new m hT)), (.cons ?_ (.cons ((h2.mono e).mono (ext_new hT)) .nil))⟩⟩
    rw [Nat.zero_add]
    exact .int _
  · rw [t.length]
    rw [Option.map_eq_none_iff] at hd
    exact List.getElem?_eq_none_iff.mp hd
def dwEnum (ta : DTA) : DTI := fun δ μ Q => ta δ μ fun ds μ1 => match ds with
  | [.d (.list xs)] => Q (enumD 0 xs) μ1
  | _ => False
theorem i_enum {tA : DTA} {p tpos : Pos} {elts : List Expr} {kk : Nat} (hg : Gl X "enumerate") (hm : X.mg "enumerate" = none) (ha : DA X [e] tA) (hs : starEach [e] X.env = [(false, eval e X.env)] := by rfl) : DI false X (.Tuple elts kk tpos) (.Call (.Name "enumerate" p) [e] [] pos) (dwEnum tA) :=
  pi_imp (pi_enum hg hm ha hs) fun σ H R ⟨δ, μ, Qd, rs, rm, q, w⟩ => upA_use rs rm q fun ds μ1 vs H1 e1 m1 r1 q1 => by
    split at q1
    · next xs =>
      cases r1 with
      | cons r t =>
        cases t
        cases (show Da X.K (hid μ1 H1) _ (.list xs) from r) with
        | @lst p vs _ s t => exact ⟨p, vs, rfl, unhid.seq s, w _ μ1 H1 _ e1 m1 (walk_enum s t) q1⟩
    · exact q1.elim
/-- zip -/
def zipD : List PyData → List PyData → List PyData
  | x :: xs, y :: ys => .tuple [x, y] :: zipD xs ys
  | _, _ => []
theorem zipD_get : ∀ (xs ys : List PyData) (i : Nat) (d : PyData), (zipD xs ys)[i]? = some d → ∃ x y, xs[i]? = some x ∧ ys[i]? = some y ∧ d = .tuple [x, y]
  | x :: xs, y :: ys, 0, d, h => by
    rw [zipD, List.getElem?_cons_zero] at h
    cases h
    exact ⟨x, y, rfl, rfl, rfl⟩
  | x :: xs, y :: ys, i + 1, d, h => by
    rw [zipD, List.getElem?_cons_succ] at h
    simpa using zipD_get xs ys i d h
  | [], _, _, _, h => by simp [zipD] at h
  | _ :: _, [], _, _, h => by simp [zipD] at h
theorem zipD_none : ∀ (xs ys : List PyData) (i : Nat), (zipD xs ys)[i]? = none → xs.length ≤ i ∨ ys.length ≤ i
  | x :: xs, y :: ys, 0, h => by simp [zipD] at h
  | x :: xs, y :: ys, i + 1, h => by
    rw [zipD, List.getElem?_cons_succ] at h
    rcases zipD_none xs ys i h with q | q
    · exact .inl (by simpa using q)
    · exact .inr (by simpa using q)
  | [], _, _, _ => .inl (Nat.zero_le _)
  | _ :: _, [], _, _ => .inr (Nat.zero_le _)
theorem walk_zip {μ : Mu} {H : Hp} {p r : Addr} {vs ws : List V} {ds es : List PyData} (s : SqL K (hid μ H) p vs) (t : DaAll K (hid μ H) vs ds) (s2 : SqL K (hid μ H) r ws) (t2 : DaAll K (hid μ H) ws es) : Walk false K μ H (Itz K p r) (zipD ds es) := fun i μ' H' e m => by
  have s' : SqL K H' p vs := unhid.seq (e.seq s)
  have s2' : SqL K H' r ws := unhid.seq (e.seq s2)
  refine ⟨fun d hd => ?_, fun hd => ⟨vs, ws, s', s2', ?_⟩⟩
  · obtain ⟨x, y, hx, hy, rfl⟩ := zipD_get _ _ _ _ hd
    obtain ⟨v, h1, h2⟩ := t.get hx
    obtain ⟨u, h3, h4⟩ := t2.get hy
    refine ⟨⟨vs, ws, v, u, s', s2', h1, h3⟩, ?_⟩
    rintro z H2 ⟨T, x', y', rfl, hT, rfl, e2, e3⟩
    have e4 := e2 vs s'
    have e5 := e3 ws s2'
    rw [h1] at e4
    rw [h3] at e5
    cases e4; cases e5
    exact ⟨ext_new hT, m.new hT, Or.inr ⟨T, _, _, rfl, rfl, .inl (.inl (hid_new m hT)), (.cons ((h2.mono e).mono (ext_new hT)) (.cons ((h4.mono e).mono (ext_new hT)) .nil))⟩⟩
  · rw [t.length, t2.length]
    exact zipD_none _ _ _ hd
def dwZip (ta : DTA) : DTI := fun δ μ Q => ta δ μ fun ds μ1 => match ds with
  | [.d (.list xs), .d (.list ys)] => Q (zipD xs ys) μ1
  | _ => False
end
end DL

namespace DL
open PySem PySem.Spec PyProof.Rows L2

def wipeD (δ : DSt) : List Nat → DSt
  | [] => δ
  | v :: vs => (wipeD δ vs).set v none
theorem wipe_get (σ : L2.St) : ∀ (vs : List Nat) (k : Nat), (wipe σ vs)[k]? = if k ∈ vs ∧ k < σ.length then some none else σ[k]?
  | [], k => by simp [wipe]
  | v :: vs, k => by
    unfold wipe
    by_cases hk : v = k
    · subst hk
      by_cases hl : v < σ.length
      · rw [List.getElem?_set_self (by rw [wipe_length]; exact hl), if_pos ⟨List.mem_cons_self, hl⟩]
      · rw [List.getElem?_eq_none (by rw [List.length_set, wipe_length]; omega), if_neg (fun z => hl z.2), List.getElem?_eq_none (by omega)]
    · rw [List.getElem?_set_ne hk, wipe_get σ vs k]
      have e : (k ∈ v :: vs ∧ k < σ.length) ↔ (k ∈ vs ∧ k < σ.length) := by
        simp only [List.mem_cons]
        exact ⟨fun z => ⟨z.1.resolve_left fun q => hk q.symm, z.2⟩, fun z => ⟨.inr z.1, z.2⟩⟩
      by_cases h : k ∈ vs ∧ k < σ.length
      · rw [if_pos h, if_pos (e.mpr h)]
      · rw [if_neg h, if_neg (fun z => h (e.mp z))]
theorem wipeD_length (δ : DSt) : ∀ vs : List Nat, (wipeD δ vs).length = δ.length
  | [] => rfl
  | v :: vs => by unfold wipeD; rw [List.length_set, wipeD_length δ vs]
theorem wipeD_some {δ : DSt} {i : Nat} {x : DV} : ∀ {vs : List Nat}, (wipeD δ vs)[i]? = some (some x) → δ[i]? = some (some x) ∧ i ∉ vs
  | [], h => ⟨h, by simp⟩
  | v :: vs, h => by
    unfold wipeD at h
    by_cases hi : v = i
    · subst hi
      by_cases hv : v < (wipeD δ vs).length
      · rw [List.getElem?_set_self hv] at h; cases h
      · rw [List.getElem?_eq_none (by simpa using hv)] at h; cases h
    · rw [List.getElem?_set_ne hi] at h
      obtain ⟨h1, h2⟩ := wipeD_some h
      exact ⟨h1, by simp only [List.mem_cons, not_or]; exact ⟨fun e => hi e.symm, h2⟩⟩
theorem RS.wipe {K : PySem.W.Frag} {μ : Mu} {H : Hp} {σ : L2.St} {δ : DSt} (h : RS K μ H σ δ) (vs : List Nat) : RS K μ H (wipe σ vs) (wipeD δ vs) :=
  h.weak (by rw [wipe_length, wipeD_length]; exact h.1) fun i d e => by
    obtain ⟨h1, h2⟩ := wipeD_some e
    exact ⟨h1, wipe_out h2⟩
theorem wipe_set {σ : L2.St} {i : Nat} {x : Option V} {vs : List Nat} (h : i ∈ vs) : wipe (σ.set i x) vs = wipe σ vs := by
  apply List.ext_getElem?
  intro k
  rw [wipe_get, wipe_get, List.length_set]
  by_cases hk : k ∈ vs ∧ k < σ.length
  · rw [if_pos hk, if_pos hk]
  · rw [if_neg hk, if_neg hk]
    by_cases e : i = k
    · subst e
      have : ¬ i < σ.length := fun z => hk ⟨h, z⟩
      rw [List.getElem?_eq_none (by rw [List.length_set]; omega), List.getElem?_eq_none (by omega)]
    · rw [List.getElem?_set_ne e]
theorem wipe_wipe {σ : L2.St} {vs : List Nat} : wipe (wipe σ vs) vs = wipe σ vs := by
  apply List.ext_getElem?
  intro k
  rw [wipe_get, wipe_length]
  by_cases hk : k ∈ vs ∧ k < σ.length
  · rw [if_pos hk, wipe_get, if_pos hk]
  · rw [if_neg hk]

/-- a comprehension's target -/
structure CompG (b : Bool) (K : PySem.W.Frag) (vs : List Nat) (g : TG) (gd : DTG) : Prop where
  use : ∀ {v : V} {d : DV} {σ : L2.St} {δ : DSt} {μ : Mu} {H : Hp} {Qd : DSt → Mu → Prop} {Q : L2.St → Hp → Prop}, RS K μ H (wipe σ vs) (wipeD δ vs) → RM K μ H → RVb b K μ H v d → gd d (wipeD δ vs) μ Qd →
    (∀ σ2 δ2, RS K μ H σ2 δ2 → wipe σ2 vs = wipe σ vs → Qd δ2 μ → Q σ2 H) → g v (wipe σ vs) H Q
theorem compG_name {K : PySem.W.Frag} {vs : List Nat} {i : Nat} (h : i ∈ vs) : CompG true K vs (gName i) (gdName i) := ⟨fun {v d σ δ μ H Qd Q} rs rm r q w => w _ _ (rs.set r.rv i) (by rw [wipe_set h, wipe_wipe]) q⟩
theorem gNames_use2 {vs' : List Nat} : ∀ {is : List Nat} {vs : List V} {xs : List PyData} {K : PySem.W.Frag} {μ : Mu} {H : Hp} {σ : L2.St} {δ : DSt} {Q : L2.St → Hp → Prop}, (∀ i ∈ is, i ∈ vs') → DaAll K (hid μ H) vs xs → xs.length = is.length → RS K μ H σ δ →
    (∀ σ', RS K μ H σ' (setAll is xs δ) → wipe σ' vs' = wipe σ vs' → Q σ' H) → gNames is vs σ H Q
  | [], _, _, _, _, _, _, _, _, _, r, hl, rs, q => by
    cases r with
    | nil => exact ⟨rfl, q _ rs rfl⟩
    | cons _ _ => simp at hl
  | i :: is, _, _, _, _, _, _, _, _, hi, r, hl, rs, q => by
    cases r with
    | nil => simp at hl
    | @cons v vs d ds a t =>
      exact ⟨v, vs, rfl, gNames_use2 (vs' := vs') (fun j hj => hi j (List.mem_cons_of_mem _ hj)) t (by simpa using hl) (rs.set (d := .d d) a i) fun σ' rs' e => q σ' rs' (by rw [e, wipe_set (hi i List.mem_cons_self)])⟩
theorem compG_tup {bb : Bool} {K : PySem.W.Frag} {vs is : List Nat} (h : ∀ i ∈ is, i ∈ vs) : CompG bb K vs (gTup K is.length (gNames is)) (gdTup is) := ⟨fun {v d σ δ μ H Qd Q} rs rm r q w => by
  unfold gdTup at q
  split at q
  · next xs =>
    obtain ⟨a, us, rfl, s, t⟩ := DaI.tup (DaB.i (show DaB bb K (hid μ H) v (.tuple xs) from r))
    exact ⟨a, us, rfl, same_seqW unhid s, by rw [t.length, q.1], gNames_use2 h t q.1 rs fun σ' rs' e => w σ' _ rs' (by rw [e, wipe_wipe]) q.2⟩
  · exact q.elim⟩

section
variable {X : Cx} {pos : Pos} {elt tg iter : Expr} {ifs : List Expr} {scope : Scope} {own : List (Str × Nat)} {wi : DTI} {g : TG} {gd : DTG} {tt : DTT} {te : DT}
def lcGo (gd : DTG) (tt : DTT) (te : DT) (δw : DSt) (D : Addr) (fin : List PyData → Mu → Prop) : List PyData → List PyData → Mu → Prop
  | [], acc, μ => fin acc μ
  | d :: ds, acc, μ => gd (.d d) δw μ fun δ2 μ2 => tt δ2 μ2 fun b μ3 => if b = true then te δ2 μ3 fun y μ4 => match y with
      | .d x => μ4 D = some (.lst acc) ∧ acc.length < 1000000 ∧ lcGo gd tt te δw D fin ds (acc ++ [x]) (put μ4 D (.lst (acc ++ [x])))
      | .cell _ => False
    else μ3 D = some (.lst acc) ∧ lcGo gd tt te δw D fin ds acc μ3
/-- the list is data -/
def dLc (wi : DTI) (gd : DTG) (tt : DTT) (te : DT) (vs : List Nat) : DT := fun δ μ Q => wi δ μ fun ds μ1 => ∀ D, μ1 D = none → lcGo gd tt te (wipeD δ vs) D (fun acc μ' => Q (.d (.list acc)) (del μ' D)) ds [] (put μ1 D (.lst []))
/-- the list will be changed -/
def dLcC (wi : DTI) (gd : DTG) (tt : DTT) (te : DT) (vs : List Nat) : DT := fun δ μ Q => wi δ μ fun ds μ1 => ∀ D, μ1 D = none → lcGo gd tt te (wipeD δ vs) D (fun acc μ' => Q (.cell D) μ') ds [] (put μ1 D (.lst []))
def dYes : DTT := fun _ μ Q => Q true μ
abbrev DTs (X : Cx) (ifs : List Expr) (t : DTT) : Prop := PTs X ifs (upT X.K t)
theorem t_nil : DTs X [] dYes := ⟨fun pins s σ H Q I ⟨δ, μ, Qd, rs, rm, q, w⟩ => (pts_nil (X := X)).run pins s σ H Q I (w true μ H (.refl _ _) rm q)⟩
theorem t_one {c : Expr} {t : DTT} (h : DC X c t) : DTs X [c] t := pts_one h
theorem lc_up {bb : Bool} {K : PySem.W.Frag} (G : CompG bb K (own.map (·.2)) g gd) {fin : List PyData → Mu → Prop} {δ : DSt} {μ : Mu} {H : Hp} {σ : L2.St} {Q : VK} {J : It} {ds : List PyData} {D : Addr} (rs : RS K μ H σ δ) (rm : RM K μ H) (wk : Walk bb K μ H J ds) (hD : H D = none)
    (h : lcGo gd tt te (wipeD δ (own.map (·.2))) D fin ds [] (put μ D (.lst [])))
    (hf : ∀ acc μ' H', Ext μ H μ' H' → RM K μ' H' → μ' D = some (.lst acc) → fin acc μ' → Q (.ref D) H') :
    ∃ W : Nat → Nat → Hp → Prop, (∃ m, W 0 m (upd H D (.lst []))) ∧ ∀ i m H, W i m H → (J.stop i H ∧ Q (.ref D) H) ∨ (J.go i H ∧ ∃ Nx : Hp → Prop, (∀ H', Nx H' → ∃ m', m' < m ∧ W (i + 1) m' H') ∧ ∀ x H', J.yld i H x H' → g x (wipe σ (own.map (·.2))) H' fun σ2 H2 => wipe σ2 (own.map (·.2)) = wipe σ (own.map (·.2)) ∧ upT K tt σ2 H2 fun b H3 =>
      if b = true then up K te σ2 H3 fun y H4 => ∃ acc, H4 D = some (.lst acc) ∧ acc.length < sizeLine ∧ Nx (upd H4 D (.lst (acc ++ [y]))) else Nx H3) := by
  refine ⟨fun i m H1 => ∃ μ1 acc, i ≤ ds.length ∧ m = ds.length - i ∧ Ext μ H μ1 H1 ∧ RM K μ1 H1 ∧ μ1 D = some (.lst acc) ∧ lcGo gd tt te (wipeD δ (own.map (·.2))) D fin (ds.drop i) acc μ1,
    ⟨ds.length, put μ D (.lst []), [], Nat.zero_le _, by omega, ext_cell hD, rm.cell hD ⟨[], upd_same, .nil⟩, put_same, by simpa using h⟩, ?_⟩
  rintro i m H1 ⟨μ1, acc, hi, rfl, e1, m1, hD1, h1⟩
  have wk1 := wk i μ1 H1 e1 m1
  cases hd : ds[i]? with
  | none =>
    have hle : ds.length ≤ i := List.getElem?_eq_none_iff.mp hd
    rw [List.drop_eq_nil_of_le hle] at h1
    exact .inl ⟨wk1.2 hd, hf acc μ1 H1 e1 m1 hD1 h1⟩
  | some d =>
    have hlt : i < ds.length := (List.getElem?_eq_some_iff.mp hd).1
    have hdr : ds.drop i = d :: ds.drop (i + 1) := by
      rw [List.drop_eq_getElem_cons hlt]
      congr 1
      exact (List.getElem?_eq_some_iff.mp hd).2
    rw [hdr] at h1
    obtain ⟨go, yl⟩ := wk1.1 d hd
    refine .inr ⟨go, fun H' => ∃ μ' acc', Ext μ H μ' H' ∧ RM K μ' H' ∧ μ' D = some (.lst acc') ∧ lcGo gd tt te (wipeD δ (own.map (·.2))) D fin (ds.drop (i + 1)) acc' μ', fun H' ⟨μ', acc', x1, x2, x3, x4⟩ => ⟨ds.length - (i + 1), by omega, μ', acc', by omega, rfl, x1, x2, x3, x4⟩, fun x H2 hy => ?_⟩
    obtain ⟨e2, m2, r2⟩ := yl x H2 hy
    have e12 := e1.trans e2
    have rs2 : RS K μ1 H2 (wipe σ (own.map (·.2))) (wipeD δ (own.map (·.2))) := (rs.mono e12).wipe _
    refine G.use (d := .d d) rs2 m2 r2 h1 fun σ2 δ2 rs3 hw h3 => ⟨hw, ?_⟩
    refine upT_use rs3 m2 h3 fun b μ3 H3 e3 m3 h4 => ?_
    cases b with
    | false =>
      rw [if_neg Bool.false_ne_true] at h4 ⊢
      exact ⟨μ3, acc, e12.trans e3, m3, h4.1, h4.2⟩
    | true =>
      rw [if_pos rfl] at h4 ⊢
      refine up_use (rs3.mono e3) m3 h4 fun y μ4 v H4 e4 m4 r4 h5 => ?_
      split at h5
      · next z =>
        obtain ⟨h6, h7, h8⟩ := h5
        obtain ⟨vs, g1, g2⟩ := m4 D _ h6
        refine ⟨vs, g1, by rw [g2.length]; exact Nat.lt_of_lt_of_le h7 (by decide), put μ4 D (.lst (acc ++ [z])), acc ++ [z], (e12.trans (e3.trans e4)).trans (ext_write h6), m4.write h6 ⟨_, upd_same, ?_⟩, put_same, h8⟩
        exact (g2.append (.cons r4 .nil)).mono (ext_write h6)
      · exact h5.elim
theorem d_lc {bb : Bool} (hc : X.calm = true) (hN : X.N.Nodup) (hi : DI bb X tg iter wi) (ok : BlkOk X.N X.env.scope scope own) (G : CompG bb X.K (own.map (·.2)) g gd)
    (hg : ∀ (s : Shared) (H : Hp) (C : Addr) (cl : List (Str × Addr)) (fp : List Addr), PG (X.blk s H scope (compEnvC scope cl C X.env) fp) tg g)
    (ht : ∀ (s : Shared) (H : Hp) (C : Addr) (cl : List (Str × Addr)) (fp : List Addr), DTs (X.blk s H scope (compEnvC scope cl C X.env) fp) ifs tt)
    (he : ∀ (s : Shared) (H : Hp) (C : Addr) (cl : List (Str × Addr)) (fp : List Addr), DE (X.blk s H scope (compEnvC scope cl C X.env) fp) elt te)
    (hs : ∀ (x : Value), foldedSetIterable iter X.env x = pure x := by intro _; rfl) : DE X (.ListComp elt [⟨tg, iter, ifs, 0⟩] scope pos) (dLc wi gd tt te (own.map (·.2))) :=
  pe_imp (pe_lc hc hN hi ok hg ht he hs) fun σ H Q ⟨δ, μ, Qd, rs, rm, q, w⟩ => ⟨δ, μ, _, rs, rm, q, fun ds μ1 H1 J e1 m1 wk q1 D hD => by
    refine lc_up (fin := fun acc μ' => Qd (.d (.list acc)) (del μ' D)) G (rs.mono e1) m1 wk hD (q1 D (m1.free hD)) fun acc μ' H' e2 m2 hd qq => ?_
    exact w (.d (.list acc)) (del μ' D) _ H' (e1.trans (e2.trans ext_freeze)) m2.freeze (freeze_lst m2 hd) qq⟩
theorem d_lcC {bb : Bool} (hc : X.calm = true) (hN : X.N.Nodup) (hi : DI bb X tg iter wi) (ok : BlkOk X.N X.env.scope scope own) (G : CompG bb X.K (own.map (·.2)) g gd)
    (hg : ∀ (s : Shared) (H : Hp) (C : Addr) (cl : List (Str × Addr)) (fp : List Addr), PG (X.blk s H scope (compEnvC scope cl C X.env) fp) tg g)
    (ht : ∀ (s : Shared) (H : Hp) (C : Addr) (cl : List (Str × Addr)) (fp : List Addr), DTs (X.blk s H scope (compEnvC scope cl C X.env) fp) ifs tt)
    (he : ∀ (s : Shared) (H : Hp) (C : Addr) (cl : List (Str × Addr)) (fp : List Addr), DE (X.blk s H scope (compEnvC scope cl C X.env) fp) elt te)
    (hs : ∀ (x : Value), foldedSetIterable iter X.env x = pure x := by intro _; rfl) : DE X (.ListComp elt [⟨tg, iter, ifs, 0⟩] scope pos) (dLcC wi gd tt te (own.map (·.2))) :=
  pe_imp (pe_lc hc hN hi ok hg ht he hs) fun σ H Q ⟨δ, μ, Qd, rs, rm, q, w⟩ => ⟨δ, μ, _, rs, rm, q, fun ds μ1 H1 J e1 m1 wk q1 D hD => by
    refine lc_up (fin := fun acc μ' => Qd (.cell D) μ') G (rs.mono e1) m1 wk hD (q1 D (m1.free hD)) fun acc μ' H' e2 m2 hd qq => ?_
    exact w (.cell D) μ' _ H' (e1.trans e2) m2 rfl qq⟩
/-- y = [..] -/
theorem s_setLc {bb : Bool} {i : Nat} {y : Str} {py spos : Pos} (hc : X.calm = true) (hN : X.N.Nodup) (hy : X.N[i]? = some y) (hyl : X.env.scope.names.lookup y = some .local) (hsw : swapsWith (.ListComp elt [⟨tg, iter, ifs, 0⟩] scope pos) (some (.Name y py)) spos.line X.env = pure true)
    (hi : DI bb X tg iter wi) (ok : BlkOk X.N X.env.scope scope own) (G : CompG bb X.K (own.map (·.2)) g gd)
    (hg : ∀ (s : Shared) (H : Hp) (C : Addr) (cl : List (Str × Addr)) (fp : List Addr), PG (X.blk s H scope (compEnvC scope cl C X.env) fp) tg g)
    (ht : ∀ (s : Shared) (H : Hp) (C : Addr) (cl : List (Str × Addr)) (fp : List Addr), DTs (X.blk s H scope (compEnvC scope cl C X.env) fp) ifs tt)
    (he : ∀ (s : Shared) (H : Hp) (C : Addr) (cl : List (Str × Addr)) (fp : List Addr), DE (X.blk s H scope (compEnvC scope cl C X.env) fp) elt te)
    (hs : ∀ (x : Value), foldedSetIterable iter X.env x = pure x := by intro _; rfl) : DS X (.Assign [.Name y py] (.ListComp elt [⟨tg, iter, ifs, 0⟩] scope pos) spos) (sAsg (dLc wi gd tt te (own.map (·.2))) (gdName i)) :=
  ps_imp (ps_setLc hc hN hy hyl hsw hi ok hg ht he hs) fun D' σ H ⟨δ, μ, Dd, rs, rm, q, w⟩ => ⟨δ, μ, _, rs, rm, q, fun ds μ1 H1 J e1 m1 wk q1 D hD => by
    refine lc_up (fin := fun acc μ' => Dd.nx (δ.set i (some (.d (.list acc)))) (del μ' D)) (Q := fun v H' => D'.nx (σ.set i (some v)) H') G (rs.mono e1) m1 wk hD (q1 D (m1.free hD)) fun acc μ' H' e2 m2 hd qq => ?_
    have e3 := e1.trans (e2.trans (ext_freeze (p := D)))
    exact w.nx _ (del μ' D) _ H' e3 m2.freeze ((rs.mono e3).set (d := .d (.list acc)) (freeze_lst m2 hd) i) qq⟩

def forGo (gd : DTG) (tb : DTS) (D : DEnds) : List PyData → DSt → Mu → Prop
  | [], δ, μ => D.nx δ μ
  | d :: ds, δ, μ => gd (.d d) δ μ fun δ2 μ2 => tb { D with nx := forGo gd tb D ds, ct := forGo gd tb D ds, bk := D.nx } δ2 μ2
def sFor (wi : DTI) (gd : DTG) (tb : DTS) : DTS := fun D δ μ => wi δ μ fun ds μ1 => forGo gd tb D ds δ μ1
variable {body : List Stmt} {tb : DTS}
theorem s_for {bb : Bool} (hp : PassesOwn (model X.prog X.w) X.A X.env X.xe) (hc : X.calm = true) (hi : DI bb X tg iter wi) (hg : DG bb X tg gd) (hb : DSs X body tb) (hs : ∀ (x : Value), foldedSetIterable iter X.env x = pure x := by intro _; rfl) : DS X (.For tg iter body [] pos) (sFor wi gd tb) :=
  ps_imp (ps_for hp hc hi hg hb hs) fun D σ H ⟨δ, μ, Dd, rs, rm, q, w⟩ => ⟨δ, μ, _, rs, rm, q, fun ds μ1 H1 J e1 m1 wk q1 => by
    refine ⟨fun i m σ' H' => ∃ δ' μ', i ≤ ds.length ∧ m = ds.length - i ∧ Ext μ1 H1 μ' H' ∧ RM X.K μ' H' ∧ RS X.K μ' H' σ' δ' ∧ forGo gd tb Dd (ds.drop i) δ' μ', ⟨ds.length, δ, μ1, Nat.zero_le _, by omega, .refl _ _, m1, rs.mono e1, by simpa using q1⟩, ?_⟩
    rintro i m σ' H' ⟨δ', μ', hi', rfl, e2, m2, rs2, h1⟩
    have wk1 := wk i μ' H' e2 m2
    cases hd : ds[i]? with
    | none =>
      have hle : ds.length ≤ i := List.getElem?_eq_none_iff.mp hd
      rw [List.drop_eq_nil_of_le hle] at h1
      exact .inl ⟨wk1.2 hd, w.nx δ' μ' σ' H' (e1.trans e2) m2 rs2 h1⟩
    | some d =>
      have hlt : i < ds.length := (List.getElem?_eq_some_iff.mp hd).1
      have hdr : ds.drop i = d :: ds.drop (i + 1) := by
        rw [List.drop_eq_getElem_cons hlt]
        congr 1
        exact (List.getElem?_eq_some_iff.mp hd).2
      rw [hdr] at h1
      obtain ⟨go, yl⟩ := wk1.1 d hd
      refine .inr ⟨go, fun σ2 H2 => ∃ δ2 μ2, Ext μ1 H1 μ2 H2 ∧ RM X.K μ2 H2 ∧ RS X.K μ2 H2 σ2 δ2 ∧ forGo gd tb Dd (ds.drop (i + 1)) δ2 μ2, fun σ2 H2 ⟨δ2, μ2, x1, x2, x3, x4⟩ => ⟨ds.length - (i + 1), by omega, δ2, μ2, by omega, rfl, x1, x2, x3, x4⟩, fun x H2 hy => ?_⟩
      obtain ⟨e3, m3, r3⟩ := yl x H2 hy
      refine ⟨δ', μ', .d d, _, rs2.mono e3, m3, r3, h1, fun δ4 μ4 σ4 H4 e4 m4 rs4 h4 => ⟨δ4, μ4, _, rs4, m4, h4, ?_⟩⟩
      have e24 := e2.trans (e3.trans e4)
      exact ⟨fun δ5 μ5 σ5 H5 e5 m5 rs5 h5 => ⟨δ5, μ5, e24.trans e5, m5, rs5, h5⟩, w.rt.step (e1.trans e24), fun δ5 μ5 σ5 H5 e5 m5 rs5 h5 => w.nx δ5 μ5 σ5 H5 (e1.trans (e24.trans e5)) m5 rs5 h5, fun δ5 μ5 σ5 H5 e5 m5 rs5 h5 => ⟨δ5, μ5, e24.trans e5, m5, rs5, h5⟩⟩⟩
end
end DL

namespace DL
open PySem PySem.Spec PyProof.Rows L2

structure RoomG (k : Nat) (A : Around) : Prop where
  r : Room k A
  g : A.guards = some []
theorem RoomG.mono {j k : Nat} {A : Around} (r : RoomG k A) (h : j ≤ k) : RoomG j A := ⟨r.r.mono h, r.g⟩
theorem RoomG.deeper {k : Nat} {A : Around} (r : RoomG (k + 1) A) (env : Env) : RoomG k (A.deeper env) := ⟨r.r.deeper env, r.g⟩
/-- a def's promise over data: the arguments, the cells, the wish -/
abbrev DSp := List DV → Mu → DK → Prop
structure FnD (P : Program) (w : World) (K : PySem.W.Frag) (mg : Str → Option Value) (base : Heap) (k : Nat) (f : Addr) (fd : FuncData) (ps : List Str) (sp : DSp) : Prop where
  len : ∀ ds μ Q, sp ds μ Q → ds.length = ps.length
  run : ∀ (A : Around) (outer : List Env) (s : Shared) (H : Hp) (args : Args) (us : List Value) (vs : List V) (ds : List DV) (μ : Mu) (Qd : DK) (Q : VK), RoomG k A → Env0 P w K mg base A outer s H → BindsTo s fd args (ps.zip us) → Vals vs us →
    RVs K μ H vs ds → RM K μ H → sp ds μ Qd → Wk K μ H Qd Q → codeAny (model P w) A (.call (.ref f) args) (CR CX0 outer P w H s Q E0) s
theorem FnD.mono {P : Program} {w : World} {K : PySem.W.Frag} {mg : Str → Option Value} {base : Heap} {j k : Nat} {f : Addr} {fd : FuncData} {ps : List Str} {sp : DSp} (F : FnD P w K mg base j f fd ps sp) (h : j ≤ k) : FnD P w K mg base k f fd ps sp :=
  ⟨F.len, fun A outer s H args us vs ds μ Qd Q hr => F.run A outer s H args us vs ds μ Qd Q (hr.mono h)⟩
section
variable {P : Program} {w : World} {K : PySem.W.Frag} {mg : Str → Option Value} {base : Heap}
/-- the data at the entry of a def's body -/
def dstart (n : Nat) (ds : List DV) : DSt := ds.map some ++ List.replicate (n - ds.length) none
/-- the context in which a body is read -/
abbrev cxD (P : Program) (w : World) (K : PySem.W.Frag) (mg : Str → Option Value) (base : Heap) (N : List Str) (qual : Str) (scope : Scope) (f : Addr) (cd : Value) (A : Around) (outer : List Env) (s : Shared) (H : Hp) : Cx :=
  (cxOf CX0 P w K mg base N qual scope f cd A outer s H E0).nox
theorem Fun.okD {x qual : Str} {st : Stmt} {f : Addr} {fd : FuncData} {N ps : List Str} {k : Nat} {sp : DSp} (F : Fun K x qual st f fd) (S : FnScope N ps (defScope st)) (len : ∀ ds μ Q, sp ds μ Q → ds.length = ps.length)
    (hbody : ∀ (cdv : Value) (A : Around) (outer : List Env) (s : Shared) (H : Hp), RoomG k (A.deeper (envOfC qual (defScope st) s.heap.objs.size f cdv)) →
      ∃ t, DSs (cxD P w K mg base N qual (defScope st) f cdv A outer s H) (defBody st) t ∧ ∀ ds μ Q, sp ds μ Q → t { nx := fun _ μ' => Q (.d .none) μ', rt := Q } (dstart N.length ds) μ) : FnD P w K mg base (k + 1) f fd ps sp := by
  obtain ⟨oc, od, kV, doc, pm, an, cdv, ct, osl, rfl, lk, hcd⟩ := F.ex
  refine ⟨len, fun A outer s H args us vs ds μ Qd Q hr e0 hb r rd rm hsp hw => ?_⟩
  have hld := len _ _ _ hsp
  have hl : vs.length = ps.length := (Paired.length rd).trans hld
  have KX : K.In s.heap := e0.mod.kin.keeps fun b o e => (e0.bs b o e).1
  have lim : s.heap.NoLimit := e0.mod.nolimit.keeps fun b o e => (e0.bs b o e).1
  obtain ⟨t, ht, hq⟩ := hbody cdv A outer s H (hr.deeper _)
  have hpar : ((ps.zip us).all fun y => (defScope st).names.lookup y.1 == some .local || (defScope st).names.lookup y.1 == some .cell) = true := by
    rw [List.all_eq_true]
    rintro ⟨n, v⟩ hy
    rcases S.par n (List.of_mem_zip hy).1 with q | q
    · simp [q]
    · simp [q]
  refine Att.call_fn KX lim lk hcd hr.r.depth hb hpar (fun s1 x => ?_) S.co S.gen S.kind
  have I : Inv (cxOf CX0 P w K mg base N qual (defScope st) f cdv A outer s H E0) [] (L2.start N vs) H s1 := inv_start S hr.r.hd e0 hl r x
  have h2 := ht.run [] s1 (L2.start N vs) H { nx := fun _ H' => Q .non H', rt := Q } (I.wish _) ⟨dstart N.length ds, μ, _, RS.start rd, rm, hq ds μ Qd hsp,
    ⟨fun δ' μ' σ' H' e m _ q => hw (.d .none) μ' .non H' e m Da.non q, hw, fun _ _ _ _ _ _ _ q => q, fun _ _ _ _ _ _ _ q => q⟩⟩
  refine wpAny_mono h2 (fun fl s' hs => ?_) fun _ _ z => z.elim
  have hs := hs.unwish
  cases fl with
  | ret u =>
    obtain ⟨v, σ', H', J, rv, q⟩ := hs
    exact ⟨v, H', J.os, J.bare, J.base, J.hok, rv, q⟩
  | next =>
    obtain ⟨σ', H', J, q⟩ := hs
    exact ⟨.non, H', J.os, J.bare, J.base, J.hok, rfl, q⟩
  | brk =>
    obtain ⟨_, _, _, q⟩ := hs
    exact q.elim
  | cont =>
    obtain ⟨_, _, _, q⟩ := hs
    exact q.elim
end

section
variable {X : Cx} {k : Nat} {f : Addr} {fd : FuncData} {ps : List Str} {sp : DSp} {x : Str} {p pos : Pos} {e : Expr} {es : List Expr} {tr : DTA}
theorem run_D {pins : List (Addr × Obj)} {σ : L2.St} {H : Hp} {s : Shared} {Q : VK} {args : Args} {us : List Value} {vs : List V} {ds : List DV} {μ : Mu} {Qd : DK} (F : FnD X.prog X.w X.K X.mg X.base k f fd ps sp) (hr : RoomG k X.A) (hb : BindsTo s fd args (ps.zip us))
    (I : Inv X pins σ H s) (r : Vals vs us) (rd : RVs X.K μ H vs ds) (rm : RM X.K μ H) (h : sp ds μ Qd) (w : Wk X.K μ H Qd Q) : codeAny (model X.prog X.w) X.A (.call (.ref f) args) (fun r s' => match r with
      | .ok (.ret u) => EP X pins σ Q u s'
      | .ok _ => False
      | .error e => X.xe e s') s :=
  codeAny_mono (F.run X.A X.stack s H args us vs ds μ Qd Q hr I.env0 hb r rd rm h w) fun r s' hq => by
    cases r with
    | error e => exact hq.elim
    | ok fl =>
      cases fl with
      | ret u => exact I.after hq
      | next => exact hq.elim
      | brk => exact hq.elim
      | cont => exact hq.elim
def dCallF (sp : DSp) (t : DTA) : DT := fun δ μ Q => t δ μ fun ds μ1 => sp ds μ1 Q
theorem d_call (F : FnD X.prog X.w X.K X.mg X.base k f fd ps sp) (hr : RoomG k X.A) (hg : Gl X x) (hm : X.mg x = some (.ref f)) (hk : PySem.W.keepIn X.K (.ref f) = true) (hb : Binds X.K fd ps []) (ha : DA X (e :: es) tr)
    (hdb : (x == ("__debug__" : Str)) = false := by decide) (he : starEach (e :: es) X.env = (false, eval e X.env) :: starEach es X.env := by rfl) (hpl : (backTo pos (starEach es X.env)).any (·.1) = false := by rfl) :
    DE X (.Call (.Name x p) (e :: es) [] pos) (dCallF sp tr) := by
  refine ⟨fun pins s σ H Q I ⟨δ, μ, Qd, rs, rm, q, w⟩ => ?_⟩
  refine wpAny_Call_Name_kw (ld_glob I hg hm ?_ hdb)
  refine PySem.W.callWith_K (h₀ := X.base) I.ok.mod.kin hk ?_ he hpl
  refine thn (ha.run pos pins s σ H (fun vs H' => ∃ ds μ', Ext μ H μ' H' ∧ RM X.K μ' H' ∧ RVs X.K μ' H' vs ds ∧ sp ds μ' Qd) I (upA_use rs rm q fun ds μ' vs H' e1 m1 r1 q1 => ⟨ds, μ', e1, m1, r1, q1⟩)) ?_
  rintro us s1 ⟨vs, H1, I1, r, ds, μ1, e1, m1, r1, q1⟩
  refine ⟨I1.kIn, wpAny_call (codeAny_mono (run_D F hr (us := us) ?_ I1 r r1 m1 q1 (w.step e1)) fun r s' hq => ?_)⟩
  · have hl : us.length = ps.length := by rw [← r.length, Paired.length r1]; exact F.len _ _ _ q1
    have z := hb s1 us I1.kIn (by simpa using hl)
    simpa using z
  · exact hq
/-- how keywords alone bind: g puts the values in the parameters' order -/
structure KB (K : PySem.W.Frag) (fd : FuncData) (ps ks : List Str) (g : {α : Type} → List α → List α) : Prop where
  to : ∀ (s : Shared) (ws : List Value), ws.length = ks.length → BindsTo s fd ⟨[], ks.zip ws⟩ (ps.zip (g ws))
  rel : ∀ {R : V → Value → Prop} {vs : List V} {us : List Value}, vs.length = ks.length → Paired R vs us → Paired R (g vs) (g us)
  relD : ∀ {R : V → DV → Prop} {vs : List V} {us : List DV}, vs.length = ks.length → Paired R vs us → Paired R (g vs) (g us)
abbrev DKw (X : Cx) (kws : List Keyword) (t : DTA) : Prop := PK X kws (upA X.K t)
theorem pk_imp {kws : List Keyword} {t t' : TA} (h : PK X kws t) (w : ∀ σ H Q, t' σ H Q → t σ H Q) : PK X kws t' := ⟨fun pos pins s σ H Q I q => h.run pos pins s σ H Q I (w _ _ _ q)⟩
variable {kws : List Keyword} {nm : Option Str} {kpos : Pos} {te : DT}
theorem k_nil : DKw X [] aNil := pk_imp pk_nil fun σ H Q ⟨δ, μ, Qd, rs, rm, q, w⟩ => w [] μ [] H (.refl _ _) rm .nil q
theorem k_cons (ha : DE X e te) (hr : DKw X kws tr) : DKw X (⟨nm, e, kpos⟩ :: kws) (aCons te tr) :=
  pk_imp (pk_cons ha hr) fun σ H Q ⟨δ, μ, Qd, rs, rm, q, w⟩ => up_use rs rm q fun x μ1 v H1 e1 m1 r1 q1 => upA_use (rs.mono e1) m1 q1 fun xs μ2 vs H2 e2 m2 r2 q2 =>
    w (x :: xs) μ2 (v :: vs) H2 (e1.trans e2) m2 (.cons (r1.mono e2) r2) q2
def dCallK (sp : DSp) (n : Nat) (g : {α : Type} → List α → List α) (t : DTA) : DT := fun δ μ Q => t δ μ fun ds μ1 => ds.length = n ∧ sp (g ds) μ1 Q
theorem d_callK {ks : List Str} {g : {α : Type} → List α → List α} (F : FnD X.prog X.w X.K X.mg X.base k f fd ps sp) (hr : RoomG k X.A) (hg : Gl X x) (hm : X.mg x = some (.ref f)) (hk : PySem.W.keepIn X.K (.ref f) = true) (hb : KB X.K fd ps ks g) (ha : DKw X kws tr)
    (hall : (backToKw pos (keywordEach kws X.env)).all (·.1.isSome) = true := by rfl) (hks : (backToKw pos (keywordEach kws X.env)).filterMap (·.1) = ks := by rfl) (hdb : (x == ("__debug__" : Str)) = false := by decide)
    (hpl : ((backTo pos (starEach [] X.env)).any (·.1) || (backToKw pos (keywordEach kws X.env)).any (·.1.isNone)) = false := by rfl) :
    DE X (.Call (.Name x p) [] kws pos) (dCallK sp ks.length g tr) := by
  refine ⟨fun pins s σ H Q I ⟨δ, μ, Qd, rs, rm, q, w⟩ => ?_⟩
  refine wpAny_Call_Name_kw (ld_glob I hg hm ?_ hdb)
  refine PySem.W.callWith_KW0 (h₀ := X.base) I.ok.mod.kin hk hall ?_ hpl
  refine thn (ha.run pos pins s σ H (fun vs H' => ∃ ds μ', Ext μ H μ' H' ∧ RM X.K μ' H' ∧ RVs X.K μ' H' vs ds ∧ ds.length = ks.length ∧ sp (g ds) μ' Qd) I (upA_use rs rm q fun ds μ' vs H' e1 m1 r1 q1 => ⟨ds, μ', e1, m1, r1, q1⟩)) ?_
  rintro us s1 ⟨vs, H1, I1, r, ds, μ1, e1, m1, r1, hlen, q1⟩
  have hlv : vs.length = ks.length := (Paired.length r1).trans hlen
  refine ⟨I1.kIn, wpAny_call (codeAny_mono (run_D F hr (us := g us) ?_ I1 (hb.rel hlv r) (hb.relD hlv r1) m1 q1 (w.step e1)) fun r s' hq => hq)⟩
  rw [hks]
  exact hb.to s1 us (by rw [← r.length]; exact hlv)
end

theorem dtop_call {P : Program} {w : World} {K : PySem.W.Frag} {mg mb : Str → Option Value} {k : Nat} {fa a : Addr} {fd : FuncData} {x : Str} {s₁ : Shared} {vs : List Value} {ns : List Int} {sp : DSp}
    (KX : K.In s₁.heap) (hns : s₁.heap.Ns mainGlobals mg) (hb : s₁.heap.Ns builtinsNs mb) (hbb : ∀ x : Str, x ≠ "__name__" → mb x = bootBuiltins x) (hlim : s₁.heap.NoLimit) (hg : s₁.gens = #[])
    (ha : s₁.heap.get? a = some { cls := .type "list", data := .seq vs.toArray }) (hi : IntsAre vs ns) (hl : ns.length ≤ sizeLine) (hr : Room k callerA)
    (F : ∀ base : Heap, K.In base → base.Ns mainGlobals mg → FnD P w K mg base k fa fd [x] sp) (hbind : ∀ (s : Shared) (u : Value), BindsTo s fd ⟨[u], []⟩ [(x, u)])
    (hsp : sp [.d (.list (ns.map .int))] (fun _ => none) (fun d _ => d = .d (.bool true))) :
    codeAny (model P w) callerA (.call (.ref fa) ⟨[.ref a], []⟩) (fun r s' => r = .ok (.ret (.bool true)) ∧ OldK s₁.heap s'.heap ∧ s'.os = s₁.os ∧ AllBare s'.gens) s₁ := by
  have rv := vals_ints hi
  -- the heap that tracks the script alone, or nothing
  have main : ∀ H : Hp, (∀ b u, H b = some u → b = a ∧ K.lookup a = none ∧ u = .frz { cls := .type "list", data := .seq vs.toArray } (.lst (ns.map V.int))) → SqL K H a (ns.map V.int) → HOk P w H s₁.heap →
      codeAny (model P w) callerA (.call (.ref fa) ⟨[.ref a], []⟩) (fun r s' => r = .ok (.ret (.bool true)) ∧ OldK s₁.heap s'.heap ∧ s'.os = s₁.os ∧ AllBare s'.gens) s₁ := by
    intro H hA hS hok
    have keep : ∀ {b : Addr} {o : Obj}, s₁.heap.get? b = some o → (b = a → K.lookup a ≠ none ∨ ∃ es ep, o.data = .dict es ep) → H b = none := by
      intro b o e hno
      cases q : H b with
      | none => rfl
      | some u =>
        obtain ⟨e1, e2, _⟩ := hA b u q
        rcases hno e1 with z | ⟨es, ep, z⟩
        · exact absurd e2 z
        · rw [e1, ha] at e
          cases e
          cases (show Data.seq vs.toArray _ = Data.dict es ep from z)
    have bIn : K.In (hidT s₁.heap H) := fun b o e => hidT_get (KX b o e) (keep (KX b o e) fun z => .inl (by rw [← z, e]; simp))
    have bNs : ∀ {b : Addr} {m : Str → Option Value}, s₁.heap.Ns b m → (hidT s₁.heap H).Ns b m := fun ⟨o, es, ep, e, d, r⟩ => ⟨o, es, ep, hidT_get e (keep e fun _ => .inr ⟨es, ep, d⟩), d, r⟩
    have hM : Mod K mg (hidT s₁.heap H) := ⟨bIn, bNs hns, ⟨mb, bNs hb, hbb⟩, let ⟨mc, h1, h2⟩ := hlim; ⟨mc, bNs h1, h2⟩⟩
    have e0 : Env0 P w K mg (hidT s₁.heap H) callerA [] s₁ H := ⟨rfl, hM, fun b o e => of_hidT e, Nat.le_of_eq (hidT_size _ _), trivial, fun b hb => (nomatch hb), hok, .of_eq hg⟩
    have h0 : hid (fun _ => none) H = H := by funext b; rfl
    have hda : DaAll K (hid (fun _ => none) H) (ns.map V.int) (ns.map PyData.int) := DaAll.ints ns
    refine codeAny_mono ((F _ bIn (bNs hns)).run callerA [] s₁ H ⟨[.ref a], []⟩ [.ref a] [.ref a] [.d (.list (ns.map .int))] (fun _ => none) _ (fun v _ => v = .bl true) ⟨hr, rfl⟩ e0 (hbind s₁ (.ref a)) (.cons rfl .nil)
      (.cons (show Da K (hid (fun _ => none) H) (.ref a) (.list (ns.map .int)) from .lst (by rw [h0]; exact hS) hda) .nil) (fun b c e => by cases e) hsp fun d μ' v H' _ _ r q => ?_) fun r s' h => ?_
    · subst q
      cases (show Da K (hid μ' H') v (.bool true) from r)
      rfl
    · cases r with
      | error e => exact h.elim
      | ok fl =>
        cases fl with
        | next => exact h.elim
        | brk => exact h.elim
        | cont => exact h.elim
        | ret u =>
          obtain ⟨v, H', os, bare, un, hok', r', q⟩ := h
          have q' : v = .bl true := q
          subst q'
          cases (show u = Value.bool true from r')
          refine ⟨rfl, OldK.of_keep fun b o e => ?_, os, bare⟩
          cases q : H b with
          | none => exact un.keep b o e q (fun z => nomatch z) (fun z => nomatch z)
          | some u =>
            obtain ⟨_, _, e1⟩ := hA b u q
            subst e1
            obtain ⟨e2, _⟩ := hok b _ q
            obtain ⟨e3, _⟩ := hok' b _ (un.frzs b _ _ q)
            rw [e] at e2
            rw [e3, ← e2]
  cases hk : K.lookup a with
  | some o =>
    have e := KX a o hk
    rw [ha] at e
    cases e
    exact main (fun _ => none) (fun b u z => by cases z) (.inr ⟨_, vs.toArray, _, hk, rfl, rfl, rfl, by rw [List.size_toArray, hi.length]; exact hl, by simpa using rv⟩) fun b u z => by cases z
  | none =>
    refine main (fun b => if b = a then some (.frz { cls := .type "list", data := .seq vs.toArray } (.lst (ns.map V.int))) else none) (fun b u z => ?_) (.inl (.inr ⟨_, if_pos rfl⟩)) fun b u z => ?_
    · by_cases hb : b = a
      · rw [if_pos hb] at z; cases z; exact ⟨hb, hk, rfl⟩
      · rw [if_neg hb] at z; cases z
    · dsimp only at z
      by_cases hb : b = a
      · rw [if_pos hb] at z; cases z
        subst hb
        exact ⟨ha, by rw [List.length_map]; exact hl, vs, _, rv, ha⟩
      · rw [if_neg hb] at z; cases z
theorem dwalk {l : PySem.W.OpenLaw} {n k : Nat} {q : Program} {loose : List Str} {XP : (Str → Option Value) → Heap → Prop} {YP : World → Heap → Prop} {d : DefRec} {K : Params → PySem.W.Frag} {x : Str} {sp : DSp}
    (hn : l.most = some n) (hn2 : n ≤ sizeLine) (hdf : d.params.defaults = []) (hr : Room k callerA) (hY : ∀ (w : World) (h : Heap), YP w h → (K w.params).In h)
    (F : ∀ (w : World) (mg : Str → Option Value) (fa : Addr) (h : Heap), (K w.params).In h → h.Ns mainGlobals mg → mg d.name = some (.ref fa) →
      ∃ fd : FuncData, (∀ (s : Shared) (u : Value), BindsTo s fd ⟨[u], []⟩ [(x, u)]) ∧ ∀ base : Heap, (K w.params).In base → base.Ns mainGlobals mg → FnD l.prog w (K w.params) mg base k fa fd [x] sp)
    (hsp : ∀ ns : List Int, ns.length ≤ n → (∀ z ∈ ns, Builtin.Int.intBits z ≤ 1048576) → sp [.d (.list (ns.map .int))] (fun _ => none) (fun d _ => d = .d (.bool true))) :
    PySem.W.WalkO q loose XP YP l.row.toRowW d [] (fun f vs => PySem.call f vs) := by
  refine Att.attach_callB hn hdf fun w s₀ s₁ mg mb fa o pm cd doc a vs ns G Y ho hd hcd hmg hobj hints hlen hbits hg => ?_
  have KX := hY w _ Y
  obtain ⟨fd, hb, hF⟩ := F w mg fa _ KX G.T.g hmg
  exact dtop_call KX G.T.g G.T.b G.T.builtins G.T.nolimit hg hobj hints (Nat.le_trans hlen hn2) hr hF hb (hsp ns hlen hbits)
end DL

namespace DL
open PySem PySem.Spec PyProof.Rows L2
section
variable {X : Cx} {pos : Pos} {a b c e o : Expr} {ta tb tc te to ti : DT} {K : PySem.W.Frag}

def rdPlus : DR2 := fun x y μ Q => match x, y with
  | .d (.int i), .d (.int j) => Q (.d (.int (i + j))) μ
  | .d (.tuple xs), .d (.tuple ys) => xs.length + ys.length ≤ 100000 ∧ Q (.d (.tuple (xs ++ ys))) μ
  | .d (.str i), .d (.str j) => i.length + j.length ≤ sizeLine ∧ Q (.d (.str (i ++ j))) μ
  | _, _ => False
def rdEqX : DR2 := fun x y μ Q => match x, y with
  | .d (.int i), .d (.int j) => Q (.d (.bool (decide (i = j)))) μ
  | .d (.str i), .d (.str j) => Q (.d (.bool (decide (i = j)))) μ
  | .d (.bool i), .d (.bool j) => Q (.d (.bool (decide (i = j)))) μ
  | .d i, .d j => SeqAt.shaped i = true ∧ SeqAt.shaped j = true ∧ Q (.d (.bool (PyData.eqv i j))) μ
  | _, _ => False
def rdNeX : DR2 := fun x y μ Q => match x, y with
  | .d (.int i), .d (.int j) => Q (.d (.bool (!decide (i = j)))) μ
  | .d (.str i), .d (.str j) => Q (.d (.bool (!decide (i = j)))) μ
  | .d (.bool i), .d (.bool j) => Q (.d (.bool (!decide (i = j)))) μ
  | .d i, .d j => SeqAt.shaped i = true ∧ SeqAt.shaped j = true ∧ Q (.d (.bool (!PyData.eqv i j))) μ
  | _, _ => False
def dTr (te : DT) : DTT := fun δ μ Q => te δ μ fun x μ1 => match x with
  | .d (.bool b) => Q b μ1
  | .d (.int i) => Q (i != 0) μ1
  | .d .none => Q false μ1
  | .d (.list xs) => Q (!xs.isEmpty) μ1
  | .d (.tuple xs) => Q (!xs.isEmpty) μ1
  | _ => False
theorem emp_da {H : Hp} {vs : List V} {ds : List PyData} (r : DaAll K H vs ds) : (!ds.isEmpty) = !vs.isEmpty := by cases r <;> rfl
theorem DaAll.set {H : Hp} : ∀ {vs : List V} {ds : List PyData} (i : Nat) {v : V} {d : PyData}, DaAll K H vs ds → Da K H v d → DaAll K H (vs.set i v) (ds.set i d)
  | _, _, _, _, _, .nil, _ => .nil
  | _, _, 0, _, _, .cons _ t, h => .cons h t
  | _, _, i + 1, _, _, .cons a t, h => .cons a (DaAll.set i t h)
theorem g_subL (ho : DE X o to) (hi : DE X b ti)
    (ha : ∀ v, assign (.Subscript o b pos) X.env v = (do
      let ov ← holding [v] (eval o X.env)
      let iv ← holding [v, ov] (eval b X.env)
      standAt pos
      holding [v, ov, iv] (setItem ov iv v)
      release [v, ov, iv] []) := by intro _; rfl) : DG true X (.Subscript o b pos) (gdSub to ti rdSetL) :=
  pg_imp (pg_sub ho hi set_list ha) fun v σ H Q ⟨δ, μ, d, Qd, rs, rm, r, q, w⟩ =>
    up_use rs rm q fun x μ1 ov H1 e1 m1 r1 q1 => up_use (rs.mono e1) m1 q1 fun y μ2 iv H2 e2 m2 r2 q2 => by
      unfold rdSetL at q2
      split at q2
      · next p k z =>
        split at q2
        · next xs ex =>
          split at q2
          · next j ej =>
            cases (show ov = .ref p from r1)
            cases r2
            obtain ⟨vs, h1, h2⟩ := m2 p _ ex
            refine ⟨p, vs, k, j, rfl, rfl, h1, by rw [h2.length]; exact ej, ?_⟩
            have e12 := e1.trans (e2.trans (ext_write (p := p) (o := .lst (vs.set j v)) (c := .lst (xs.set j z)) ex))
            refine w δ _ σ _ e12 (m2.write ex ⟨_, upd_same, ?_⟩) (rs.mono e12) q2
            exact (h2.set j ((show Da X.K (hid μ H) v z from r).mono (e1.trans e2))).mono (ext_write ex)
          · exact q2.elim
        · exact q2.elim
      · exact q2.elim
/-- xs.append(e) -/
def dAppend (to te : DT) : DT := fun δ μ Q => to δ μ fun x μ1 => match x with
  | .cell p => (∃ ys, μ1 p = some (.lst ys)) ∧ te δ μ1 fun y μ2 => match y, μ2 p with
    | .d d, some (.lst xs) => xs.length < 1000000 ∧ Q (.d .none) (put μ2 p (.lst (xs ++ [d])))
    | _, _ => False
  | _ => False
structure Cal (P : Program) (w : World) (K : PySem.W.Frag) (mg : Str → Option Value) (base : Heap) (k : Nat) (x : Str) (st : Stmt) (ps : List Str) (sp : DSp) : Prop where
  ex : ∃ f fd, FnD P w K mg base k f fd ps sp ∧ mg x = some (.ref f) ∧ Fun K x x st f fd
structure DefM (K : PySem.W.Frag) (mg : Str → Option Value) (x : Str) (st : Stmt) : Prop where
  ex : ∃ f fd, mg x = some (.ref f) ∧ Fun K x x st f fd
theorem Cal.mono {P : Program} {w : World} {mg : Str → Option Value} {base : Heap} {j k : Nat} {x : Str} {st : Stmt} {ps : List Str} {sp : DSp} (C : Cal P w K mg base j x st ps sp) (h : j ≤ k) : Cal P w K mg base k x st ps sp :=
  let ⟨f, fd, F, m, D⟩ := C.ex
  ⟨f, fd, F.mono h, m, D⟩
variable {k : Nat} {ps : List Str} {sp : DSp} {x : Str} {p : Pos} {es : List Expr} {tr : DTA} {st : Stmt}
theorem d_callC (C : Cal X.prog X.w X.K X.mg X.base k x st ps sp) (hr : RoomG k X.A) (hg : Gl X x) (hb : ∀ f fd, Fun X.K x x st f fd → Binds X.K fd ps []) (ha : DA X (e :: es) tr)
    (hdb : (x == ("__debug__" : Str)) = false := by decide) (he : starEach (e :: es) X.env = (false, eval e X.env) :: starEach es X.env := by rfl) (hpl : (backTo pos (starEach es X.env)).any (·.1) = false := by rfl) :
    DE X (.Call (.Name x p) (e :: es) [] pos) (dCallF sp tr) := by
  obtain ⟨f, fd, F, m, D⟩ := C.ex
  exact d_call F hr hg m D.kp (hb f fd D) ha hdb he hpl
theorem d_callCK {ks : List Str} {g : {α : Type} → List α → List α} {kws : List Keyword} (C : Cal X.prog X.w X.K X.mg X.base k x st ps sp) (hr : RoomG k X.A) (hg : Gl X x) (hb : ∀ f fd, Fun X.K x x st f fd → KB X.K fd ps ks g) (ha : DKw X kws tr)
    (hall : (backToKw pos (keywordEach kws X.env)).all (·.1.isSome) = true := by rfl) (hks : (backToKw pos (keywordEach kws X.env)).filterMap (·.1) = ks := by rfl) (hdb : (x == ("__debug__" : Str)) = false := by decide)
    (hpl : ((backTo pos (starEach [] X.env)).any (·.1) || (backToKw pos (keywordEach kws X.env)).any (·.1.isNone)) = false := by rfl) :
    DE X (.Call (.Name x p) [] kws pos) (dCallK sp ks.length g tr) := by
  obtain ⟨f, fd, F, m, D⟩ := C.ex
  exact d_callK F hr hg m D.kp (hb f fd D) ha hall hks hdb hpl
theorem Cal.of {P : Program} {w : World} {mg : Str → Option Value} {base : Heap} {N : List Str} {rd : DTS} (D : DefM K mg x st) (S : FnScope N ps (defScope st)) (len : ∀ ds μ Q, sp ds μ Q → ds.length = ps.length)
    (der : ∀ (f : Addr) (cdv : Value) (A : Around) (outer : List Env) (s : Shared) (H : Hp), RoomG k (A.deeper (envOfC x (defScope st) s.heap.objs.size f cdv)) → DSs (cxD P w K mg base N x (defScope st) f cdv A outer s H) (defBody st) rd)
    (R : ∀ ds μ Q, sp ds μ Q → rd { nx := fun _ μ' => Q (.d .none) μ', rt := Q } (dstart N.length ds) μ) : Cal P w K mg base (k + 1) x st ps sp := by
  obtain ⟨f, fd, m, F⟩ := D.ex
  exact ⟨f, fd, Fun.okD F S len fun cdv A outer s H hr => ⟨rd, der f cdv A outer s H hr, R⟩, m, F⟩
end
/-- what the built-in names stand for: none is a module's name -/
structure Bl (mg : Str → Option Value) : Prop where
  isinstance : mg "isinstance" = none
  int : mg "int" = none
  bool : mg "bool" = none
  str : mg "str" = none
  tuple : mg "tuple" = none
  list : mg "list" = none
  dict : mg "dict" = none
  len : mg "len" = none
  all : mg "all" = none
  any : mg "any" = none
  sum : mg "sum" = none
  abs : mg "abs" = none
  max : mg "max" = none
  min : mg "min" = none
  repr : mg "repr" = none
  range : mg "range" = none
  enumerate : mg "enumerate" = none
  zip : mg "zip" = none
  reversed : mg "reversed" = none
  sorted : mg "sorted" = none
  set : mg "set" = none
end DL

namespace DL
open PySem PySem.Spec PyProof.Rows L2

def keysI : List DictEntry → List Int → Bool
  | [], [] => true
  | e :: es, k :: ks => (match e.key with
    | .int i _ => i == k && e.hash == hashInt k
    | _ => false) && keysI es ks
  | _, _ => false
structure KInt (K : PySem.W.Frag) (a : Addr) (ks : List Int) : Prop where
  ex : ∃ (es : Array DictEntry) (n : Nat), K.lookup a = some ⟨.type "dict", none, .dict es n, #[]⟩ ∧ keysI es.toList ks = true
  nd : ks.Nodup
  low : (a == sysModules) = false
theorem keysI_pairs {P : Program} {w : World} : ∀ {es : List DictEntry} {ks : List Int}, keysI es ks = true → ∃ kvs : List (Key × Value), Pairs (mixKind P w) es kvs ∧ kvs.map (·.1) = ks.map Sum.inl ∧ ∀ e ∈ es, ∃ k, (mixKind P w).is k e.key = true ∧ e.hash = (mixKind P w).hash k
  | [], [], _ => ⟨[], .nil, rfl, fun e h => by cases h⟩
  | e :: es, k :: ks, h => by
    simp only [keysI, Bool.and_eq_true] at h
    obtain ⟨h1, h2⟩ := h
    obtain ⟨kvs, p, q, r⟩ := keysI_pairs (P := P) (w := w) h2
    obtain ⟨hh, kk, vv⟩ := e
    cases kk <;> simp at h1
    next i t =>
      obtain ⟨rfl, rfl⟩ := h1
      refine ⟨(Sum.inl i, vv) :: kvs, .cons (keyIs_int i t) rfl p, by rw [List.map_cons, List.map_cons, q], fun e he => ?_⟩
      rcases List.mem_cons.mp he with z | z
      · subst z; exact ⟨Sum.inl i, keyIs_int i t, rfl⟩
      · exact r e z
  | [], _ :: _, h => by simp [keysI] at h
  | _ :: _, [], h => by simp [keysI] at h
section
variable {X : Cx} {pos : Pos} {a b c e o : Expr} {ta tb tc te to ti : DT} {K : PySem.W.Frag}
theorem KInt.dict {P : Program} {w : World} {ad : Addr} {ks : List Int} (D : KInt K ad ks) {h : Heap} (I : K.In h) : ∃ kvs : List (Key × Value), h.DictOf (mixKind P w) ad kvs ∧ kvs.map (·.1) = ks.map Sum.inl := by
  obtain ⟨es, n, hl, hk⟩ := D.ex
  obtain ⟨kvs, p, q, r⟩ := keysI_pairs (P := P) (w := w) hk
  refine ⟨kvs, ⟨_, es, n, I _ _ hl, ⟨rfl, rfl, rfl⟩, rfl, fun e he => r e (by simpa using he), p, ?_⟩, q⟩
  rw [q]
  exact List.Pairwise.map _ (fun x y hxy z => hxy (Sum.inl.inj z)) D.nd
theorem valueAt_some {kvs : List (Key × Value)} {ks : List Int} (h : kvs.map (·.1) = ks.map Sum.inl) (i : Int) : (valueAt kvs (Sum.inl i : Key)).isSome = decide (i ∈ ks) := by
  unfold valueAt
  rw [Option.isSome_map, Bool.eq_iff_iff, List.find?_isSome, decide_eq_true_eq]
  constructor
  · rintro ⟨p, hp, e⟩
    have e' : p.1 = Sum.inl i := by simpa using e
    have : (Sum.inl i : Key) ∈ ks.map Sum.inl := by rw [← h, ← e']; exact List.mem_map_of_mem hp
    simpa using this
  · intro hi
    have : (Sum.inl i : Key) ∈ kvs.map (·.1) := by rw [h]; exact List.mem_map_of_mem hi
    obtain ⟨p, hp, e⟩ := List.mem_map.mp this
    exact ⟨p, hp, by simpa using e⟩
theorem op_inK {ad : Addr} {ks : List Int} (D : KInt X.K ad ks) : OpR X (compareOp .In) (fun x y H Q => ∃ i, x = .int i ∧ y = .ref ad ∧ Q (.bl (decide (i ∈ ks))) H) := by
  intro pins s σ H x y v u Q I rx ry h
  obtain ⟨i, rfl, rfl, q⟩ := h
  obtain ⟨t, rfl⟩ := rx
  cases ry
  obtain ⟨kvs, dd, e⟩ := D.dict (P := X.prog) (w := X.w) I.kIn
  refine wpAny_in_of (mixKind_int X.prog X.w i t) D.low dd.mapOf ?_
  rw [valueAt_some e]
  exact ⟨.bl _, H, I.tok _, rfl, q⟩
/-- x in D, D such a dict of the module -/
def dInK (ks : List Int) (ta : DT) : DT := fun δ μ Q => ta δ μ fun x μ1 => match x with
  | .d (.int i) => Q (.d (.bool (decide (i ∈ ks)))) μ1
  | _ => False
structure KName (K : PySem.W.Frag) (mg : Str → Option Value) (x : Str) (ks : List Int) : Prop where
  ex : ∃ ad, mg x = some (.ref ad) ∧ KInt K ad ks
theorem d_inK {x : Str} {p : Pos} {ks : List Int} (D : KName X.K X.mg x ks) (hg : Gl X x) (ha : DE X a ta) (hm : behindInMarks .In (.Name x p) = false := by rfl) (hdb : (x == ("__debug__" : Str)) = false := by decide) : DE X (.Compare a [.In] [.Name x p] pos) (dInK ks ta) := by
  obtain ⟨ad, m, D⟩ := D.ex
  exact pe_imp (pe_cmpR (op_inK D) ha (pe_glob (v := .ref ad) hg m rfl hdb) hm) fun σ H Q ⟨δ, μ, Qd, rs, rm, q, w⟩ => up_use rs rm q fun x μ1 v H1 e1 m1 r1 q1 => by
    split at q1
    · cases r1
      exact ⟨_, rfl, rfl, w (.d (.bool _)) μ1 _ H1 e1 m1 (Da.bl _) q1⟩
    · exact q1.elim
/-- a whole number of the module -/
structure KNum (mg : Str → Option Value) (x : Str) (n : Int) : Prop where
  ex : ∃ t, mg x = some (.int n t)
end
end DL

namespace DL
open PySem PySem.Spec PyProof.Rows L2
local macro_rules | `(tactic| walk_at "dl") => `(tactic| simp only [dVar, dC, dOp, dUn, rdI, rdI0, rdU, dChain, dB, dAnd, dOr, dNot, dAndV, dOrV, dNotV, dIf, rdIsN, rdNotN, isNone, aNil, aCons, allD, dTup, dLst, dLstC, dCall, rdEq, rdNe, rdIn, seqOf, rdIx, dNo, dPart, dSl, rdLen, rdTuple, rdList, rdSum, rdAll, rdAny, rdAbs, rdMax2, rdMin2, rdInt, rdStr, dIsi, rdRepr, sNext, sSeq, sBreak, sCont, sRet, sDrop, sIf, sNever, gdName, setAll, gdTup, sAsg, sPar, rdSetL, gdSub, dwList, dwTup, dwRange1, dwRange2, dwEnum, dwZip, wipeD, dLc, dLcC, dYes, sFor, dCallF, dCallK, rdPlus, rdEqX, rdNeX, dTr, dAppend, dInK, dstart, List.map_cons, List.map_nil, List.length_cons, List.length_nil, List.replicate_succ, List.replicate_zero, List.cons_append, List.nil_append, List.getElem?_cons_zero, List.getElem?_cons_succ, List.getElem?_nil, List.set_cons_zero, List.set_cons_succ, Option.map_some, Option.map_none, Option.bind_some, Option.bind_none, Nat.reduceSub, Nat.reduceAdd, if_true, if_false, Bool.false_eq_true, reduceIte, Nat.sub_zero, Nat.zero_add, reduceCtorEq])
theorem atI0 {α : Type} {x : α} {xs : List α} : atI (x :: xs) 0 = some x := by
  simp [atI, ixN]
theorem atI1 {α : Type} {x y : α} {xs : List α} : atI (x :: y :: xs) 1 = some y :=
  (show atI (x :: y :: xs) ((1 : Nat) : Int) = some y from atI_nat rfl)
/-- a comprehension whose element is a function of the item -/
theorem lcGo_pure {gd : DTG} {tt : DTT} {te : DT} {δw : DSt} {D : Addr} {fin : List PyData → Mu → Prop} {f : PyData → PyData} {p : PyData → Bool} : ∀ (ds acc : List PyData) (μ : Mu), μ D = some (.lst acc) → acc.length + ds.length ≤ 900000 →
    (∀ d ∈ ds, ∀ (μ : Mu) (K1 : DK) (K0 : Mu → Prop), (p d = true → K1 (.d (f d)) μ) → (p d = false → K0 μ) → gd (.d d) δw μ fun δ2 μ2 => tt δ2 μ2 fun b μ3 => if b = true then te δ2 μ3 K1 else K0 μ3) →
    (∀ μ', (∀ b, b ≠ D → μ' b = μ b) → μ' D = some (.lst (acc ++ (ds.filter p).map f)) → fin (acc ++ (ds.filter p).map f) μ') → lcGo gd tt te δw D fin ds acc μ
  | [], acc, μ, hD, hl, H, q => by
    unfold lcGo
    simpa using q μ (fun _ _ => rfl) (by simpa using hD)
  | d :: ds, acc, μ, hD, hl, H, q => by
    unfold lcGo
    refine H d List.mem_cons_self μ _ _ (fun hp => ?_) (fun hp => ?_)
    · refine ⟨hD, by simp at hl; omega, lcGo_pure ds (acc ++ [f d]) _ put_same (by simp at hl ⊢; omega) (fun e he => H e (List.mem_cons_of_mem _ he)) fun μ' h1 h2 => ?_⟩
      have e : acc ++ [f d] ++ (ds.filter p).map f = acc ++ ((d :: ds).filter p).map f := by simp [List.filter_cons, hp]
      rw [e] at h2 ⊢
      exact q μ' (fun b hb => (h1 b hb).trans (put_ne hb)) h2
    · refine ⟨hD, lcGo_pure ds acc μ hD (by simp at hl; omega) (fun e he => H e (List.mem_cons_of_mem _ he)) fun μ' h1 h2 => ?_⟩
      have e : (ds.filter p).map f = ((d :: ds).filter p).map f := by simp [List.filter_cons, hp]
      rw [e] at h2 ⊢
      exact q μ' h1 h2
theorem lc_pure {gd : DTG} {tt : DTT} {te : DT} {δw : DSt} {f : PyData → PyData} {p : PyData → Bool} {ds : List PyData} {μ : Mu} {fin : Addr → List PyData → Mu → Prop} (hl : ds.length ≤ 900000)
    (H : ∀ d ∈ ds, ∀ (μ : Mu) (K1 : DK) (K0 : Mu → Prop), (p d = true → K1 (.d (f d)) μ) → (p d = false → K0 μ) → gd (.d d) δw μ fun δ2 μ2 => tt δ2 μ2 fun b μ3 => if b = true then te δ2 μ3 K1 else K0 μ3)
    (q : ∀ D μ', del μ' D = μ → fin D ((ds.filter p).map f) μ') : ∀ D, μ D = none → lcGo gd tt te δw D (fin D) ds [] (put μ D (.lst [])) := fun D hD =>
  lcGo_pure ds [] _ put_same (by simpa using hl) H fun μ' h1 h2 => by
    have e : del μ' D = μ := by
      funext b
      by_cases hb : b = D
      · subst hb; rw [del_same, hD]
      · rw [del_ne hb, h1 b hb, put_ne hb]
    simpa using q D μ' e
end DL

namespace DL
open PySem PySem.Spec PyProof.Rows L2
section
variable {prog : Program} {w : World} {A : Around} {E : Value → Shared → Prop} {s : Shared}
end
section
variable {X : Cx} {pos : Pos} {a b c e o : Expr} {ta tb tc te to ti : DT} {K : PySem.W.Frag}
end
end DL

namespace DL
open PySem PySem.Spec PyProof.Rows L2

def Src (n : Nat) (μ : Mu) (p : Addr) : Prop := ∃ a b c : Int, μ p = some (.lst [.int a, .int b, .int c]) ∧ 0 ≤ b ∧ b < 10 ^ 30 ∧ 0 ≤ c ∧ c ≤ n
def Oth (p : Addr) (μ μ' : Mu) : Prop := ∀ b, b ≠ p → μ' b = μ b
theorem Src.mono {n m : Nat} {μ : Mu} {p : Addr} (s : Src n μ p) (h : n ≤ m) : Src m μ p := by
  obtain ⟨a, b, c, h1, h2, h3, h4, h5⟩ := s
  exact ⟨a, b, c, h1, h2, h3, h4, by omega⟩
theorem Src.ne {n : Nat} {μ : Mu} {p D : Addr} (s : Src n μ p) (h : μ D = none) : D ≠ p := by
  obtain ⟨a, b, c, h1, _⟩ := s
  rintro rfl
  rw [h] at h1; cases h1
theorem Src.at {n : Nat} {μ μ' : Mu} {p : Addr} (s : Src n μ p) (h : μ' p = μ p) : Src n μ' p := by
  obtain ⟨a, b, c, h1, h2⟩ := s
  exact ⟨a, b, c, h.trans h1, h2⟩
theorem Oth.refl (p : Addr) (μ : Mu) : Oth p μ μ := fun _ _ => rfl
theorem Oth.trans {p : Addr} {μ μ1 μ2 : Mu} (a : Oth p μ μ1) (b : Oth p μ1 μ2) : Oth p μ μ2 := fun c h => (b c h).trans (a c h)
theorem Oth.put {p : Addr} {μ : Mu} {c : Cell} : Oth p μ (put μ p c) := fun _ h => put_ne h
theorem bits_le {i : Int} {k : Nat} (h : i.natAbs < 2 ^ k) : Builtin.Int.intBits i ≤ k := by
  unfold Builtin.Int.intBits
  split
  · exact Nat.zero_le _
  · next h0 =>
    have h1 : i.natAbs ≠ 0 := by
      intro z
      apply h0
      have : i = 0 := Int.natAbs_eq_zero.mp z
      simp [this]
    have := (Nat.log2_lt h1).mpr h
    omega
theorem Bits.of {i j : Int} {a b : Nat} (h1 : Builtin.Int.intBits i ≤ a) (h2 : Builtin.Int.intBits j ≤ b) (h : a + b < 100000000) : Bits i j := by unfold Bits; omega
theorem divW {j : Int} (h : 0 < j) (h2 : j < 2 ^ 1000) : ∀ i, CDivW i j := fun _ => by
  refine ⟨h, ?_⟩
  have : j.natAbs < 2 ^ 1000 := by omega
  exact Nat.lt_of_lt_of_le ((Nat.log2_lt (by omega)).mpr this) (by decide)
theorem powB {i j : Int} {k : Nat} (h0 : 0 ≤ j) (h : Builtin.Int.intBits i ≤ k) (h2 : (k : Int) * j ≤ 2 ^ 27) : CPowB i j := ⟨h0, Int.le_trans (Int.mul_le_mul_of_nonneg_right (by omega) h0) h2⟩

mutual
/-- ints and tuples of such -/
def tupInt : PyData → Bool
  | .int i => decide (i.natAbs < 10 ^ 62)
  | .tuple xs => tupIntAll xs
  | _ => false
def tupIntAll : List PyData → Bool
  | [] => true
  | x :: xs => tupInt x && tupIntAll xs
end
theorem tupIntAll_iff : ∀ xs : List PyData, tupIntAll xs = true ↔ ∀ x ∈ xs, tupInt x = true
  | [] => by simp [tupIntAll]
  | x :: xs => by simp [tupIntAll, tupIntAll_iff xs]
/-- what may be shown -/
structure Sz (k n : Nat) (d : PyData) : Prop where
  lv : d.leavesShort 70 = true
  sh : d.showable = true
  dp : d.depth ≤ k
  bk : d.bulk ≤ n
  mx : d.hasDict = true → noList d = true
theorem Sz.show {k n : Nat} {d : PyData} (s : Sz k n d) (hk : k ≤ 60) (hn : n ≤ 100000) : Show d := by
  refine ⟨s.sh, ?_, Nat.le_trans s.dp hk, fun z => .inl (s.mx z)⟩
  have h := PyData.shown_le_bulk 70 (by decide) d s.lv
  have h2 := s.bk
  rw [sizeLine_eq]
  have h3 : (70 + 2) * d.bulk ≤ 72 * 100000 := Nat.mul_le_mul (by decide) (by omega)
  omega
structure Pl (k n : Nat) (d : PyData) : Prop where
  ti : tupInt d = true
  dp : d.depth ≤ k
  bk : d.bulk ≤ n
theorem Pl.mono {k n k' n' : Nat} {d : PyData} (h : Pl k n d) (hk : k ≤ k') (hn : n ≤ n') : Pl k' n' d := ⟨h.ti, Nat.le_trans h.dp hk, Nat.le_trans h.bk hn⟩
theorem Sz.mono {k n k' n' : Nat} {d : PyData} (h : Sz k n d) (hk : k ≤ k') (hn : n ≤ n') : Sz k' n' d := ⟨h.lv, h.sh, Nat.le_trans h.dp hk, Nat.le_trans h.bk hn, h.mx⟩
theorem Pl.int {i : Int} (h : i.natAbs < 10 ^ 62) : Pl 0 0 (.int i) := ⟨by simp [tupInt, h], by simp [PyData.depth], by simp [PyData.bulk]⟩
theorem depthAll_le {k : Nat} : ∀ {xs : List PyData}, (∀ x ∈ xs, x.depth ≤ k) → PyData.depthAll xs ≤ k
  | [], _ => by simp [PyData.depthAll]
  | x :: xs, h => by
    simp only [PyData.depthAll]
    have h1 := h x List.mem_cons_self
    have h2 := depthAll_le (xs := xs) fun y hy => h y (List.mem_cons_of_mem _ hy)
    omega
theorem bulkAll_le {n : Nat} : ∀ {xs : List PyData}, (∀ x ∈ xs, x.bulk ≤ n) → PyData.bulkAll xs ≤ xs.length * (n + 1)
  | [], _ => by simp [PyData.bulkAll]
  | x :: xs, h => by
    simp only [PyData.bulkAll, List.length_cons, Nat.succ_mul]
    have h1 := h x List.mem_cons_self
    have h2 := bulkAll_le (xs := xs) fun y hy => h y (List.mem_cons_of_mem _ hy)
    omega
theorem Pl.tup {k n m : Nat} {xs : List PyData} (h : ∀ x ∈ xs, Pl k n x) (hl : xs.length ≤ m) : Pl (k + 1) (m * (n + 1)) (.tuple xs) := by
  refine ⟨?_, ?_, ?_⟩
  · simp only [tupInt]; exact (tupIntAll_iff xs).mpr fun x hx => (h x hx).ti
  · simp only [PyData.depth]; have := depthAll_le fun x hx => (h x hx).dp; omega
  · simp only [PyData.bulk]
    exact Nat.le_trans (bulkAll_le fun x hx => (h x hx).bk) (Nat.mul_le_mul_right _ hl)
theorem Pl.pair {k n m : Nat} {a b : PyData} (h1 : Pl k n a) (h2 : Pl k m b) : Pl (k + 1) (n + m + 2) (.tuple [a, b]) := by
  refine ⟨?_, ?_, ?_⟩
  · simp only [tupInt, tupIntAll, h1.ti, h2.ti, Bool.and_true]
  · simp only [PyData.depth, PyData.depthAll]; have := h1.dp; have := h2.dp; omega
  · simp only [PyData.bulk, PyData.bulkAll]; have := h1.bk; have := h2.bk; omega
mutual
theorem tupInt_leaves : ∀ d : PyData, tupInt d = true → d.leavesShort 70 = true ∧ d.showable = true ∧ d.hasDict = false ∧ noList d = true
  | .int i, h => by
    have h' : i.natAbs < 10 ^ 62 := by simpa [tupInt] using h
    refine ⟨?_, ?_, by simp [PyData.hasDict], by simp [noList]⟩
    · have e : (PyData.shown (.int i)).length ≤ 70 := by
        show (Str.ofString (toString i)).length ≤ 70
        rw [PySem.ofString_length]
        exact Nat.le_trans (int_text_length_le10 (k := 62) (by decide) h') (by decide)
      simp only [PyData.leavesShort, decide_eq_true_eq]
      exact e
    · simp only [PyData.showable, decide_eq_true_eq]
      by_cases h0 : i.natAbs = 0
      · rw [h0]; decide
      · exact Nat.lt_of_lt_of_le ((Nat.log2_lt h0).mpr (Nat.lt_of_lt_of_le h' (by decide : 10 ^ 62 ≤ 2 ^ 207))) (by decide)
  | .tuple xs, h => by
    have := tupIntAll_leaves xs (by simpa only [tupInt] using h)
    simpa only [PyData.leavesShort, PyData.showable, PyData.hasDict, noList] using this
  | .none, h => by simp [tupInt] at h
  | .bool _, h => by simp [tupInt] at h
  | .str _, h => by simp [tupInt] at h
  | .list _, h => by simp [tupInt] at h
  | .dict _, h => by simp [tupInt] at h
theorem tupIntAll_leaves : ∀ xs : List PyData, tupIntAll xs = true → PyData.leavesShortAll 70 xs = true ∧ PyData.showableAll xs = true ∧ PyData.hasDictAll xs = false ∧ noListAll xs = true
  | [], _ => ⟨by simp [PyData.leavesShortAll], by simp [PyData.showableAll], by simp [PyData.hasDictAll], by simp [noListAll]⟩
  | x :: xs, h => by
    simp only [tupIntAll, Bool.and_eq_true] at h
    obtain ⟨a1, a2, a3, a4⟩ := tupInt_leaves x h.1
    obtain ⟨b1, b2, b3, b4⟩ := tupIntAll_leaves xs h.2
    simp [PyData.leavesShortAll, PyData.showableAll, PyData.hasDictAll, noListAll, a1, a2, a3, a4, b1, b2, b3, b4]
end
theorem Pl.sz {k n : Nat} {d : PyData} (h : Pl k n d) : Sz k n d := by
  obtain ⟨a, b, c, e⟩ := tupInt_leaves d h.ti
  exact ⟨a, b, h.dp, h.bk, fun z => by rw [c] at z; cases z⟩
end DL

namespace DL
open PySem PySem.Spec PyProof.Rows L2
section
variable {X : Cx} {pos : Pos} {tg iter elt : Expr} {ifs : List Expr} {te : DT} {tt : DTT} {wi : DTI} {g : TG} {gd : DTG} {scope : Scope} {own : List (Str × Nat)} {vs : List Nat}
/-- the same, the names' places told apart -/
theorem d_lcV {bb : Bool} (hc : X.calm = true) (hN : X.N.Nodup) (hi : DI bb X tg iter wi) (ok : BlkOk X.N X.env.scope scope own) (G : CompG bb X.K vs g gd)
    (hg : ∀ (s : Shared) (H : Hp) (C : Addr) (cl : List (Str × Addr)) (fp : List Addr), PG (X.blk s H scope (compEnvC scope cl C X.env) fp) tg g)
    (ht : ∀ (s : Shared) (H : Hp) (C : Addr) (cl : List (Str × Addr)) (fp : List Addr), DTs (X.blk s H scope (compEnvC scope cl C X.env) fp) ifs tt)
    (he : ∀ (s : Shared) (H : Hp) (C : Addr) (cl : List (Str × Addr)) (fp : List Addr), DE (X.blk s H scope (compEnvC scope cl C X.env) fp) elt te)
    (hv : own.map (·.2) = vs := by rfl) (hs : ∀ (x : Value), foldedSetIterable iter X.env x = pure x := by intro _; rfl) : DE X (.ListComp elt [⟨tg, iter, ifs, 0⟩] scope pos) (dLc wi gd tt te vs) := by
  subst hv
  exact d_lc hc hN hi ok G hg ht he hs
theorem d_lcCV {bb : Bool} (hc : X.calm = true) (hN : X.N.Nodup) (hi : DI bb X tg iter wi) (ok : BlkOk X.N X.env.scope scope own) (G : CompG bb X.K vs g gd)
    (hg : ∀ (s : Shared) (H : Hp) (C : Addr) (cl : List (Str × Addr)) (fp : List Addr), PG (X.blk s H scope (compEnvC scope cl C X.env) fp) tg g)
    (ht : ∀ (s : Shared) (H : Hp) (C : Addr) (cl : List (Str × Addr)) (fp : List Addr), DTs (X.blk s H scope (compEnvC scope cl C X.env) fp) ifs tt)
    (he : ∀ (s : Shared) (H : Hp) (C : Addr) (cl : List (Str × Addr)) (fp : List Addr), DE (X.blk s H scope (compEnvC scope cl C X.env) fp) elt te)
    (hv : own.map (·.2) = vs := by rfl) (hs : ∀ (x : Value), foldedSetIterable iter X.env x = pure x := by intro _; rfl) : DE X (.ListComp elt [⟨tg, iter, ifs, 0⟩] scope pos) (dLcC wi gd tt te vs) := by
  subst hv
  exact d_lcC hc hN hi ok G hg ht he hs
theorem s_setLcV {bb : Bool} {i : Nat} {y : Str} {py spos : Pos} (hc : X.calm = true) (hN : X.N.Nodup) (hy : X.N[i]? = some y) (hyl : X.env.scope.names.lookup y = some .local) (hsw : swapsWith (.ListComp elt [⟨tg, iter, ifs, 0⟩] scope pos) (some (.Name y py)) spos.line X.env = pure true)
    (hi : DI bb X tg iter wi) (ok : BlkOk X.N X.env.scope scope own) (G : CompG bb X.K vs g gd)
    (hg : ∀ (s : Shared) (H : Hp) (C : Addr) (cl : List (Str × Addr)) (fp : List Addr), PG (X.blk s H scope (compEnvC scope cl C X.env) fp) tg g)
    (ht : ∀ (s : Shared) (H : Hp) (C : Addr) (cl : List (Str × Addr)) (fp : List Addr), DTs (X.blk s H scope (compEnvC scope cl C X.env) fp) ifs tt)
    (he : ∀ (s : Shared) (H : Hp) (C : Addr) (cl : List (Str × Addr)) (fp : List Addr), DE (X.blk s H scope (compEnvC scope cl C X.env) fp) elt te)
    (hv : own.map (·.2) = vs := by rfl) (hs : ∀ (x : Value), foldedSetIterable iter X.env x = pure x := by intro _; rfl) : DS X (.Assign [.Name y py] (.ListComp elt [⟨tg, iter, ifs, 0⟩] scope pos) spos) (sAsg (dLc wi gd tt te vs) (gdName i)) := by
  subst hv
  exact s_setLc hc hN hy hyl hsw hi ok G hg ht he hs
end
section
variable {X : Cx} {pos : Pos} {x : Str} {p : Pos} {k : Nat} {ps : List Str} {sp : DSp} {st : Stmt} {tr : DTA}
end
end DL

namespace DL
open PySem PySem.Spec PyProof.Rows L2
section
variable {K : PySem.W.Frag} {h : Heap} {mg : Str → Option Value}
theorem def_mk {x : Str} {st : Stmt} {f : Addr} {oc : Value} {od an : Option Addr} {osl : Array (Option Value)} {kV doc pm cdv ct : Value} (X : K.In h) (G : h.Ns mainGlobals mg) (a : PySem.W.nsIn K mainGlobals x = some (some (.ref f)))
    (l : K.lookup f = some ⟨oc, od, .func (PySem.W.fnOf x x (defArgs st) (defBody st) (defScope st) .none kV doc pm an cdv ct), osl⟩) (c : PySem.W.codeIn K cdv x = true) (k : PySem.W.keepIn K (.ref f) = true) : DefM K mg x st :=
  ⟨⟨f, _, PySem.W.mg_of X G a, fun_mk (st := st) l c k⟩⟩
theorem kname_mk {x : Str} {ks : List Int} {ad : Addr} {es : Array DictEntry} {n : Nat} (X : K.In h) (G : h.Ns mainGlobals mg) (a : PySem.W.nsIn K mainGlobals x = some (some (.ref ad))) (l : K.lookup ad = some ⟨.type "dict", none, .dict es n, #[]⟩)
    (e : keysI es.toList ks = true) (nd : ks.Nodup) (o : (ad == sysModules) = false) : KName K mg x ks := ⟨⟨ad, PySem.W.mg_of X G a, ⟨⟨es, n, l, e⟩, nd, o⟩⟩⟩
end
theorem Cal.never {P : Program} {w : World} {K : PySem.W.Frag} {mg : Str → Option Value} {base : Heap} {k : Nat} {x : Str} {st : Stmt} {ps : List Str} (D : DefM K mg x st) : Cal P w K mg base k x st ps (fun _ _ _ => False) := by
  obtain ⟨f, fd, m, F⟩ := D.ex
  exact ⟨f, fd, ⟨fun _ _ _ h => h.elim, fun _ _ _ _ _ _ _ _ _ _ _ _ _ _ _ _ _ h _ => h.elim⟩, m, F⟩
theorem bl_mk {K : PySem.W.Frag} {h : Heap} {mg : Str → Option Value} (X : K.In h) (G : h.Ns mainGlobals mg)
    (b_isinstance : PySem.W.nsIn K mainGlobals "isinstance" = some none) (b_int : PySem.W.nsIn K mainGlobals "int" = some none) (b_bool : PySem.W.nsIn K mainGlobals "bool" = some none) (b_str : PySem.W.nsIn K mainGlobals "str" = some none) (b_tuple : PySem.W.nsIn K mainGlobals "tuple" = some none) (b_list : PySem.W.nsIn K mainGlobals "list" = some none) (b_dict : PySem.W.nsIn K mainGlobals "dict" = some none) (b_len : PySem.W.nsIn K mainGlobals "len" = some none) (b_all : PySem.W.nsIn K mainGlobals "all" = some none) (b_any : PySem.W.nsIn K mainGlobals "any" = some none) (b_sum : PySem.W.nsIn K mainGlobals "sum" = some none) (b_abs : PySem.W.nsIn K mainGlobals "abs" = some none) (b_max : PySem.W.nsIn K mainGlobals "max" = some none) (b_min : PySem.W.nsIn K mainGlobals "min" = some none) (b_repr : PySem.W.nsIn K mainGlobals "repr" = some none) (b_range : PySem.W.nsIn K mainGlobals "range" = some none) (b_enumerate : PySem.W.nsIn K mainGlobals "enumerate" = some none) (b_zip : PySem.W.nsIn K mainGlobals "zip" = some none) (b_reversed : PySem.W.nsIn K mainGlobals "reversed" = some none) (b_sorted : PySem.W.nsIn K mainGlobals "sorted" = some none) (b_set : PySem.W.nsIn K mainGlobals "set" = some none) : Bl mg := ⟨PySem.W.mg_none_of X G b_isinstance, PySem.W.mg_none_of X G b_int, PySem.W.mg_none_of X G b_bool, PySem.W.mg_none_of X G b_str, PySem.W.mg_none_of X G b_tuple, PySem.W.mg_none_of X G b_list, PySem.W.mg_none_of X G b_dict, PySem.W.mg_none_of X G b_len, PySem.W.mg_none_of X G b_all, PySem.W.mg_none_of X G b_any, PySem.W.mg_none_of X G b_sum, PySem.W.mg_none_of X G b_abs, PySem.W.mg_none_of X G b_max, PySem.W.mg_none_of X G b_min, PySem.W.mg_none_of X G b_repr, PySem.W.mg_none_of X G b_range, PySem.W.mg_none_of X G b_enumerate, PySem.W.mg_none_of X G b_zip, PySem.W.mg_none_of X G b_reversed, PySem.W.mg_none_of X G b_sorted, PySem.W.mg_none_of X G b_set⟩
end DL

namespace DL
open PySem PySem.Spec PyProof.Rows L2

def tget (t : List (Int × Int)) (k : Int) : Option Int := (t.find? fun p => decide (p.1 = k)).map (·.2)
def tput (t : List (Int × Int)) (k v : Int) : List (Int × Int) := if (t.any fun p => decide (p.1 = k)) = true then t.map (fun p => if p.1 = k then (p.1, v) else p) else t ++ [(k, v)]
def tbl (t : List (Int × Int)) : Cell := .dct (t.map fun p => ((Sum.inl p.1 : Key), PyData.int p.2))
def vt (t : List (Int × Int)) : List (Key × V) := t.map fun p => ((Sum.inl p.1 : Key), V.int p.2)
theorem v_tbl {K : PySem.W.Frag} {μ : Mu} {H : Hp} {a : Addr} {t : List (Int × Int)} (h : H a = some (.dK (vt t))) : CellOk K μ H a (tbl t) := by
  refine ⟨vt t, h, by simp [vt, Function.comp_def], ?_⟩
  have e : ((t.map fun p => ((Sum.inl p.1 : Key), PyData.int p.2)).map (·.2)) = (t.map (·.2)).map PyData.int := by simp [Function.comp_def]
  have e2 : (vt t).map (·.2) = (t.map (·.2)).map V.int := by simp [vt, Function.comp_def]
  rw [e, e2]
  exact DaAll.ints _
theorem inl_eq {a b : Int} : ((Sum.inl a : Key) = Sum.inl b) ↔ a = b := ⟨fun h => Sum.inl.inj h, fun h => by rw [h]⟩
section
variable {X : Cx} {pos : Pos} {a b c e f o i : Expr} {ta tb tc te tf to ti : DT} {K : PySem.W.Frag}
/-- {} as a cell -/
def dDictC : DT := fun _ μ Q => ∀ p, μ p = none → Q (.cell p) (put μ p (tbl []))
theorem d_dictC : DE X (.Dict [] [] pos) dDictC := pe_imp pe_dnewK fun σ H Q ⟨δ, μ, Qd, rs, rm, q, w⟩ p hp =>
  w (.cell p) _ _ _ (ext_cell hp) (rm.cell hp (v_tbl (t := []) upd_same)) rfl (q p (rm.free hp))
end

end DL

namespace DL
open PySem PySem.Spec PyProof.Rows L2
section
variable {X : Cx} {pos : Pos} {a b c e f o i tg : Expr} {ta tb tc te tf to ti : DT} {K : PySem.W.Frag}
def rdListC : DRA := fun ds μ Q => match ds with
  | [.d (.list xs)] => ∀ p, μ p = none → Q (.cell p) (put μ p (.lst xs))
  | [.d (.tuple xs)] => ∀ p, μ p = none → Q (.cell p) (put μ p (.lst xs))
  | _ => False
theorem u_listC : UpA K rdListC (fun xs H Q => ∃ p ys, xs = [.ref p] ∧ (SqL K H p ys ∨ SqT K H p ys) ∧ ∀ l, H l = none → Q (.ref l) (upd H l (.lst ys))) := fun ds μ Qd vs H Q m r q w => by
  unfold rdListC at q
  split at q
  · next xs =>
    cases r with
    | cons r t0 =>
      cases t0
      cases (show Da K (hid μ H) _ (.list xs) from r) with
      | @lst p ys _ s t =>
        refine ⟨p, ys, rfl, .inl (unhid.seq s), fun l hl => w (.cell l) (put μ l (.lst xs)) _ _ (ext_cell hl) (m.cell (c := .lst xs) hl ⟨ys, upd_same, t.mono (ext_cell hl)⟩) rfl (q l (m.free hl))⟩
  · next xs =>
    cases r with
    | cons r t0 =>
      cases t0
      cases (show Da K (hid μ H) _ (.tuple xs) from r) with
      | @tup p ys _ s t =>
        refine ⟨p, ys, rfl, .inr (same_seqT unhid s), fun l hl => w (.cell l) (put μ l (.lst xs)) _ _ (ext_cell hl) (m.cell (c := .lst xs) hl ⟨ys, upd_same, t.mono (ext_cell hl)⟩) rfl (q l (m.free hl))⟩
  · exact q.elim
end
/-- the tuples that stand at the entries -/
inductive KVals (K : PySem.W.Frag) : List DictEntry → List (Int × List Int) → Prop
  | nil : KVals K [] []
  | cons {h k : Int} {tk : Tok} {es : List DictEntry} {ns : List Int} {t : List (Int × List Int)} {b : Addr} {o : Obj} {its : Array Value} {n : Nat} : h = hashInt k → K.lookup b = some o → TupO o → o.data = .seq its n → its.size ≤ 1000 → IntsAre its.toList ns → KVals K es t → KVals K (⟨h, .int k tk, .ref b⟩ :: es) ((k, ns) :: t)
structure KTup (K : PySem.W.Frag) (mg : Str → Option Value) (x : Str) (t : List (Int × List Int)) : Prop where
  ex : ∃ (ad : Addr) (es : Array DictEntry) (n : Nat), mg x = some (.ref ad) ∧ K.lookup ad = some ⟨.type "dict", none, .dict es n, #[]⟩ ∧ KVals K es.toList t ∧ (t.map (·.1)).Nodup ∧ (ad == sysModules) = false
def lkp (t : List (Int × List Int)) (k : Int) : Option (List Int) := (t.find? fun p => decide (p.1 = k)).map (·.2)
theorem KVals.use {K : PySem.W.Frag} {P : Program} {w : World} {es : List DictEntry} {t : List (Int × List Int)} (h : KVals K es t) : ∃ kvs : List (Key × Value), Pairs (mixKind P w) es kvs ∧ kvs.map (·.1) = (t.map (·.1)).map Sum.inl ∧ (∀ e ∈ es, ∃ k, (mixKind P w).is k e.key = true ∧ e.hash = (mixKind P w).hash k) ∧
    ∀ k ns, lkp t k = some ns → ∃ (b : Addr), valueAt kvs (Sum.inl k : Key) = some (.ref b) ∧ ∀ H : Hp, SqP K H b (ns.map V.int) := by
  induction h with
  | nil => exact ⟨[], .nil, rfl, fun e h => (by cases h), fun k ns e => (by simp [lkp] at e)⟩
  | @cons hh k tk es ns t b o its n h0 h1 h2 h3 h4 h5 _ ih =>
    obtain ⟨kvs, a1, a2, a3, a4⟩ := ih
    subst h0
    refine ⟨(Sum.inl k, .ref b) :: kvs, .cons (keyIs_int k tk) rfl a1, by rw [List.map_cons, List.map_cons, List.map_cons, a2], fun e he => ?_, fun k2 ns2 e => ?_⟩
    · rcases List.mem_cons.mp he with z | z
      · subst z; exact ⟨Sum.inl k, keyIs_int k tk, rfl⟩
      · exact a3 e z
    · unfold lkp at e
      rw [List.find?_cons] at e
      by_cases hk : k = k2
      · subst hk
        simp only [decide_true, Option.map_some, Option.some.injEq] at e
        subst e
        refine ⟨b, by simp [valueAt], fun H => .inr ⟨o, its, n, h1, h2, h3, Nat.le_trans h4 (by decide), vals_of_ints h5⟩⟩
      · simp only [hk, decide_false] at e
        obtain ⟨b2, c1, c2⟩ := a4 k2 ns2 e
        refine ⟨b2, ?_, c2⟩
        rw [← c1]
        unfold valueAt
        rw [List.find?_cons, decide_eq_false (show ¬ (Sum.inl k : Key) = Sum.inl k2 from fun z => hk (Sum.inl.inj z))]
/-- D[k], D such a dict -/
def dIxK (t : List (Int × List Int)) (ti : DT) : DT := fun δ μ Q => ti δ μ fun y μ1 => match y with
  | .d (.int k) => match lkp t k with
    | some ns => Q (.d (.tuple (ns.map .int))) μ1
    | none => False
  | _ => False
theorem d_ixK {X : Cx} {i : Expr} {ti : DT} {x : Str} {p pos : Pos} {t : List (Int × List Int)} (D : KTup X.K X.mg x t) (hg : Gl X x) (hi : DE X i ti) (hs : NoSl i := by exact fun _ _ => rfl) (hdb : (x == ("__debug__" : Str)) = false := by decide) :
    DE X (.Subscript (.Name x p) i pos) (dIxK t ti) := by
  obtain ⟨ad, es, n, m, l, kv, nd, low⟩ := D.ex
  obtain ⟨kvs, a1, a2, a3, a4⟩ := KVals.use (P := X.prog) (w := X.w) kv
  refine ⟨fun pins s σ H Q I ⟨δ, μ, Qd, rs, rm, q, w⟩ => ?_⟩
  refine subD_of PySem.F.slot_dict_getitem.lookup hs (thn ((pe_glob (v := .ref ad) hg m rfl hdb).run pins s σ H (fun v H1 => v = .ref ad ∧ H1 = H) I ⟨rfl, rfl⟩) fun u s1 ⟨x1, H1, I1, rx, q1⟩ => ?_)
  obtain ⟨rfl, rfl⟩ := q1
  obtain rfl : u = Value.ref ad := rx
  refine thn (hi.run pins s1 σ _ (fun y H2 => ∃ k ns μ2, y = .int k ∧ lkp t k = some ns ∧ Ext μ H1 μ2 H2 ∧ RM X.K μ2 H2 ∧ Qd (.d (.tuple (ns.map .int))) μ2) I1 (up_use rs rm q fun y μ1 v H2 e1 m1 r1 q1 => ?_)) fun iv s2 ⟨y, H2, I2, ry, k, ns, μ2, ey, el, e2, m2, q2⟩ => ?_
  · split at q1
    · next k =>
      split at q1
      · next ns e =>
        cases (show Da X.K (hid μ1 H2) v (.int k) from r1)
        exact ⟨k, ns, μ1, rfl, e, e1, m1, q1⟩
      · exact q1.elim
    · exact q1.elim
  · subst ey
    obtain ⟨tk, rfl⟩ := ry
    have dd : s2.heap.DictOf (mixKind X.prog X.w) ad kvs := ⟨_, es, n, I2.kIn _ _ l, ⟨rfl, rfl, rfl⟩, rfl, fun e he => a3 e (by simpa using he), a1, by rw [a2]; exact List.Pairwise.map _ (fun x y hxy z => hxy (Sum.inl.inj z)) nd⟩
    obtain ⟨b, c1, c2⟩ := a4 k ns el
    refine ⟨dd.typeIs, wpAny_getItem_of (mixKind_int X.prog X.w k tk) dd.mapOf c1 ?_⟩
    exact ⟨.ref b, H2, I2.tok _, rfl, w (.d (.tuple (ns.map .int))) μ2 _ H2 e2 m2 (.tup (c2 _) (DaAll.ints ns)) q2⟩
end DL

namespace DL
open PySem PySem.Spec PyProof.Rows L2
section
variable {X : Cx} {pos : Pos} {a b c : Expr} {ta tb tc : DT}
end
end DL

namespace DL
open PySem PySem.Spec PyProof.Rows L2
section
variable {P : Program} {w : World} {A : Around} {E : Value → Shared → Prop} {s : Shared}
end
end DL

namespace DL
open PySem PySem.Spec PyProof.Rows L2
section
variable {P : Program} {w : World} {A : Around} {E : Value → Shared → Prop} {s : Shared}
end
end DL

namespace DL
open PySem PySem.Spec PyProof.Rows L2
section
variable {X : Cx}
variable {pos p p2 pos2 : Pos} {e : Expr} {te : DT}
end
end DL

namespace DL
open PySem PySem.Spec PyProof.Rows L2
section
variable {X : Cx} {pos : Pos} {a b c e tg : Expr} {ta tb tc te : DT} {K : PySem.W.Frag}
end
end DL

namespace DL
open PySem PySem.Spec PyProof.Rows L2
section
variable {X : Cx} {pos p p2 pos2 : Pos} {a b e : Expr} {ta tb te : DT} {K : PySem.W.Frag}
def rdRepC : DR2 := fun x y μ Q => match x, y with
  | .cell l, .d (.int k) => ∃ xs, μ l = some (.lst xs) ∧ -(2 ^ 63) ≤ k ∧ k < 2 ^ 63 ∧ xs.length * k.toNat ≤ 900000 ∧ ∀ r, μ r = none → Q (.cell r) (put μ r (.lst (List.replicate k.toNat xs).flatten))
  | _, _ => False
theorem da_rep {H : Hp} {vs : List V} {xs : List PyData} (h : DaAll K H vs xs) : ∀ n : Nat, DaAll K H (List.replicate n vs).flatten (List.replicate n xs).flatten
  | 0 => .nil
  | n + 1 => by rw [List.replicate_succ, List.replicate_succ, List.flatten_cons, List.flatten_cons]; exact h.append (da_rep h n)
theorem u_repC : Up2 K rdRepC rRep := fun x y μ Qd v u H Q m rx ry q w => by
  unfold rdRepC at q
  split at q
  · next l k =>
    obtain ⟨xs, hx, h1, h2, hl, q⟩ := q
    cases (show v = .ref l from rx)
    cases (show Da K (hid μ H) u (.int k) from ry)
    obtain ⟨vs, g1, g2⟩ := m l _ hx
    refine ⟨l, k, vs, rfl, rfl, g1, h1, h2, by rw [g2.length]; exact Nat.le_trans hl (by decide), fun r hr => ?_⟩
    exact w (.cell r) (put μ r (.lst (List.replicate k.toNat xs).flatten)) _ _ (ext_cell hr) (m.cell (c := .lst (List.replicate k.toNat xs).flatten) hr ⟨_, upd_same, (da_rep g2 _).mono (ext_cell hr)⟩) rfl (q r (m.free hr))
  · exact q.elim
theorem d_repC (ha : DE X a ta) (hb : DE X b tb) : DE X (.BinOp a .Mult b pos) (dOp rdRepC ta tb) := d_op op_rep u_repC ha hb
end
end DL

namespace RF
open DL
abbrev Tm := List (Int × Int)
def ev (l : Tm) (f : Int → Int) : Int := (l.map fun p => p.2 * f p.1).sum
theorem ev_nil {f : Int → Int} : ev [] f = 0 := rfl
theorem ev_cons {p : Int × Int} {l : Tm} {f : Int → Int} : ev (p :: l) f = p.2 * f p.1 + ev l f := by simp [ev]
theorem ev_congr : ∀ {l : Tm} {f g : Int → Int}, (∀ p ∈ l, f p.1 = g p.1) → ev l f = ev l g
  | [], f, g, _ => rfl
  | p :: l, f, g, h => by rw [ev_cons, ev_cons, h p List.mem_cons_self, ev_congr fun q hq => h q (List.mem_cons_of_mem _ hq)]
theorem ev_add : ∀ {l : Tm} {f g : Int → Int}, ev l (fun x => f x + g x) = ev l f + ev l g
  | [], f, g => rfl
  | p :: l, f, g => by
    have ih := ev_add (l := l) (f := f) (g := g)
    rw [ev_cons, ev_cons, ev_cons, ih, Int.mul_add]; omega
theorem ev_mul : ∀ {l : Tm} {c : Int} {f : Int → Int}, ev l (fun x => c * f x) = c * ev l f
  | [], c, f => by simp [ev_nil]
  | p :: l, c, f => by
    have ih := ev_mul (l := l) (c := c) (f := f)
    rw [ev_cons, ev_cons, ih, Int.mul_add, Int.mul_left_comm]
theorem ev_zero : ∀ {l : Tm}, ev l (fun _ => 0) = 0
  | [] => rfl
  | p :: l => by rw [ev_cons, ev_zero]; simp
theorem ev_swap : ∀ {a b : Tm} {f : Int → Int → Int}, ev a (fun p => ev b (fun q => f p q)) = ev b (fun q => ev a (fun p => f p q))
  | [], b, f => by simp only [ev_nil]; exact ev_zero.symm
  | p :: a, b, f => by
    simp only [ev_cons]
    rw [ev_swap (a := a), ev_add, ev_mul]
def Md (m a b : Int) : Prop := m ∣ a - b
theorem Md.refl {m a : Int} : Md m a a := ⟨0, by simp⟩
theorem Md.of {m a b : Int} (h : a = b) : Md m a b := h ▸ Md.refl
theorem Md.symm {m a b : Int} : Md m a b → Md m b a := fun ⟨k, h⟩ => ⟨-k, by rw [Int.mul_neg]; omega⟩
theorem Md.trans {m a b c : Int} : Md m a b → Md m b c → Md m a c := fun ⟨k, h⟩ ⟨l, g⟩ => ⟨k + l, by rw [Int.mul_add]; omega⟩
theorem Md.add {m a b c d : Int} : Md m a b → Md m c d → Md m (a + c) (b + d) := fun ⟨k, h⟩ ⟨l, g⟩ => ⟨k + l, by rw [Int.mul_add]; omega⟩
theorem Md.mul {m a b c : Int} : Md m a b → Md m (c * a) (c * b) := fun ⟨k, h⟩ => ⟨c * k, by rw [← Int.mul_sub, h, Int.mul_left_comm]⟩
theorem Md.mulr {m a b c : Int} : Md m a b → Md m (a * c) (b * c) := fun h => by rw [Int.mul_comm a, Int.mul_comm b]; exact h.mul
theorem Md.rest {m a : Int} : Md m (a % m) a := ⟨-(a / m), by have := Int.mul_ediv_add_emod a m; rw [Int.mul_neg]; omega⟩
theorem Md.eq {m a b : Int} (h : Md m a b) (ha : 0 ≤ a) (ha2 : a < m) (hb : 0 ≤ b) (hb2 : b < m) : a = b := by
  have e := Int.emod_emod_of_dvd a (Int.dvd_refl m)
  have h2 := Int.emod_eq_emod_iff_emod_sub_eq_zero.mpr (Int.emod_eq_zero_of_dvd h)
  rw [Int.emod_eq_of_lt ha ha2, Int.emod_eq_of_lt hb hb2] at h2
  exact h2
theorem ev_md {m : Int} : ∀ {l : Tm} {f g : Int → Int}, (∀ x, Md m (f x) (g x)) → Md m (ev l f) (ev l g)
  | [], f, g, _ => .refl
  | p :: l, f, g, h => by rw [ev_cons, ev_cons]; exact (h _).mul.add (ev_md h)
structure Cn (m : Int) (r : Tm) : Prop where
  so : r.Pairwise fun a b => a.1 < b.1
  vl : ∀ p ∈ r, 0 < p.2 ∧ p.2 < m
def ind (x : Int) : Int → Int := fun y => if y = x then 1 else 0
theorem co_not : ∀ {r : Tm} {x : Int}, (∀ p ∈ r, p.1 ≠ x) → ev r (ind x) = 0
  | [], x, _ => rfl
  | p :: r, x, h => by
    rw [ev_cons, co_not fun q hq => h q (List.mem_cons_of_mem _ hq)]
    simp [ind, h p List.mem_cons_self]
theorem co_mem : ∀ {r : Tm} {x v : Int}, r.Pairwise (fun a b => a.1 < b.1) → (x, v) ∈ r → ev r (ind x) = v
  | p :: r, x, v, h, hm => by
    rw [List.pairwise_cons] at h
    rw [ev_cons]
    rcases List.mem_cons.mp hm with e | hm
    · subst e
      rw [co_not fun q hq => by have := h.1 q hq; dsimp only at this; omega]
      simp [ind]
    · have := h.1 _ hm
      rw [co_mem h.2 hm]
      have : p.1 ≠ x := by dsimp only at this; omega
      simp [ind, this]
theorem co_cases {m : Int} {r : Tm} (c : Cn m r) (hm : 0 < m) (x : Int) : 0 ≤ ev r (ind x) ∧ ev r (ind x) < m ∧ (ev r (ind x) ≠ 0 → (x, ev r (ind x)) ∈ r) := by
  by_cases h : ∃ p ∈ r, p.1 = x
  · obtain ⟨p, hp, rfl⟩ := h
    have e := co_mem c.so (x := p.1) (v := p.2) hp
    have v := c.vl p hp
    rw [e]
    exact ⟨by omega, v.2, fun _ => hp⟩
  · have e := co_not (r := r) (x := x) fun p hp z => h ⟨p, hp, z⟩
    rw [e]
    exact ⟨by omega, hm, fun z => absurd rfl z⟩
theorem Cn.sub {m : Int} {r s : Tm} (c : Cn m r) (d : Cn m s) (hm : 0 < m) (h : ∀ f, Md m (ev r f) (ev s f)) : ∀ p, p ∈ r → p ∈ s := fun ⟨x, v⟩ hp => by
  have e := co_mem c.so hp
  have v1 := c.vl _ hp
  dsimp only at v1
  obtain ⟨s1, s2, s3⟩ := co_cases d hm x
  have e2 := (h (ind x)).eq (by omega) (by omega) s1 s2
  have := s3 (by omega)
  rw [← e2, e] at this
  exact this
def IsP (m : Int) (a b r : Tm) : Prop := Cn m r ∧ ∀ f, Md m (ev r f) (ev a fun p => ev b fun q => f (p + q))
def pev (a : Tm) : Nat → (Int → Int) → Int
  | 0, f => f 0
  | n + 1, f => pev a n fun p => ev a fun q => f (p + q)
def IsW (m : Int) (a : Tm) (n : Nat) (r : Tm) : Prop := Cn m r ∧ ∀ f, Md m (ev r f) (pev a n f)
theorem pev_congr {a : Tm} : ∀ {n : Nat} {f g : Int → Int}, (∀ x, f x = g x) → pev a n f = pev a n g := fun {n f g} h => by rw [show f = g from funext h]
theorem pev_add {a : Tm} {i : Nat} : ∀ {j : Nat} {f : Int → Int}, pev a (i + j) f = pev a i fun p => pev a j fun q => f (p + q)
  | 0, f => pev_congr fun x => by simp [pev]
  | j + 1, f => by
    show pev a (i + j) (fun p => ev a fun q => f (p + q)) = _
    rw [pev_add]
    refine pev_congr fun p => ?_
    show _ = pev a j fun s => ev a fun q => f (p + (s + q))
    exact pev_congr fun s => ev_congr fun q _ => by rw [Int.add_assoc]
theorem IsW.zero {m : Int} {a : Tm} (hm : 1 < m) : IsW m a 0 [(0, 1)] := ⟨⟨by simp, by simpa using hm⟩, fun f => .of (by simp [ev_cons, ev_nil, pev])⟩
theorem IsW.one {m : Int} {a : Tm} (c : Cn m a) : IsW m a 1 a := ⟨c, fun f => .of (by
  show _ = ev a fun q => f (0 + q)
  exact ev_congr fun q _ => by rw [Int.zero_add])⟩
theorem IsW.mul {m : Int} {a r s u : Tm} {i j : Nat} (h : IsW m a i r) (g : IsW m a j s) (k : IsP m r s u) : IsW m a (i + j) u := ⟨k.1, fun f => by
  refine (k.2 f).trans ?_
  rw [pev_add]
  exact (ev_md fun p => g.2 _).trans (h.2 _)⟩
def Wd (A : Nat) (r : Tm) : Prop := ∀ p ∈ r, p.1.natAbs ≤ A
theorem Wd.mono {A B : Nat} {r : Tm} (h : Wd A r) (hl : A ≤ B) : Wd B r := fun p hp => Nat.le_trans (h p hp) hl
theorem len_of : ∀ {r : Tm} {lo hi : Int}, r.Pairwise (fun a b => a.1 < b.1) → (∀ p ∈ r, lo ≤ p.1 ∧ p.1 ≤ hi) → (r.length : Int) ≤ max 0 (hi - lo + 1)
  | [], lo, hi, _, _ => by simp only [List.length_nil]; omega
  | p :: r, lo, hi, h, w => by
    rw [List.pairwise_cons] at h
    have hp := w p List.mem_cons_self
    have := len_of (lo := p.1 + 1) (hi := hi) h.2 fun q hq => ⟨by have := h.1 q hq; omega, (w q (List.mem_cons_of_mem _ hq)).2⟩
    simp only [List.length_cons]
    omega
theorem Cn.len {m : Int} {r : Tm} {A : Nat} (c : Cn m r) (w : Wd A r) : r.length ≤ 2 * A + 1 := by
  have := len_of (lo := -(A : Int)) (hi := A) c.so fun p hp => by have := w p hp; omega
  omega
def ins : Tm → Int → Int → Tm
  | [], k, v => [(k, v)]
  | p :: t, k, v => if p.1 = k then (p.1, p.2 + v) :: t else p :: ins t k v
theorem tput_no {t : Tm} {k v : Int} (h : ∀ p ∈ t, p.1 ≠ k) : t.map (fun p => if p.1 = k then (p.1, v) else p) = t := by
  induction t with
  | nil => rfl
  | cons p t ih =>
    rw [List.map_cons, ih fun q hq => h q (List.mem_cons_of_mem _ hq), if_neg (h p List.mem_cons_self)]
theorem put_ins : ∀ {t : Tm} {k v : Int}, (t.map (·.1)).Nodup → tput t k ((tget t k).getD 0 + v) = ins t k v
  | [], k, v, _ => by simp [tput, tget, ins]
  | p :: t, k, v, h => by
    rw [List.map_cons, List.nodup_cons] at h
    by_cases hk : p.1 = k
    · have e1 : tget (p :: t) k = some p.2 := by simp [tget, hk]
      have e2 : ((p :: t).any fun p => decide (p.1 = k)) = true := by simp [hk]
      rw [e1]
      unfold tput ins
      rw [if_pos e2, if_pos hk, List.map_cons, if_pos hk, tput_no fun q hq z => h.1 (by rw [hk, ← z]; exact List.mem_map_of_mem hq)]
      rfl
    · have e1 : tget (p :: t) k = tget t k := by simp [tget, hk]
      have e2 : ((p :: t).any fun p => decide (p.1 = k)) = (t.any fun p => decide (p.1 = k)) := by simp [hk]
      have ih := put_ins (k := k) (v := v) h.2
      rw [e1]
      unfold ins
      rw [if_neg hk, ← ih]
      unfold tput
      rw [e2]
      split
      · rw [List.map_cons, if_neg hk]
      · rfl
theorem ins_ev : ∀ {t : Tm} {k v : Int} {f : Int → Int}, ev (ins t k v) f = ev t f + v * f k
  | [], k, v, f => by simp [ins, ev_cons, ev_nil]
  | p :: t, k, v, f => by
    unfold ins
    split
    · next h => subst h; simp only [ev_cons, Int.add_mul]; omega
    · simp only [ev_cons, ins_ev]; omega
theorem ins_len : ∀ {t : Tm} {k v : Int}, (ins t k v).length ≤ t.length + 1
  | [], k, v => by simp [ins]
  | p :: t, k, v => by
    unfold ins
    split
    · simp
    · have := ins_len (t := t) (k := k) (v := v); simp only [List.length_cons]; omega
theorem ins_key : ∀ {t : Tm} {k v x : Int}, x ∈ (ins t k v).map (·.1) → x = k ∨ x ∈ t.map (·.1)
  | [], k, v, x, h => by simpa [ins] using h
  | p :: t, k, v, x, h => by
    unfold ins at h
    split at h
    · exact .inr (by simpa using h)
    · rw [List.map_cons] at h ⊢
      rcases List.mem_cons.mp h with e | h
      · exact .inr (by rw [e]; exact List.mem_cons_self)
      · exact (ins_key h).imp id fun z => List.mem_cons_of_mem _ z
theorem ins_nd : ∀ {t : Tm} {k v : Int}, (t.map (·.1)).Nodup → ((ins t k v).map (·.1)).Nodup
  | [], k, v, _ => by simp [ins]
  | p :: t, k, v, h => by
    unfold ins
    split
    · simpa using h
    · next hk =>
      rw [List.map_cons, List.nodup_cons] at h ⊢
      exact ⟨fun z => (ins_key z).elim hk h.1, ins_nd h.2⟩
structure Tb (t : Tm) (n : Nat) (F : (Int → Int) → Int) : Prop where
  nd : (t.map (·.1)).Nodup
  ln : t.length ≤ n
  ev : ∀ f, ev t f = F f
theorem Tb.nil : Tb [] 0 (fun _ => 0) := ⟨by simp, by simp, fun f => rfl⟩
theorem Tb.ins {t : Tm} {n : Nat} {F : (Int → Int) → Int} (h : Tb t n F) {k v : Int} : Tb (ins t k v) (n + 1) (fun f => F f + v * f k) := ⟨ins_nd h.nd, Nat.le_trans ins_len (by have := h.ln; omega), fun f => by rw [ins_ev, h.ev]⟩
end RF

namespace FL
open PySem PySem.Spec PyProof.Rows L2 DL

inductive FV where
  | d (x : PyData)
  | c (x : Cell)
  | b (x : Cell)
abbrev FSt := List (Option FV)
/-- what an expression tells: data, the container in a slot, a new container -/
inductive FR where
  | val (x : PyData)
  | ref (i : Nat)
  | own (c : Cell)
structure Exc where
  cls : Str
  val : PyData
inductive R (α : Type) where
  | no
  | ok (a : α) (ε : FSt)
  | ex (e : Exc) (ε : FSt)
def R.bind {α β : Type} (r : R α) (f : α → FSt → R β) : R β := match r with
  | .no => .no
  | .ok a ε => f a ε
  | .ex e ε => .ex e ε
theorem R.bind_ok {α β : Type} {a : α} {ε : FSt} {f : α → FSt → R β} : (R.ok a ε).bind f = f a ε := rfl
theorem R.bind_ex {α β : Type} {e : Exc} {ε : FSt} {f : α → FSt → R β} : (R.ex e ε : R α).bind f = .ex e ε := rfl
def getC (ε : FSt) (i : Nat) : Option Cell := match ε[i]? with
  | some (some (.c c)) => some c
  | some (some (.b c)) => some c
  | _ => none
def setC (ε : FSt) (i : Nat) (c : Cell) : FSt := match ε[i]? with
  | some (some (.c _)) => ε.set i (some (.c c))
  | some (some (.b _)) => ε.set i (some (.b c))
  | _ => ε
def isC (ε : FSt) (i : Nat) : Prop := (getC ε i).isSome = true
def isB (ε : FSt) (i : Nat) : Prop := ∃ c, ε[i]? = some (some (.b c))

structure Mt (δ : DSt) (μ : Mu) (ε : FSt) : Prop where
  len : δ.length = ε.length
  dat : ∀ (i : Nat) (x : PyData), ε[i]? = some (some (.d x)) → δ[i]? = some (some (.d x))
  cel : ∀ (i : Nat) (c : Cell), getC ε i = some c → ∃ p, δ[i]? = some (some (.cell p)) ∧ μ p = some c
  apart : ∀ (i j : Nat) (p : Addr), isC ε i → isC ε j → δ[i]? = some (some (.cell p)) → δ[j]? = some (some (.cell p)) → i = j
def Adr (δ : DSt) (ε : FSt) (p : Addr) : Prop := ∃ i, isC ε i ∧ δ[i]? = some (some (.cell p))
/-- the same kinds of slots -/
def same1 : Option FV → Option FV → Prop
  | some (.d x), v => v = some (.d x)
  | some (.c _), v => ∃ y, v = some (.c y)
  | some (.b _), v => ∃ y, v = some (.b y)
  | none, v => v = none
structure Kd (ε ε' : FSt) : Prop where
  len : ε'.length = ε.length
  at' : ∀ (i : Nat) (v : Option FV), ε[i]? = some v → ∃ v', ε'[i]? = some v' ∧ same1 v v'
theorem same1_refl : ∀ v, same1 v v
  | some (.d _) => rfl
  | some (.c x) => ⟨x, rfl⟩
  | some (.b x) => ⟨x, rfl⟩
  | none => rfl
theorem same1_trans : ∀ {u v w}, same1 u v → same1 v w → same1 u w
  | some (.d _), _, _, h, g => by cases (show _ = _ from h); exact g
  | some (.c _), _, _, ⟨y, h⟩, g => by subst h; exact g
  | some (.b _), _, _, ⟨y, h⟩, g => by subst h; exact g
  | none, _, _, h, g => by cases (show _ = _ from h); exact g
theorem Kd.refl (ε : FSt) : Kd ε ε := ⟨rfl, fun i v h => ⟨v, h, same1_refl v⟩⟩
theorem Kd.trans {a b c : FSt} (h : Kd a b) (g : Kd b c) : Kd a c := ⟨g.len.trans h.len, fun i v e => by
  obtain ⟨v1, e1, s1⟩ := h.at' i v e
  obtain ⟨v2, e2, s2⟩ := g.at' i v1 e1
  exact ⟨v2, e2, same1_trans s1 s2⟩⟩
theorem getC_some {ε : FSt} {i : Nat} {c : Cell} (h : getC ε i = some c) : ε[i]? = some (some (.c c)) ∨ ε[i]? = some (some (.b c)) := by
  unfold getC at h
  split at h
  · next x e => cases h; exact .inl e
  · next x e => cases h; exact .inr e
  · cases h
theorem getC_c {ε : FSt} {i : Nat} {c : Cell} (h : ε[i]? = some (some (.c c))) : getC ε i = some c := by unfold getC; rw [h]
theorem getC_b {ε : FSt} {i : Nat} {c : Cell} (h : ε[i]? = some (some (.b c))) : getC ε i = some c := by unfold getC; rw [h]
theorem Kd.isC {ε ε' : FSt} (k : Kd ε ε') {i : Nat} : FL.isC ε i ↔ FL.isC ε' i := by
  have hl : ε.length = ε'.length := k.len.symm
  unfold FL.isC
  cases e : ε[i]? with
  | none =>
    have e' : ε'[i]? = none := List.getElem?_eq_none (by rw [← hl]; exact List.getElem?_eq_none_iff.mp e)
    simp [getC, e, e']
  | some v =>
    obtain ⟨v', e', s⟩ := k.at' i v e
    cases v with
    | none => cases (show _ = _ from s); simp [getC, e, e']
    | some f => cases f with
      | d x => cases (show _ = _ from s); simp [getC, e, e']
      | c x => obtain ⟨y, s⟩ := s; subst s; simp [getC, e, e']
      | b x => obtain ⟨y, s⟩ := s; subst s; simp [getC, e, e']
theorem Kd.adr {ε ε' : FSt} (k : Kd ε ε') {δ : DSt} {p : Addr} : Adr δ ε p ↔ Adr δ ε' p := by
  unfold Adr
  exact ⟨fun ⟨i, a, b⟩ => ⟨i, k.isC.mp a, b⟩, fun ⟨i, a, b⟩ => ⟨i, k.isC.mpr a, b⟩⟩
theorem isC_some {ε : FSt} {i : Nat} (h : isC ε i) : ∃ c, getC ε i = some c := Option.isSome_iff_exists.mp h
theorem isC_of {ε : FSt} {i : Nat} {c : Cell} (h : getC ε i = some c) : isC ε i := by unfold isC; rw [h]; rfl
theorem Mt.adr {δ : DSt} {μ : Mu} {ε : FSt} (m : Mt δ μ ε) {p : Addr} (h : Adr δ ε p) : ∃ c, μ p = some c := by
  obtain ⟨i, hi, hp⟩ := h
  obtain ⟨c, hc⟩ := isC_some hi
  obtain ⟨q, h1, h2⟩ := m.cel i c hc
  rw [hp] at h1
  cases h1
  exact ⟨c, h2⟩
/-- what an expression may do -/
structure TrE (δ : DSt) (μ : Mu) (ε : FSt) (μ' : Mu) (ε' : FSt) : Prop where
  mt : Mt δ μ' ε'
  fr : ∀ b c, μ b = some c → ¬ Adr δ ε b → μ' b = some c
  kd : Kd ε ε'
theorem TrE.refl {δ : DSt} {μ : Mu} {ε : FSt} (m : Mt δ μ ε) : TrE δ μ ε μ ε := ⟨m, fun _ _ h _ => h, .refl _⟩
theorem TrE.trans {δ : DSt} {μ μ1 μ2 : Mu} {ε ε1 ε2 : FSt} (a : TrE δ μ ε μ1 ε1) (b : TrE δ μ1 ε1 μ2 ε2) : TrE δ μ ε μ2 ε2 :=
  ⟨b.mt, fun p c h n => b.fr p c (a.fr p c h n) (fun z => n (a.kd.adr.mpr z)), a.kd.trans b.kd⟩
/-- a result -/
def RF (δ : DSt) (μ : Mu) (ε' : FSt) (μ' : Mu) : FR → DV → Prop
  | .val x, v => v = .d x
  | .ref i, v => isC ε' i ∧ ∃ p, v = .cell p ∧ δ[i]? = some (some (.cell p))
  | .own c, v => ∃ p, v = .cell p ∧ μ' p = some c ∧ μ p = none
theorem RF.keep {δ : DSt} {μ μ1 μ2 : Mu} {ε ε1 ε2 : FSt} (t0 : TrE δ μ ε μ1 ε1) (m : Mt δ μ ε) (t : TrE δ μ1 ε1 μ2 ε2) : ∀ {r : FR} {v : DV}, RF δ μ ε1 μ1 r v → RF δ μ ε2 μ2 r v
  | .val _, _, h => h
  | .ref i, _, ⟨a, p, b, c⟩ => ⟨t.kd.isC.mp a, p, b, c⟩
  | .own c, _, ⟨p, a, b, e⟩ => ⟨p, a, t.fr p c b (fun z => by
      obtain ⟨d, hd⟩ := m.adr (t0.kd.adr.mpr z)
      rw [e] at hd; cases hd), e⟩
/-- what is seen of a result: containers as data -/
def cellD : Cell → PyData
  | .lst xs => .list xs
  | .dct kvs => .dict (kvs.map fun p => (kD p.1, p.2))
  | .dtt _ => .dict [(.dict [], .list [])]
  | .dti _ => .dict [(.dict [], .list [])]
def see (ε : FSt) : FR → Option PyData
  | .val x => some x
  | .ref i => (getC ε i).map cellD
  | .own c => some (cellD c)
abbrev FT := FSt → R FR
abbrev FTT := FSt → R Bool
abbrev FTA := FSt → R (List FR)
def fit {α β : Type} (P : α → β → Mu → FSt → Prop) (δ : DSt) (μ : Mu) (ε : FSt) (Q : β → Mu → Prop) : R α → Prop
  | .ok a ε' => ∀ v μ', TrE δ μ ε μ' ε' → P a v μ' ε' → Q v μ'
  | _ => False
def upF (f : FT) : DT := fun δ μ Q => ∃ ε, Mt δ μ ε ∧ fit (fun r v μ' ε' => RF δ μ ε' μ' r v) δ μ ε Q (f ε)
def upFT (f : FTT) : DTT := fun δ μ Q => ∃ ε, Mt δ μ ε ∧ fit (fun r v _ _ => v = r) δ μ ε Q (f ε)
def upFA (f : FTA) : DTA := fun δ μ Q => ∃ ε, Mt δ μ ε ∧ fit (fun rs vs μ' ε' => PySem.Paired (fun r v => RF δ μ ε' μ' r v) rs vs) δ μ ε Q (f ε)
abbrev FE (X : Cx) (e : Expr) (f : FT) : Prop := DE X e (upF f)
abbrev FC (X : Cx) (e : Expr) (f : FTT) : Prop := DC X e (upFT f)
abbrev FCW (X : Cx) (e : Expr) (f : FTT) : Prop := DCW X e (upFT f)
abbrev FA (X : Cx) (es : List Expr) (f : FTA) : Prop := DA X es (upFA f)
theorem d_imp {X : Cx} {e : Expr} {t t' : DT} (h : DE X e t) (w : ∀ δ μ Q, t' δ μ Q → t δ μ Q) : DE X e t' := pe_imp h fun σ H Q ⟨δ, μ, Qd, rs, rm, q, z⟩ => ⟨δ, μ, Qd, rs, rm, w _ _ _ q, z⟩
theorem c_imp {X : Cx} {e : Expr} {t t' : DTT} (h : DC X e t) (w : ∀ δ μ Q, t' δ μ Q → t δ μ Q) : DC X e t' := pt_imp h fun σ H Q ⟨δ, μ, Qd, rs, rm, q, z⟩ => ⟨δ, μ, Qd, rs, rm, w _ _ _ q, z⟩
theorem cw_imp {X : Cx} {e : Expr} {t t' : DTT} (h : DCW X e t) (w : ∀ δ μ Q, t' δ μ Q → t δ μ Q) : DCW X e t' := pw_imp h fun σ H Q ⟨δ, μ, Qd, rs, rm, q, z⟩ => ⟨δ, μ, Qd, rs, rm, w _ _ _ q, z⟩
theorem a_imp {X : Cx} {e : List Expr} {t t' : DTA} (h : DA X e t) (w : ∀ δ μ Q, t' δ μ Q → t δ μ Q) : DA X e t' := pa_imp h fun σ H Q ⟨δ, μ, Qd, rs, rm, q, z⟩ => ⟨δ, μ, Qd, rs, rm, w _ _ _ q, z⟩
theorem s_imp {X : Cx} {e : Stmt} {t t' : DTS} (h : DS X e t) (w : ∀ D δ μ, t' D δ μ → t D δ μ) : DS X e t' := ps_imp h fun D σ H ⟨δ, μ, Dd, rs, rm, q, z⟩ => ⟨δ, μ, Dd, rs, rm, w _ _ _ q, z⟩
theorem ss_imp {X : Cx} {e : List Stmt} {t t' : DTS} (h : DSs X e t) (w : ∀ D δ μ, t' D δ μ → t D δ μ) : DSs X e t' := pss_imp h fun D σ H ⟨δ, μ, Dd, rs, rm, q, z⟩ => ⟨δ, μ, Dd, rs, rm, w _ _ _ q, z⟩

section
variable {δ : DSt} {μ : Mu} {ε : FSt}
theorem fit_ok {α β : Type} {P : α → β → Mu → FSt → Prop} {Q : β → Mu → Prop} {r : R α} (h : fit P δ μ ε Q r) : ∃ a ε', r = .ok a ε' ∧ ∀ v μ', TrE δ μ ε μ' ε' → P a v μ' ε' → Q v μ' := by
  cases r with
  | no => exact h.elim
  | ex _ _ => exact h.elim
  | ok a ε' => exact ⟨a, ε', rfl, h⟩
/-- part f, then what g makes of it -/
theorem use1 {f : FT} {α β : Type} {g : FR → FSt → R α} {P : α → β → Mu → FSt → Prop} {Q : β → Mu → Prop} {Q' : DV → Mu → Prop} (m : Mt δ μ ε) (h : fit P δ μ ε Q ((f ε).bind g))
    (k : ∀ r ε1 v μ1, f ε = .ok r ε1 → TrE δ μ ε μ1 ε1 → RF δ μ ε1 μ1 r v → fit P δ μ ε Q (g r ε1) → Q' v μ1) : upF f δ μ Q' := by
  refine ⟨ε, m, ?_⟩
  cases e : f ε with
  | no => rw [e] at h; exact h.elim
  | ex _ _ => rw [e] at h; exact h.elim
  | ok r ε1 =>
    rw [e] at h
    exact fun v μ1 t p => k r ε1 v μ1 e t p h
theorem useT {f : FTT} {α β : Type} {g : Bool → FSt → R α} {P : α → β → Mu → FSt → Prop} {Q : β → Mu → Prop} {Q' : Bool → Mu → Prop} (m : Mt δ μ ε) (h : fit P δ μ ε Q ((f ε).bind g))
    (k : ∀ r ε1 μ1, f ε = .ok r ε1 → TrE δ μ ε μ1 ε1 → fit P δ μ ε Q (g r ε1) → Q' r μ1) : upFT f δ μ Q' := by
  refine ⟨ε, m, ?_⟩
  cases e : f ε with
  | no => rw [e] at h; exact h.elim
  | ex _ _ => rw [e] at h; exact h.elim
  | ok r ε1 =>
    rw [e] at h
    exact fun v μ1 t p => by subst p; exact k v ε1 μ1 e t h
theorem useA {f : FTA} {α β : Type} {g : List FR → FSt → R α} {P : α → β → Mu → FSt → Prop} {Q : β → Mu → Prop} {Q' : List DV → Mu → Prop} (m : Mt δ μ ε) (h : fit P δ μ ε Q ((f ε).bind g))
    (k : ∀ rs ε1 vs μ1, f ε = .ok rs ε1 → TrE δ μ ε μ1 ε1 → PySem.Paired (fun r v => RF δ μ ε1 μ1 r v) rs vs → fit P δ μ ε Q (g rs ε1) → Q' vs μ1) : upFA f δ μ Q' := by
  refine ⟨ε, m, ?_⟩
  cases e : f ε with
  | no => rw [e] at h; exact h.elim
  | ex _ _ => rw [e] at h; exact h.elim
  | ok r ε1 =>
    rw [e] at h
    exact fun v μ1 t p => k r ε1 v μ1 e t p h
/-- behind a first part: the wish seen from there -/
theorem fit_step {α β : Type} {P : α → β → Mu → FSt → Prop} {Q : β → Mu → Prop} {μ1 : Mu} {ε1 : FSt} (t : TrE δ μ ε μ1 ε1) {r : R α} {P' : α → β → Mu → FSt → Prop} (h : fit P δ μ ε Q r) (w : ∀ a v μ' ε', TrE δ μ1 ε1 μ' ε' → P' a v μ' ε' → P a v μ' ε') : fit P' δ μ1 ε1 Q r := by
  cases r with
  | no => exact h
  | ex _ _ => exact h
  | ok a ε' => exact fun v μ' t' p => h v μ' (t.trans t') (w _ _ _ _ t' p)
theorem RF.back {μ μ1 μ' : Mu} {ε ε1 ε' : FSt} (m : Mt δ μ ε) (t : TrE δ μ ε μ1 ε1) (t' : TrE δ μ1 ε1 μ' ε') : ∀ {r : FR} {v : DV}, RF δ μ1 ε' μ' r v → RF δ μ ε' μ' r v
  | .val _, _, h => h
  | .ref _, _, h => h
  | .own c, _, ⟨p, a, b, e⟩ => ⟨p, a, b, by
      cases h : μ p with
      | none => rfl
      | some c0 =>
        by_cases z : Adr δ ε p
        · obtain ⟨c2, h2⟩ := t.mt.adr (t.kd.adr.mp z)
          rw [e] at h2; cases h2
        · have := t.fr p c0 h z
          rw [e] at this; cases this⟩
end
end FL

namespace FL
open PySem PySem.Spec PyProof.Rows L2 DL
open Classical in
noncomputable def req {α : Type} (p : Prop) (x : Option α) : Option α := if p then x else none
theorem req_pos {α : Type} {p : Prop} {x : Option α} (h : p) : req p x = x := if_pos h
theorem req_true {α : Type} {x : Option α} : req True x = x := if_pos trivial
theorem req_some {α : Type} {p : Prop} {x : Option α} {a : α} (h : req p x = some a) : p ∧ x = some a := by
  unfold req at h
  split at h
  · next hp => exact ⟨hp, h⟩
  · cases h
/-- what a value over data is seen as -/
def look (μ : Mu) : DV → Option PyData
  | .d x => some x
  | .cell p => (μ p).map cellD
def rdP2 (g : PyData → PyData → Option PyData) : DR2 := fun x y μ Q => ∃ a b z, look μ x = some a ∧ look μ y = some b ∧ g a b = some z ∧ Q (.d z) μ
def looks (μ : Mu) : List DV → Option (List PyData)
  | [] => some []
  | x :: r => (look μ x).bind fun a => (looks μ r).map (a :: ·)
def rdPA (g : List PyData → Option PyData) : DRA := fun ds μ Q => ∃ as z, looks μ ds = some as ∧ g as = some z ∧ Q (.d z) μ

def ofO (ε : FSt) : Option PyData → R FR
  | some z => .ok (.val z) ε
  | none => .no
theorem ofO_some {ε : FSt} {z : PyData} : ofO ε (some z) = .ok (.val z) ε := rfl
def sees (ε : FSt) : List FR → Option (List PyData)
  | [] => some []
  | x :: r => (see ε x).bind fun a => (sees ε r).map (a :: ·)
def fVar (i : Nat) : FT := fun ε => match ε[i]? with
  | some (some (.d x)) => .ok (.val x) ε
  | some (some (.c _)) => .ok (.ref i) ε
  | some (some (.b _)) => .ok (.ref i) ε
  | _ => .no
def fC (x : PyData) : FT := fun ε => .ok (.val x) ε
def fUn (g : PyData → Option PyData) (fa : FT) : FT := fun ε => (fa ε).bind fun x ε1 => ofO ε1 ((see ε1 x).bind g)
def fOp (g : PyData → PyData → Option PyData) (fa fb : FT) : FT := fun ε => (fa ε).bind fun x ε1 => (fb ε1).bind fun y ε2 => ofO ε2 ((see ε2 x).bind fun a => (see ε2 y).bind fun b => g a b)
def faNil : FTA := fun ε => .ok [] ε
def faCons (fa : FT) (fr : FTA) : FTA := fun ε => (fa ε).bind fun x ε1 => (fr ε1).bind fun xs ε2 => .ok (x :: xs) ε2
def fFn (g : List PyData → Option PyData) (fa : FTA) : FT := fun ε => (fa ε).bind fun xs ε1 => ofO ε1 ((sees ε1 xs).bind g)

section
variable {δ : DSt} {μ : Mu} {ε : FSt}
theorem see_look {μ0 : Mu} {r : FR} {v : DV} {a : PyData} (m : Mt δ μ ε) (h : RF δ μ0 ε μ r v) (e : see ε r = some a) : look μ v = some a := by
  cases r with
  | val x => cases (show v = .d x from h); exact e
  | ref i =>
    obtain ⟨hc, p, rfl, hp⟩ := h
    obtain ⟨c, hg⟩ := isC_some hc
    obtain ⟨q, h1, h2⟩ := m.cel i c hg
    rw [hp] at h1
    cases h1
    simp only [see, hg] at e
    simpa [look, h2] using e
  | own c =>
    obtain ⟨p, rfl, h2, _⟩ := h
    simpa [look, h2, see] using e
theorem sees_looks {μ0 : Mu} : ∀ {rs : List FR} {vs : List DV} {as : List PyData}, Mt δ μ ε → PySem.Paired (fun r v => RF δ μ0 ε μ r v) rs vs → sees ε rs = some as → looks μ vs = some as
  | _, _, _, m, .nil, e => e
  | _, _, _, m, .cons h t, e => by
    simp only [sees, Option.bind_eq_some_iff, Option.map_eq_some_iff] at e
    obtain ⟨a, e1, xs, e2, rfl⟩ := e
    simp [looks, see_look m h e1, sees_looks m t e2]
/-- the end of a part: its result is data -/
theorem fit_val {Q : DV → Mu → Prop} {μ1 : Mu} {ε1 : FSt} {z : PyData} (t : TrE δ μ ε μ1 ε1) (h : fit (fun r v μ' ε' => RF δ μ ε' μ' r v) δ μ ε Q (.ok (.val z) ε1)) : Q (.d z) μ1 := h _ _ t rfl
theorem fit_ofO {Q : DV → Mu → Prop} {μ1 : Mu} {ε1 : FSt} {o : Option PyData} (t : TrE δ μ ε μ1 ε1) (h : fit (fun r v μ' ε' => RF δ μ ε' μ' r v) δ μ ε Q (ofO ε1 o)) : ∃ z, o = some z ∧ Q (.d z) μ1 := by
  cases o with
  | none => exact h.elim
  | some z => exact ⟨z, rfl, fit_val t h⟩
end
section
variable {X : Cx} {pos : Pos} {a b c e : Expr} {fa fb fc fe : FT} {es : List Expr} {fr : FTA}
theorem f_var (i : Nat) {x : Str} (hN : X.N[i]? = some x := by rfl) (hv : Vis X.env.scope x := by first | exact Or.inl rfl | exact Or.inr (Or.inl rfl) | exact Or.inr (Or.inr rfl)) (hd : (x == ("__debug__" : Str)) = false := by decide)
    (hcd : (x == ("__classdict__" : Str)) = false := by decide) : FE X (.Name x pos) (fVar i) := d_imp (d_var i hN hv hd hcd) fun δ μ Q ⟨ε, m, h⟩ => by
  unfold fVar at h
  unfold dVar
  split at h
  · next x e => rw [m.dat i x e]; exact h _ _ (.refl m) rfl
  · next x e =>
    obtain ⟨p, h1, h2⟩ := m.cel i _ (getC_c e)
    rw [h1]; exact h _ _ (.refl m) ⟨isC_of (getC_c e), p, rfl, h1⟩
  · next x e =>
    obtain ⟨p, h1, h2⟩ := m.cel i _ (getC_b e)
    rw [h1]; exact h _ _ (.refl m) ⟨isC_of (getC_b e), p, rfl, h1⟩
  · exact h.elim
theorem f_const {x : PyData} (h : DE X e (dC x)) : FE X e (fC x) := d_imp h fun δ μ Q ⟨ε, m, h⟩ => h _ _ (.refl m) rfl
theorem up_fOp {g : PyData → PyData → Option PyData} : ∀ δ μ Q, upF (fOp g fa fb) δ μ Q → dOp (rdP2 g) (upF fa) (upF fb) δ μ Q := fun δ μ Q ⟨ε, m, h⟩ =>
  use1 m h fun r ε1 v μ1 e t rf h1 => use1 (P := fun r v μ' ε' => RF δ μ ε' μ' r v) t.mt (fit_step t h1 fun _ _ _ _ _ p => p) fun r2 ε2 v2 μ2 e2 t2 rf2 h2 => by
    have rfk := RF.keep t m t2 rf
    have rf2' := RF.back m t t2 rf2
    have h3 : fit (fun r v μ' ε' => RF δ μ ε' μ' r v) δ μ1 ε1 Q (ofO ε2 ((see ε2 r).bind fun a => (see ε2 r2).bind fun b => g a b)) := h2
    cases ho : ((see ε2 r).bind fun a => (see ε2 r2).bind fun b => g a b) with
    | none => rw [ho] at h3; exact h3.elim
    | some z =>
      rw [ho] at h3
      simp only [Option.bind_eq_some_iff] at ho
      obtain ⟨a, e3, b, e4, e5⟩ := ho
      exact ⟨a, b, z, see_look t2.mt rfk e3, see_look t2.mt rf2' e4, e5, h3 _ _ t2 rfl⟩
theorem fa_nil : FA X [] faNil := a_imp a_nil fun δ μ Q ⟨ε, m, h⟩ => h _ _ (.refl m) .nil
theorem up_faCons : ∀ δ μ Q, upFA (faCons fa fr) δ μ Q → aCons (upF fa) (upFA fr) δ μ Q := fun δ μ Q ⟨ε, m, h⟩ =>
  use1 m h fun r ε1 v μ1 e t rf h1 => useA (P := fun rs vs μ' ε' => PySem.Paired (fun r v => RF δ μ ε' μ' r v) rs vs) t.mt (fit_step t h1 fun _ _ _ _ _ p => p) fun rs ε2 vs μ2 e2 t2 rf2 h2 => by
    exact h2 _ _ t2 (.cons (RF.keep t m t2 rf) (L2.Paired.mapP rf2 fun _ _ p => RF.back m t t2 p))
theorem fa_cons (ha : FE X e fe) (hr : FA X es fr) (hs : starEach (e :: es) X.env = (false, eval e X.env) :: starEach es X.env := by rfl) : FA X (e :: es) (faCons fe fr) := a_imp (a_cons ha hr hs) up_faCons
theorem up_fFn {g : List PyData → Option PyData} : ∀ δ μ Q, upF (fFn g fr) δ μ Q → dCall (rdPA g) (upFA fr) δ μ Q := fun δ μ Q ⟨ε, m, h⟩ =>
  useA m h fun rs ε1 vs μ1 e t rf h1 => by
    obtain ⟨z, ez, q⟩ := fit_ofO t h1
    simp only [Option.bind_eq_some_iff] at ez
    obtain ⟨as, e1, e2⟩ := ez
    exact ⟨as, z, sees_looks t.mt rf e1, e2, q⟩
end
end FL

namespace FL
open PySem PySem.Spec PyProof.Rows L2 DL
section
variable {K : PySem.W.Frag} {μ : Mu} {H : Hp} {x : DV} {v : V} {a : PyData}
theorem look_da (m : RM K μ H) (r : RV K μ H v x) (h : look μ x = some a) : Da K H v a := by
  cases x with
  | d y => cases (show y = a from Option.some.inj h); exact Da.mono unhid r
  | cell p =>
    cases (show v = .ref p from r)
    have h : (μ p).map cellD = some _ := h
    cases e : μ p with
    | none => rw [e] at h; cases h
    | some c =>
      rw [e] at h
      cases (show cellD c = a from Option.some.inj h)
      cases c with
      | lst ds =>
        obtain ⟨vs, h1, h2⟩ := m p _ e
        exact .lst (.of h1) (h2.mono unhid)
      | dct kvs =>
        obtain ⟨ks, h1, h2, h3⟩ := m p _ e
        have := Da.dct (.inl h1) (h3.mono unhid)
        have e2 : ((ks.map fun p => kD p.1).zip (kvs.map (·.2))) = kvs.map fun p => (kD p.1, p.2) := by
          have : (ks.map fun p => kD p.1) = kvs.map fun p => kD p.1 := by
            have := congrArg (List.map kD) h2
            simpa [List.map_map, Function.comp_def] using this
          rw [this]
          rw [List.zip_map']
        rw [e2] at this
        exact this
      | dtt kvs =>
        obtain ⟨ks, h1, _, _⟩ := m p _ e
        exact .opq h1 (.t ks)
      | dti kvs =>
        obtain ⟨xs, h1, _⟩ := m p _ e
        exact .opq h1 (.i xs)
theorem look_list {xs : List PyData} (m : RM K μ H) (r : RV K μ H v x) (h : look μ x = some (.list xs)) : ∃ p vs, v = .ref p ∧ SqL K H p vs ∧ DaAll K (hid μ H) vs xs := by
  cases x with
  | d y =>
    cases (show y = _ from Option.some.inj h)
    cases (show Da K (hid μ H) v (.list xs) from r) with
    | lst s t => exact ⟨_, _, rfl, unhid.seq s, t⟩
  | cell p =>
    have h : (μ p).map cellD = some _ := h
    cases e : μ p with
    | none => rw [e] at h; cases h
    | some c =>
      rw [e] at h
      cases c with
      | dct _ => cases h
      | dtt _ => cases h
      | dti _ => cases h
      | lst ds =>
        cases h
        obtain ⟨vs, h1, h2⟩ := m p _ e
        exact ⟨p, vs, r, .of h1, h2⟩
theorem look_tup {xs : List PyData} (r : RV K μ H v x) (h : look μ x = some (.tuple xs)) : x = .d (.tuple xs) ∧ ∃ p vs, v = .ref p ∧ SqP K (hid μ H) p vs ∧ DaAll K (hid μ H) vs xs := by
  cases x with
  | d y =>
    cases (show y = _ from Option.some.inj h)
    cases (show Da K (hid μ H) v (.tuple xs) from r) with
    | tup s t => exact ⟨rfl, _, _, rfl, s, t⟩
  | cell p =>
    have h : (μ p).map cellD = some _ := h
    cases e : μ p with
    | none => rw [e] at h; cases h
    | some c => rw [e] at h; cases c <;> cases h
theorem look_flat (r : RV K μ H v x) (h : look μ x = some a) (hf : (match a with | .list _ => false | .dict _ => false | _ => true) = true) : x = .d a := by
  cases x with
  | d y => cases (show y = a from Option.some.inj h); rfl
  | cell p =>
    have h : (μ p).map cellD = some _ := h
    cases e : μ p with
    | none => rw [e] at h; cases h
    | some c =>
      rw [e] at h
      cases (show cellD c = a from Option.some.inj h)
      cases c <;> cases hf
theorem look_int {i : Int} (r : RV K μ H v x) (h : look μ x = some (.int i)) : v = .int i := by
  have := look_flat r h rfl
  subst this
  cases r; rfl
theorem look_bool {i : Bool} (r : RV K μ H v x) (h : look μ x = some (.bool i)) : v = .bl i := by
  have := look_flat r h rfl
  subst this
  cases r; rfl
theorem look_str {i : Str} (r : RV K μ H v x) (h : look μ x = some (.str i)) : v = .str i := by
  have := look_flat r h rfl
  subst this
  cases r; rfl
theorem Da.hidden {H' : Hp} {d : PyData} (h : Da K H' v d) (hf : (match d with | .none => true | .bool _ => true | .int _ => true | .str _ => true | _ => false) = true) (H'' : Hp) : Da K H'' v d := by
  cases h with
  | non => exact .non
  | bl b => exact .bl b
  | int i => exact .int i
  | str x => exact .str x
  | lst _ _ => cases hf
  | tup _ _ => cases hf
  | dct _ _ => cases hf
  | opq _ _ => cases hf
end
noncomputable def gI (C : Int → Int → Prop) (g : Int → Int → PyData) : PyData → PyData → Option PyData
  | .int i, .int j => req (C i j) (some (g i j))
  | _, _ => none
theorem upP_I {K : PySem.W.Frag} {C : Int → Int → Prop} {g : Int → Int → PyData} {gv : Int → Int → V} (r : ∀ H i j, Da K H (gv i j) (g i j)) : Up2 K (rdP2 (gI C g)) (rI C gv) := fun x y μ Qd v u H Q m rx ry ⟨a, b, z, ea, eb, ez, q⟩ w => by
  unfold gI at ez
  split at ez
  · next i j =>
    obtain ⟨hc, e⟩ := req_some ez
    cases e
    exact ⟨i, j, look_int rx ea, look_int ry eb, hc, w (.d _) μ _ H (.refl _ _) m (r _ _ _) q⟩
  · cases ez
def gI0 (g : Int → Int → PyData) : PyData → PyData → Option PyData
  | .int i, .int j => some (g i j)
  | _, _ => none
theorem upP_I0 {K : PySem.W.Frag} {g : Int → Int → PyData} {gv : Int → Int → V} (r : ∀ H i j, Da K H (gv i j) (g i j)) : Up2 K (rdP2 (gI0 g)) (rI0 gv) := fun x y μ Qd v u H Q m rx ry ⟨a, b, z, ea, eb, ez, q⟩ w => by
  unfold gI0 at ez
  split at ez
  · next i j =>
    cases ez
    exact ⟨i, j, look_int rx ea, look_int ry eb, w (.d _) μ _ H (.refl _ _) m (r _ _ _) q⟩
  · cases ez
def gU (g : Int → PyData) : PyData → Option PyData
  | .int i => some (g i)
  | _ => none
section
variable {X : Cx} {pos : Pos} {a b c e : Expr} {fa fb fc fe : FT} {es : List Expr} {fr : FTA}
noncomputable def gSub := gI0 fun i j => .int (i - j)
noncomputable def gMod := gI (fun _ j => 0 < j) fun i j => .int (i % j)
noncomputable def gFdiv := gI CDivW fun i j => .int (i / j)
noncomputable def gPow := gI CPowB fun i j => .int (i ^ j.toNat)
def gNeg := gU fun i => .int (-i)
def gLt := gI0 fun i j => .bool (decide (i < j))
def gLe := gI0 fun i j => .bool (decide (i ≤ j))
def gGt := gI0 fun i j => .bool (decide (j < i))
def gGe := gI0 fun i j => .bool (decide (j ≤ i))
theorem f_sub (ha : FE X a fa) (hb : FE X b fb) : FE X (.BinOp a .Sub b pos) (fOp gSub fa fb) := d_imp (d_op op_sub (upP_I0 fun _ _ _ => .int _) ha hb) up_fOp
theorem f_mod (ha : FE X a fa) (hb : FE X b fb) : FE X (.BinOp a .Mod b pos) (fOp gMod fa fb) := d_imp (d_op op_mod (upP_I fun _ _ _ => .int _) ha hb) up_fOp
theorem f_fdiv (ha : FE X a fa) (hb : FE X b fb) : FE X (.BinOp a .FloorDiv b pos) (fOp gFdiv fa fb) := d_imp (d_op op_fdivW (upP_I fun _ _ _ => .int _) ha hb) up_fOp
theorem f_pow (ha : FE X a fa) (hb : FE X b fb) : FE X (.BinOp a .Pow b pos) (fOp gPow fa fb) := d_imp (d_op op_powB (upP_I fun _ _ _ => .int _) ha hb) up_fOp
theorem p_lt : Up2 X.K (rdP2 gLt) (rI0 fun i j => .bl (decide (i < j))) := upP_I0 fun _ _ _ => .bl _
theorem p_le : Up2 X.K (rdP2 gLe) (rI0 fun i j => .bl (decide (i ≤ j))) := upP_I0 fun _ _ _ => .bl _
theorem p_gt : Up2 X.K (rdP2 gGt) (rI0 fun i j => .bl (decide (j < i))) := upP_I0 fun _ _ _ => .bl _
theorem f_cmp {op : CmpOp} {g : PyData → PyData → Option PyData} {rv : R2} (ho : OpR X (compareOp op) rv) (h : Up2 X.K (rdP2 g) rv) (hm : behindInMarks op b = false) (ha : FE X a fa) (hb : FE X b fb) : FE X (.Compare a [op] [b] pos) (fOp g fa fb) := d_imp (d_cmp ho h ha hb hm) up_fOp
theorem f_lt (ha : FE X a fa) (hb : FE X b fb) : FE X (.Compare a [.Lt] [b] pos) (fOp gLt fa fb) := f_cmp op_lt p_lt (nomark _) ha hb
theorem f_gt (ha : FE X a fa) (hb : FE X b fb) : FE X (.Compare a [.Gt] [b] pos) (fOp gGt fa fb) := f_cmp op_gt p_gt (nomark _) ha hb
end
noncomputable def eqP : PyData → PyData → Option Bool
  | .int i, .int j => some (decide (i = j))
  | .str i, .str j => some (decide (i = j))
  | .bool i, .bool j => some (decide (i = j))
  | i, j => req (SeqAt.shaped i = true ∧ SeqAt.shaped j = true) (some (PyData.eqv i j))
noncomputable def gEq (a b : PyData) : Option PyData := (eqP a b).map .bool
noncomputable def gNe (a b : PyData) : Option PyData := (eqP a b).map fun z => .bool (!z)
theorem eq_cases {K : PySem.W.Frag} {μ : Mu} {H : Hp} {x y : DV} {v u : V} {a b : PyData} {z : Bool} (m : RM K μ H) (rx : RV K μ H v x) (ry : RV K μ H u y) (ea : look μ x = some a) (eb : look μ y = some b) (ez : eqP a b = some z) :
    (scal v u = true ∧ decide (v = u) = z) ∨ ∃ d e, Dp K H v d ∧ Dp K H u e ∧ SeqAt.shaped d = true ∧ SeqAt.shaped e = true ∧ PyData.eqv d e = z := by
  have d1 := look_da m rx ea
  have d2 := look_da m ry eb
  unfold eqP at ez
  split at ez
  · next i j => cases ez; rw [look_int rx ea, look_int ry eb]; exact .inl ⟨rfl, dec_int2⟩
  · next i j => cases ez; rw [look_str rx ea, look_str ry eb]; exact .inl ⟨rfl, DL.dec_str⟩
  · next i j => cases ez; rw [look_bool rx ea, look_bool ry eb]; exact .inl ⟨rfl, dec_bl2⟩
  · obtain ⟨⟨s1, s2⟩, e⟩ := req_some ez
    cases e
    exact .inr ⟨a, b, d1.dp (SeqAt.canLay_of_shaped s1), d2.dp (SeqAt.canLay_of_shaped s2), s1, s2, rfl⟩
theorem p_eq {K : PySem.W.Frag} : Up2 K (rdP2 gEq) (fun x y H Q => rEq x y H Q ∨ rEqD K x y H Q) := fun x y μ Qd v u H Q m rx ry ⟨a, b, z, ea, eb, ez, q⟩ w => by
  simp only [gEq, Option.map_eq_some_iff] at ez
  obtain ⟨t, et, rfl⟩ := ez
  rcases eq_cases m rx ry ea eb et with ⟨h1, h2⟩ | ⟨d, e, h1, h2, h3, h4, h5⟩
  · exact .inl ⟨h1, by rw [h2]; exact w (.d (.bool t)) μ _ H (.refl _ _) m (Da.bl _) q⟩
  · exact .inr ⟨d, e, h1, h2, h3, h4, by rw [h5]; exact w (.d (.bool t)) μ _ H (.refl _ _) m (Da.bl _) q⟩
theorem p_ne {K : PySem.W.Frag} : Up2 K (rdP2 gNe) (fun x y H Q => rNe x y H Q ∨ rNeD K x y H Q) := fun x y μ Qd v u H Q m rx ry ⟨a, b, z, ea, eb, ez, q⟩ w => by
  simp only [gNe, Option.map_eq_some_iff] at ez
  obtain ⟨t, et, rfl⟩ := ez
  rcases eq_cases m rx ry ea eb et with ⟨h1, h2⟩ | ⟨d, e, h1, h2, h3, h4, h5⟩
  · exact .inl ⟨h1, by rw [h2]; exact w (.d (.bool (!t))) μ _ H (.refl _ _) m (Da.bl _) q⟩
  · exact .inr ⟨d, e, h1, h2, h3, h4, by rw [h5]; exact w (.d (.bool (!t))) μ _ H (.refl _ _) m (Da.bl _) q⟩
section
variable {X : Cx} {pos : Pos} {a b c e : Expr} {fa fb fc fe : FT} {es : List Expr} {fr : FTA}
theorem f_eq (hu : X.A.units + 64 < cLine) (ha : FE X a fa) (hb : FE X b fb) : FE X (.Compare a [.Eq] [b] pos) (fOp gEq fa fb) := f_cmp (op_eq.or (op_eqD hu)) p_eq (nomark _) ha hb
def gIsN : PyData → PyData → Option PyData
  | x, .none => some (.bool (isNone x))
  | _, _ => none
def gNotN : PyData → PyData → Option PyData
  | x, .none => some (.bool (!isNone x))
  | _, _ => none
theorem none_v {K : PySem.W.Frag} {H : Hp} {v : V} {a : PyData} (h : Da K H v a) : decide (v = .non) = isNone a := by
  cases h <;> rfl
theorem p_isN {K : PySem.W.Frag} : Up2 K (rdP2 gIsN) (fun x y H Q => y = .non ∧ Q (.bl (decide (x = .non))) H) := fun x y μ Qd v u H Q m rx ry ⟨a, b, z, ea, eb, ez, q⟩ w => by
  unfold gIsN at ez
  split at ez
  · cases ez
    have := look_flat ry eb rfl
    subst this
    cases ry
    exact ⟨rfl, by rw [none_v (look_da m rx ea)]; exact w (.d (.bool _)) μ _ H (.refl _ _) m (Da.bl _) q⟩
  · cases ez
theorem p_notN {K : PySem.W.Frag} : Up2 K (rdP2 gNotN) (fun x y H Q => y = .non ∧ Q (.bl (!decide (x = .non))) H) := fun x y μ Qd v u H Q m rx ry ⟨a, b, z, ea, eb, ez, q⟩ w => by
  unfold gNotN at ez
  split at ez
  · cases ez
    have := look_flat ry eb rfl
    subst this
    cases ry
    exact ⟨rfl, by rw [none_v (look_da m rx ea)]; exact w (.d (.bool _)) μ _ H (.refl _ _) m (Da.bl _) q⟩
  · cases ez
end
end FL

namespace FL
open PySem PySem.Spec PyProof.Rows L2 DL
section
variable {X : Cx}
/-- list + list, of any lists -/
def rCatLL (K : PySem.W.Frag) : R2 := fun x y H Q => ∃ l b xs zs, x = .ref l ∧ y = .ref b ∧ SqL K H l xs ∧ SqL K H b zs ∧ xs.length + zs.length ≤ sizeLine ∧ ∀ p, H p = none → Q (.ref p) (upd H p (.lst (xs ++ zs)))
theorem op_catLL : OpR X (binaryOp .Add) (rCatLL X.K) := by
  rintro pins s σ H x y v u Q I rx ry ⟨l, b, xs, zs, rfl, rfl, h1, h2, z, q⟩
  cases rx; cases ry
  obtain ⟨i1, r1, ⟨⟨k1, e1, t1, f1⟩, n1, g1, c1, p1, d1⟩, _⟩ := I.list h1
  obtain ⟨i2, r2, ⟨⟨k2, e2, t2, f2⟩, n2, g2, c2, p2, d2⟩, _⟩ := I.list h2
  simp only at c1 p1 d1 c2 p2 d2
  subst c1 p1 d1 c2 p2 d2
  have hl := r1.length
  have hl2 := r2.length
  have ap : i1.toArray ++ i2.toArray = (i1 ++ i2).toArray := by simp
  refine concat_meets ⟨_, g1, rfl⟩ ⟨_, g2, rfl⟩ noFill_list_add seq_list_add PySem.F.slot_list_add PySem.F.entry_list_add (PySem.F.args_list_add_2 _ _)
    (list_addW l b _ _ n1 n2 none none f1 f2 (by rw [List.size_toArray, List.size_toArray]; omega)) ⟨g1, g2, ?_⟩
  rw [ap]
  exact ⟨.ref _, _, I.lnew (t' := s.toks) (r1.append r2) (by rw [List.length_append]; omega), rfl, q _ I.fresh⟩
end
noncomputable def gAdd : PyData → PyData → Option PyData
  | .int i, .int j => some (.int (i + j))
  | .tuple xs, .tuple ys => req (xs.length + ys.length ≤ 900000) (some (.tuple (xs ++ ys)))
  | .list xs, .list ys => req (xs.length + ys.length ≤ 900000) (some (.list (xs ++ ys)))
  | .str i, .str j => req (i.length + j.length ≤ sizeLine) (some (.str (i ++ j)))
  | _, _ => none
theorem le_line9 {n : Nat} (h : n ≤ 900000) : n ≤ sizeLine := Nat.le_trans h (by decide)
theorem p_add {K : PySem.W.Frag} : Up2 K (rdP2 gAdd) (fun x y H Q => rI0 (fun i j => .int (i + j)) x y H Q ∨ rCatP K x y H Q ∨ rCatLL K x y H Q ∨ (∃ i j, x = .str i ∧ y = .str j ∧ i.length + j.length ≤ sizeLine ∧ Q (.str (i ++ j)) H)) := fun x y μ Qd v u H Q m rx ry ⟨a, b, z, ea, eb, ez, q⟩ w => by
  unfold gAdd at ez
  split at ez
  · next i j =>
    cases ez
    exact .inl ⟨i, j, look_int rx ea, look_int ry eb, w (.d (.int (i + j))) μ _ H (.refl _ _) m (Da.int _) q⟩
  · next xs ys =>
    obtain ⟨hz, e⟩ := req_some ez
    cases e
    obtain ⟨rfl, p, vs, rfl, s, t⟩ := look_tup rx ea
    obtain ⟨rfl, p', vs', rfl, s', t'⟩ := look_tup ry eb
    have l1 := t.length
    have l2 := t'.length
    refine .inr (.inl ⟨p, p', vs, vs', rfl, rfl, same_seqT unhid s, same_seqT unhid s', le_line9 (by omega), fun h => ?_, fun _ h => ?_, fun _ _ => wk_tup w m (t.append t') q⟩)
    · subst h
      obtain rfl : xs = [] := by cases t; rfl
      exact w (.d (.tuple ([] ++ ys))) μ _ H (.refl _ _) m (.tup s' t') q
    · subst h
      obtain rfl : ys = [] := by cases t'; rfl
      rw [List.append_nil] at q
      exact w (.d (.tuple xs)) μ _ H (.refl _ _) m (.tup s t) q
  · next xs ys =>
    obtain ⟨hz, e⟩ := req_some ez
    cases e
    obtain ⟨p, vs, rfl, s, t⟩ := look_list m rx ea
    obtain ⟨p', vs', rfl, s', t'⟩ := look_list m ry eb
    have l1 := t.length
    have l2 := t'.length
    exact .inr (.inr (.inl ⟨p, p', vs, vs', rfl, rfl, s, s', le_line9 (by omega), fun r hr => wk_lst w m (t.append t') q hr⟩))
  · next i j =>
    obtain ⟨hz, e⟩ := req_some ez
    cases e
    exact .inr (.inr (.inr ⟨i, j, look_str rx ea, look_str ry eb, hz, w (.d (.str (i ++ j))) μ _ H (.refl _ _) m (Da.str _) q⟩))
  · cases ez
/-- list + list as a container of one's own -/
def rdO2 (g : PyData → PyData → Option PyData) : DR2 := fun x y μ Q => ∃ a b xs, look μ x = some a ∧ look μ y = some b ∧ g a b = some (.list xs) ∧ ∀ p, μ p = none → Q (.cell p) (put μ p (.lst xs))
theorem p_addO {K : PySem.W.Frag} : Up2 K (rdO2 gAdd) (rCatLL K) := fun x y μ Qd v u H Q m rx ry ⟨a, b, z, ea, eb, ez, q⟩ w => by
  unfold gAdd at ez
  split at ez
  · cases ez
  · obtain ⟨_, e⟩ := req_some ez; cases e
  · next xs ys =>
    obtain ⟨hz, e⟩ := req_some ez
    cases e
    obtain ⟨p, vs, rfl, s, t⟩ := look_list m rx ea
    obtain ⟨p', vs', rfl, s', t'⟩ := look_list m ry eb
    have l1 := t.length
    have l2 := t'.length
    exact ⟨p, p', vs, vs', rfl, rfl, s, s', le_line9 (by omega), fun r hr => wk_lstC w m (t.append t') hr (q r (m.free hr))⟩
  · obtain ⟨_, e⟩ := req_some ez; cases e
  · cases ez
def ofOL (ε : FSt) : Option PyData → R FR
  | some (.list xs) => .ok (.own (.lst xs)) ε
  | _ => .no
def fOpO (g : PyData → PyData → Option PyData) (fa fb : FT) : FT := fun ε => (fa ε).bind fun x ε1 => (fb ε1).bind fun y ε2 => ofOL ε2 ((see ε2 x).bind fun a => (see ε2 y).bind fun b => g a b)
theorem ofOL_list {ε : FSt} {xs : List PyData} : ofOL ε (some (.list xs)) = .ok (.own (.lst xs)) ε := rfl
section
variable {δ : DSt} {μ : Mu} {ε : FSt}
/-- a new cell beside the tracked ones -/
theorem TrE.new {μ1 : Mu} {ε1 : FSt} (t : TrE δ μ ε μ1 ε1) {p : Addr} {c : Cell} (hp : μ1 p = none) : TrE δ μ ε (put μ1 p c) ε1 := by
  have ne : ∀ b d, μ1 b = some d → b ≠ p := fun b d h z => by subst z; rw [hp] at h; cases h
  refine ⟨⟨t.mt.len, t.mt.dat, fun i d h => ?_, t.mt.apart⟩, fun b d h n => ?_, t.kd⟩
  · obtain ⟨q, h1, h2⟩ := t.mt.cel i d h
    exact ⟨q, h1, by rw [put_ne (ne _ _ h2)]; exact h2⟩
  · have := t.fr b d h n
    rw [put_ne (ne _ _ this)]; exact this
theorem TrE.fresh {μ1 : Mu} {ε1 : FSt} (m : Mt δ μ ε) (t : TrE δ μ ε μ1 ε1) {p : Addr} (hp : μ1 p = none) : μ p = none := by
  cases h : μ p with
  | none => rfl
  | some c =>
    by_cases z : Adr δ ε p
    · obtain ⟨d, hd⟩ := t.mt.adr (t.kd.adr.mp z)
      rw [hp] at hd; cases hd
    · have := t.fr p c h z
      rw [hp] at this; cases this
theorem fit_ofOL {Q : DV → Mu → Prop} {μ1 : Mu} {ε1 : FSt} {o : Option PyData} (m : Mt δ μ ε) (t : TrE δ μ ε μ1 ε1) (h : fit (fun r v μ' ε' => RF δ μ ε' μ' r v) δ μ ε Q (ofOL ε1 o)) : ∃ xs, o = some (.list xs) ∧ ∀ p, μ1 p = none → Q (.cell p) (put μ1 p (.lst xs)) := by
  unfold ofOL at h
  split at h
  · next xs => exact ⟨xs, rfl, fun p hp => h _ _ (t.new hp) ⟨p, rfl, put_same, t.fresh m hp⟩⟩
  · exact h.elim
end
theorem up_fOpO {g : PyData → PyData → Option PyData} {fa fb : FT} : ∀ δ μ Q, upF (fOpO g fa fb) δ μ Q → dOp (rdO2 g) (upF fa) (upF fb) δ μ Q := fun δ μ Q ⟨ε, m, h⟩ =>
  use1 m h fun r ε1 v μ1 e t rf h1 => use1 (P := fun r v μ' ε' => RF δ μ ε' μ' r v) t.mt (fit_step t h1 fun _ _ _ _ _ p => p) fun r2 ε2 v2 μ2 e2 t2 rf2 h2 => by
    have rfk := RF.keep t m t2 rf
    have rf2' := RF.back m t t2 rf2
    have h3 : fit (fun r v μ' ε' => RF δ μ1 ε' μ' r v) δ μ1 ε1 Q (ofOL ε2 ((see ε2 r).bind fun a => (see ε2 r2).bind fun b => g a b)) := by
      have h4 : fit (fun r v μ' ε' => RF δ μ ε' μ' r v) δ μ1 ε1 Q (ofOL ε2 ((see ε2 r).bind fun a => (see ε2 r2).bind fun b => g a b)) := h2
      cases ho : (ofOL ε2 ((see ε2 r).bind fun a => (see ε2 r2).bind fun b => g a b)) with
      | no => rw [ho] at h4; exact h4
      | ex _ _ => rw [ho] at h4; exact h4
      | ok a ε' => rw [ho] at h4; exact fun v μ' t' p => h4 v μ' t' (RF.back m t t' p)
    obtain ⟨xs, e3, q⟩ := fit_ofOL t.mt t2 h3
    simp only [Option.bind_eq_some_iff] at e3
    obtain ⟨a, e4, b, e5, e6⟩ := e3
    exact ⟨a, b, xs, see_look t2.mt rfk e4, see_look t2.mt rf2' e5, e6, q⟩
section
variable {X : Cx} {pos : Pos} {a b c e : Expr} {fa fb fc fe : FT} {es : List Expr} {fr : FTA}
theorem f_add (ha : FE X a fa) (hb : FE X b fb) : FE X (.BinOp a .Add b pos) (fOp gAdd fa fb) := d_imp (d_op (op_add.or (opP_cat.or (op_catLL.or op_add_str))) p_add ha hb) up_fOp
theorem f_addO (ha : FE X a fa) (hb : FE X b fb) : FE X (.BinOp a .Add b pos) (fOpO gAdd fa fb) := d_imp (d_op op_catLL p_addO ha hb) up_fOpO
end
end FL

namespace FL
open PySem PySem.Spec PyProof.Rows L2 DL
def flatD : PyData → Bool
  | .none => true
  | .bool _ => true
  | .int _ => true
  | .str _ => true
  | _ => false
def eqFlat : PyData → PyData → Bool
  | .none, .none => true
  | .bool a, .bool b => a == b
  | .bool a, .int b => (if a then 1 else 0) == b
  | .int a, .bool b => a == (if b then 1 else 0)
  | .int a, .int b => a == b
  | .str a, .str b => a == b
  | _, _ => false
def inD (x : PyData) (xs : List PyData) : Bool := xs.any fun y => eqFlat y x
def itemsOf : PyData → Option (List PyData)
  | .list xs => some xs
  | .tuple xs => some xs
  | _ => none
noncomputable def inG (a b : PyData) : Option Bool := (itemsOf b).bind fun xs => req (flatD a = true ∧ xs.all flatD = true) (some (inD a xs))
noncomputable def gNin (a b : PyData) : Option PyData := (inG a b).map fun z => .bool (!z)
section
variable {K : PySem.W.Frag} {μ : Mu} {H : Hp}
theorem flat_da {v : V} {a : PyData} (h : Da K H v a) (f : flatD a = true) : flatV v = true := by
  cases h with
  | lst _ _ => cases f
  | tup _ _ => cases f
  | dct _ _ => cases f
  | opq _ _ => cases f
  | _ => rfl
theorem flat_das : ∀ {vs : List V} {xs : List PyData}, DaAll K H vs xs → xs.all flatD = true → vs.all flatV = true
  | _, _, .nil, _ => rfl
  | _, _, .cons h t, f => by
    rw [List.all_cons, Bool.and_eq_true] at f ⊢
    exact ⟨flat_da h f.1, flat_das t f.2⟩
theorem eq_da {v u : V} {a b : PyData} (h : Da K H v a) (g : Da K H u b) (f : flatD a = true) (f' : flatD b = true) : eqV v u = eqFlat a b := by
  cases h with
  | lst _ _ => cases f
  | tup _ _ => cases f
  | dct _ _ => cases f
  | opq _ _ => cases f
  | _ =>
    cases g with
    | lst _ _ => cases f'
    | tup _ _ => cases f'
    | dct _ _ => cases f'
    | opq _ _ => cases f'
    | _ => rfl
theorem in_da {v : V} {a : PyData} (h : Da K H v a) (f : flatD a = true) : ∀ {vs : List V} {xs : List PyData}, DaAll K H vs xs → xs.all flatD = true → inV v vs = inD a xs
  | _, _, .nil, _ => rfl
  | _, _, .cons g t, f' => by
    rw [List.all_cons, Bool.and_eq_true] at f'
    have ih := in_da h f t f'.2
    unfold inV inD at ih ⊢
    rw [List.any_cons, List.any_cons, ih, eq_da g h f'.1 f]
theorem look_items {x : DV} {v : V} {a : PyData} {xs : List PyData} (m : RM K μ H) (r : RV K μ H v x) (h : look μ x = some a) (e : itemsOf a = some xs) : ∃ p vs, v = .ref p ∧ (SqL K H p vs ∨ SqT K H p vs) ∧ DaAll K (hid μ H) vs xs := by
  unfold itemsOf at e
  split at e
  · cases e
    obtain ⟨p, vs, e1, s, t⟩ := look_list m r h
    exact ⟨p, vs, e1, .inl s, t⟩
  · cases e
    obtain ⟨_, p, vs, e1, s, t⟩ := look_tup r h
    exact ⟨p, vs, e1, .inr (same_seqT unhid s), t⟩
  · cases e
theorem in_core {x y : DV} {v u : V} {a b : PyData} {z : Bool} (m : RM K μ H) (rx : RV K μ H v x) (ry : RV K μ H u y) (ea : look μ x = some a) (eb : look μ y = some b) (ez : inG a b = some z) :
    ∃ p xs, u = .ref p ∧ (SqL K H p xs ∨ SqT K H p xs) ∧ flatV v = true ∧ xs.all flatV = true ∧ inV v xs = z := by
  unfold inG at ez
  simp only [Option.bind_eq_some_iff] at ez
  obtain ⟨xs, e1, e2⟩ := ez
  obtain ⟨⟨f1, f2⟩, e3⟩ := req_some e2
  cases e3
  obtain ⟨p, vs, rfl, s, t⟩ := look_items m ry eb e1
  have d1 := look_da m rx ea
  have t2 := t.mono unhid
  exact ⟨p, vs, rfl, s, flat_da d1 f1, flat_das t2 f2, in_da d1 f1 t2 f2⟩
theorem p_nin : Up2 K (rdP2 gNin) (rIn K true) := fun x y μ Qd v u H Q m rx ry ⟨a, b, z, ea, eb, ez, q⟩ w => by
  simp only [gNin, Option.map_eq_some_iff] at ez
  obtain ⟨t, et, rfl⟩ := ez
  obtain ⟨p, xs, rfl, s, f1, f2, e⟩ := in_core m rx ry ea eb et
  refine ⟨p, xs, rfl, s, f1, f2, ?_⟩
  rw [if_pos rfl, e]
  exact w (.d (.bool (!t))) μ _ H (.refl _ _) m (Da.bl _) q
end
def gIx (a b : PyData) : Option PyData := match b with
  | .int i => (itemsOf a).bind fun xs => atI xs i
  | _ => none
theorem p_ix {K : PySem.W.Frag} : Up2 K (rdP2 gIx) (rIx K) := fun x y μ Qd v u H Q m rx ry ⟨a, b, z, ea, eb, ez, q⟩ w => by
  unfold gIx at ez
  split at ez
  · next i =>
    simp only [Option.bind_eq_some_iff] at ez
    obtain ⟨xs, e1, e2⟩ := ez
    obtain ⟨p, vs, rfl, s, t⟩ := look_items m rx ea e1
    obtain ⟨c, h1, h2⟩ := atI_da t e2
    have q2 := w (.d z) μ _ H (.refl _ _) m h2 q
    rcases s with s | s
    · exact .inl ⟨p, vs, i, c, rfl, look_int ry eb, s, h1, q2⟩
    · exact .inr (.inl ⟨p, vs, i, c, rfl, look_int ry eb, s, h1, q2⟩)
  · cases ez
section
variable {X : Cx} {pos : Pos} {a b c e : Expr} {fa fb fc fe : FT} {es : List Expr} {fr : FTA}
theorem f_item (ha : FE X a fa) (hb : FE X b fb) (hs : PlainIx b := by exact fun _ _ => rfl) : FE X (.Subscript a b pos) (fOp gIx fa fb) := d_imp (d_ix ix_seq p_ix ha hb hs) up_fOp
abbrev FTP := FSt → R (Option Int)
def fNo : FTP := fun ε => .ok none ε
def fPart (f : FT) : FTP := fun ε => (f ε).bind fun x ε1 => match see ε1 x with
  | some (.int i) => .ok (some i) ε1
  | _ => .no
def upFP (f : FTP) : DTP := fun δ μ Q => ∃ ε, Mt δ μ ε ∧ fit (fun r v _ _ => v = r) δ μ ε Q (f ε)
abbrev FP (X : Cx) (o : Option Expr) (f : FTP) : Prop := DPO X o (upFP f)
theorem dpo_imp {o : Option Expr} {t t' : DTP} (h : DPO X o t) (w : ∀ δ μ Q, t' δ μ Q → t δ μ Q) : DPO X o t' := po_imp h fun σ H Q ⟨δ, μ, Qd, rs, rm, q, z⟩ => ⟨δ, μ, Qd, rs, rm, w _ _ _ q, z⟩
theorem fp_no : FP X none fNo := dpo_imp o_no fun δ μ Q ⟨ε, m, h⟩ => h _ _ (.refl m) rfl
theorem fp_some (h : FE X e fe) : FP X (some e) (fPart fe) := dpo_imp (o_some h) fun δ μ Q ⟨ε, m, h⟩ => use1 m h fun r ε1 v μ1 e t rf h1 => by
  split at h1
  · next i es =>
    have hl := see_look t.mt rf es
    have h2 := h1 _ _ t rfl
    cases v with
    | d y => cases (show y = _ from Option.some.inj hl); exact h2
    | cell p =>
      have hl : (μ1 p).map cellD = some _ := hl
      cases e2 : μ1 p with
      | none => rw [e2] at hl; cases hl
      | some c => rw [e2] at hl; cases c <;> cases hl
  · exact h1.elim
def gCut (l u : Option Int) : PyData → Option PyData
  | .list xs => some (.list (cutD xs l u))
  | .tuple xs => some (.tuple (cutD xs l u))
  | _ => none
def fSl (fe : FT) (fl fh : FTP) : FT := fun ε => (fe ε).bind fun x ε1 => (fl ε1).bind fun l ε2 => (fh ε2).bind fun u ε3 => ofO ε3 ((see ε3 x).bind (gCut l u))
theorem useP {δ : DSt} {μ : Mu} {ε : FSt} {f : FTP} {α β : Type} {g : Option Int → FSt → R α} {P : α → β → Mu → FSt → Prop} {Q : β → Mu → Prop} {Q' : Option Int → Mu → Prop} (m : Mt δ μ ε) (h : fit P δ μ ε Q ((f ε).bind g))
    (k : ∀ r ε1 μ1, f ε = .ok r ε1 → TrE δ μ ε μ1 ε1 → fit P δ μ ε Q (g r ε1) → Q' r μ1) : upFP f δ μ Q' := by
  refine ⟨ε, m, ?_⟩
  cases e : f ε with
  | no => rw [e] at h; exact h.elim
  | ex _ _ => rw [e] at h; exact h.elim
  | ok r ε1 =>
    rw [e] at h
    exact fun v μ1 t p => by subst p; exact k v ε1 μ1 e t h
theorem up_fSl {fl fh : FTP} : ∀ δ μ Q, upF (fSl fe fl fh) δ μ Q → dSl (upF fe) (upFP fl) (upFP fh) δ μ Q := fun δ μ Q ⟨ε, m, h⟩ =>
  use1 m h fun r ε1 v μ1 e t rf h1 => useP (P := fun r v μ' ε' => RF δ μ ε' μ' r v) t.mt (fit_step t h1 fun _ _ _ _ _ p => p) fun l ε2 μ2 e2 t2 h2 => useP (P := fun r v μ' ε' => RF δ μ ε' μ' r v) t2.mt (fit_step t2 h2 fun _ _ _ _ _ p => p) fun u ε3 μ3 e3 t3 h3 => by
    have rfk := RF.keep t m (t2.trans t3) rf
    have h4 : fit (fun r v μ' ε' => RF δ μ ε' μ' r v) δ μ2 ε2 Q (ofO ε3 ((see ε3 r).bind (gCut l u))) := h3
    cases ho : (see ε3 r).bind (gCut l u) with
    | none => rw [ho] at h4; exact h4.elim
    | some z =>
      rw [ho] at h4
      have q := h4 (.d z) μ3 t3 rfl
      simp only [Option.bind_eq_some_iff] at ho
      obtain ⟨a, e4, e5⟩ := ho
      have hl := see_look t3.mt rfk e4
      unfold gCut at e5
      split at e5
      · next xs =>
        cases e5
        cases v with
        | d y => cases (show y = _ from Option.some.inj hl); exact q
        | cell p =>
          have hl : (μ3 p).map cellD = some _ := hl
          cases e6 : μ3 p with
          | none => rw [e6] at hl; cases hl
          | some c =>
            rw [e6] at hl
            cases c with
            | dct _ => cases hl
            | dtt _ => cases hl
            | dti _ => cases hl
            | lst ds => cases hl; simp only [e6]; exact q
      · next xs =>
        cases e5
        cases v with
        | d y => cases (show y = _ from Option.some.inj hl); exact q
        | cell p =>
          have hl : (μ3 p).map cellD = some _ := hl
          cases e6 : μ3 p with
          | none => rw [e6] at hl; cases hl
          | some c => rw [e6] at hl; cases c <;> cases hl
      · cases e5
theorem f_slice {lo hi : Option Expr} {fl fh : FTP} {p2 : Pos} (he : FE X e fe) (hl : FP X lo fl) (hu : FP X hi fh) : FE X (.Subscript e (.Slice lo hi none p2) pos) (fSl fe fl fh) := d_imp (d_slice he hl hu) up_fSl
def gRev : PyData → Option PyData
  | .list xs => some (.list xs.reverse)
  | .tuple xs => some (.tuple xs.reverse)
  | _ => none
def seeV : FR → Option PyData
  | .val x => some x
  | _ => none
/-- of data alone -/
def fUnV (g : PyData → Option PyData) (fa : FT) : FT := fun ε => (fa ε).bind fun x ε1 => ofO ε1 ((seeV x).bind g)
end
end FL

namespace FL
open PySem PySem.Spec PyProof.Rows L2 DL
noncomputable def gT : PyData → Option Bool
  | .none => some false
  | .bool b => some b
  | .int i => some (i != 0)
  | .str y => req (y.length ≤ sizeLine) (some ((y.length : Int) != 0))
  | .list xs => some (!xs.isEmpty)
  | .tuple xs => some (!xs.isEmpty)
  | .dict _ => none
theorem truth_da {K : PySem.W.Frag} {H : Hp} {v : V} {a : PyData} {k : Bool} (h : Da K H v a) (e : gT a = some k) : TruV K v H k := by
  cases h with
  | non => cases e; rfl
  | bl b => cases e; rfl
  | int i => cases e; rfl
  | str x => obtain ⟨h1, e⟩ := req_some e; cases e; exact ⟨h1, rfl⟩
  | lst s t => cases e; exact .inl ⟨_, s, emp_da t⟩
  | tup s t => cases e; exact .inr (.inl ⟨_, s.t, emp_da t⟩)
  | dct s t => cases e
  | opq s _ => cases e
section
variable {X : Cx} {pos : Pos} {a b c e : Expr} {fa fb fc fe : FT} {es rest : List Expr} {fr : FTA} {ta tb : DT} {tA tB : FTT}
def dTrP (te : DT) : DTT := fun δ μ Q => te δ μ fun x μ1 => ∃ a k, look μ1 x = some a ∧ gT a = some k ∧ Q k μ1
theorem c_trP (ha : DE X a ta) (he : ∀ whole, isTrue a X.env whole = (do let v ← whole; standAt a.pos; holding [v] (truthy v)) := by intro _; rfl) : DC X a (dTrP ta) := pt_imp (pt_truth ha he) fun σ H Q ⟨δ, μ, Qd, rs, rm, q, w⟩ => up_use rs rm q fun x μ1 v H1 e1 m1 r1 ⟨a, k, ea, ek, q1⟩ =>
  ⟨k, truth_da (look_da m1 r1 ea) ek, w _ μ1 H1 e1 m1 q1⟩
def dAndT (ta tb : DT) : DT := fun δ μ Q => ta δ μ fun x μ1 => ∃ a k, look μ1 x = some a ∧ gT a = some k ∧ if k = true then tb δ μ1 Q else Q x μ1
def dNotT (ta : DT) : DT := fun δ μ Q => ta δ μ fun x μ1 => ∃ a k, look μ1 x = some a ∧ gT a = some k ∧ Q (.d (.bool (!k))) μ1
theorem d_andT (ha : DE X a ta) (hb : DE X (.BoolOp .And (b :: rest) pos) tb) : DE X (.BoolOp .And (a :: b :: rest) pos) (dAndT ta tb) := pe_imp (pe_andT ha hb) fun σ H Q ⟨δ, μ, Qd, rs, rm, q, w⟩ => up_use rs rm q fun x μ1 v H1 e1 m1 r1 ⟨a, k, ea, ek, q1⟩ => by
  refine ⟨k, truth_da (look_da m1 r1 ea) ek, ?_⟩
  split
  · next hk => rw [if_pos hk] at q1; exact ⟨δ, μ1, Qd, rs.mono e1, m1, q1, w.step e1⟩
  · next hk => rw [if_neg hk] at q1; exact w x μ1 v H1 e1 m1 r1 q1
theorem d_notT (ha : DE X a ta) : DE X (.UnaryOp .Not a pos) (dNotT ta) := pe_imp (pe_notT ha) fun σ H Q ⟨δ, μ, Qd, rs, rm, q, w⟩ => up_use rs rm q fun x μ1 v H1 e1 m1 r1 ⟨a, k, ea, ek, q1⟩ =>
  ⟨k, truth_da (look_da m1 r1 ea) ek, w (.d (.bool (!k))) μ1 _ H1 e1 m1 (Da.bl _) q1⟩
def ofB (ε : FSt) : Option Bool → R Bool
  | some z => .ok z ε
  | none => .no
theorem ofB_some {ε : FSt} {z : Bool} : ofB ε (some z) = .ok z ε := rfl
noncomputable def fTr (fe : FT) : FTT := fun ε => (fe ε).bind fun x ε1 => ofB ε1 ((see ε1 x).bind gT)
theorem up_fTr : ∀ δ μ Q, upFT (fTr fe) δ μ Q → dTrP (upF fe) δ μ Q := fun δ μ Q ⟨ε, m, h⟩ => use1 m h fun r ε1 v μ1 e t rf h1 => by
  cases ho : (see ε1 r).bind gT with
  | none => rw [ho] at h1; exact h1.elim
  | some k =>
    rw [ho] at h1
    simp only [Option.bind_eq_some_iff] at ho
    obtain ⟨a, e1, e2⟩ := ho
    exact ⟨a, k, see_look t.mt rf e1, e2, h1 k μ1 t rfl⟩
theorem fc_tr (ha : FE X a fa) (he : ∀ whole, isTrue a X.env whole = (do let v ← whole; standAt a.pos; holding [v] (truthy v)) := by intro _; rfl) : FC X a (fTr fa) := c_imp (c_trP ha he) up_fTr
/-- a comparison as a test -/
def fB (fe : FT) : FTT := fun ε => (fe ε).bind fun x ε1 => match x with
  | .val (.bool b) => .ok b ε1
  | _ => .no
theorem fB_fit {δ : DSt} {μ : Mu} {ε : FSt} {Q : Bool → Mu → Prop} (h : fit (fun r v _ _ => v = r) δ μ ε Q (fB fe ε)) : fit (fun r v μ' ε' => RF δ μ ε' μ' r v) δ μ ε (fun v μ' => match v with | .d (.bool b) => Q b μ' | _ => False) (fe ε) := by
  unfold fB at h
  cases e : fe ε with
  | no => rw [e] at h; exact h
  | ex _ _ => rw [e] at h; exact h
  | ok r ε1 =>
    rw [e, R.bind_ok] at h
    split at h
    · next k => exact fun v μ' t p => by cases (show v = _ from p); exact h k μ' t rfl
    · exact h.elim
theorem fc_cmp {op : CmpOp} {g : PyData → PyData → Option PyData} {rv : R2} (ho : OpR X (compareOp op) rv) (h : Up2 X.K (rdP2 g) rv) (hm : behindInMarks op b = false) (ha : FE X a fa) (hb : FE X b fb) : FC X (.Compare a [op] [b] pos) (fB (fOp g fa fb)) :=
  c_imp (c_cmp ho h ha hb hm) fun δ μ Q h => by
    obtain ⟨ε, m, h⟩ := h
    exact up_fOp δ μ _ ⟨ε, m, fB_fit h⟩
theorem fc_lt (ha : FE X a fa) (hb : FE X b fb) : FC X (.Compare a [.Lt] [b] pos) (fB (fOp gLt fa fb)) := fc_cmp op_lt p_lt (nomark _) ha hb
theorem fc_le (ha : FE X a fa) (hb : FE X b fb) : FC X (.Compare a [.LtE] [b] pos) (fB (fOp gLe fa fb)) := fc_cmp op_le p_le (nomark _) ha hb
theorem fc_gt (ha : FE X a fa) (hb : FE X b fb) : FC X (.Compare a [.Gt] [b] pos) (fB (fOp gGt fa fb)) := fc_cmp op_gt p_gt (nomark _) ha hb
theorem fc_eq (hu : X.A.units + 64 < cLine) (ha : FE X a fa) (hb : FE X b fb) : FC X (.Compare a [.Eq] [b] pos) (fB (fOp gEq fa fb)) := fc_cmp (op_eq.or (op_eqD hu)) p_eq (nomark _) ha hb
theorem fc_ne (hu : X.A.units + 64 < cLine) (ha : FE X a fa) (hb : FE X b fb) : FC X (.Compare a [.NotEq] [b] pos) (fB (fOp gNe fa fb)) := fc_cmp (op_ne.or (op_neD hu)) p_ne (nomark _) ha hb
theorem fc_isN (ha : FE X a fa) (hb : FE X b fb) : FC X (.Compare a [.Is] [b] pos) (fB (fOp gIsN fa fb)) := fc_cmp op_isN p_isN (nomark _) ha hb
theorem fc_notN (ha : FE X a fa) (hb : FE X b fb) : FC X (.Compare a [.IsNot] [b] pos) (fB (fOp gNotN fa fb)) := fc_cmp op_notN p_notN (nomark _) ha hb
theorem fc_nin (ha : FE X a fa) (hb : FE X b fb) (hm : behindInMarks .NotIn b = false := by rfl) : FC X (.Compare a [.NotIn] [b] pos) (fB (fOp gNin fa fb)) := fc_cmp op_notIn_seq p_nin hm ha hb
def ftAnd (f g : FTT) : FTT := fun ε => (f ε).bind fun b ε1 => if b = true then g ε1 else .ok false ε1
def ftOr (f g : FTT) : FTT := fun ε => (f ε).bind fun b ε1 => if b = true then .ok true ε1 else g ε1
def ftNot (f : FTT) : FTT := fun ε => (f ε).bind fun b ε1 => .ok (!b) ε1
theorem upFT_next {δ : DSt} {μ : Mu} {ε : FSt} {μ1 : Mu} {ε1 : FSt} {f : FTT} {Q : Bool → Mu → Prop} (t : TrE δ μ ε μ1 ε1) (h : fit (fun r v _ _ => v = r) δ μ ε Q (f ε1)) : upFT f δ μ1 Q := ⟨ε1, t.mt, fit_step t h fun _ _ _ _ _ p => p⟩
theorem upF_next {δ : DSt} {μ : Mu} {ε : FSt} {μ1 : Mu} {ε1 : FSt} {f : FT} {Q : DV → Mu → Prop} (m : Mt δ μ ε) (t : TrE δ μ ε μ1 ε1) (h : fit (fun r v μ' ε' => RF δ μ ε' μ' r v) δ μ ε Q (f ε1)) : upF f δ μ1 Q := ⟨ε1, t.mt, fit_step t h fun _ _ _ _ t' p => RF.back m t t' p⟩
theorem up_ftAnd : ∀ δ μ Q, upFT (ftAnd tA tB) δ μ Q → dAnd (upFT tA) (upFT tB) δ μ Q := fun δ μ Q ⟨ε, m, h⟩ => useT m h fun b ε1 μ1 e t h1 => by
  cases b with
  | true => exact upFT_next t h1
  | false => exact h1 false μ1 t rfl
theorem up_ftOr : ∀ δ μ Q, upFT (ftOr tA tB) δ μ Q → dOr (upFT tA) (upFT tB) δ μ Q := fun δ μ Q ⟨ε, m, h⟩ => useT m h fun b ε1 μ1 e t h1 => by
  cases b with
  | true => exact h1 true μ1 t rfl
  | false => exact upFT_next t h1
theorem fcw_and1 (ha : FC X a tA) : FCW X (.BoolOp .And [a] pos) tA := cw_and1 ha
theorem fcw_or1 (ha : FC X a tA) : FCW X (.BoolOp .Or [a] pos) tA := cw_or1 ha
theorem fcw_and (ha : FC X a tA) (hb : FCW X (.BoolOp .And (b :: rest) pos) tB) : FCW X (.BoolOp .And (a :: b :: rest) pos) (ftAnd tA tB) := cw_imp (cw_and ha hb) up_ftAnd
theorem fcw_or (ha : FC X a tA) (hb : FCW X (.BoolOp .Or (b :: rest) pos) tB) : FCW X (.BoolOp .Or (a :: b :: rest) pos) (ftOr tA tB) := cw_imp (cw_or ha hb) up_ftOr
theorem fc_w (h : FCW X e tA) : FC X e tA := c_w h
theorem fc_not (ha : FC X a tA) : FC X (.UnaryOp .Not a pos) (ftNot tA) := c_imp (c_not ha) fun δ μ Q ⟨ε, m, h⟩ => useT m h fun b ε1 μ1 e t h1 => h1 (!b) μ1 t rfl
noncomputable def fOrV (fa fb : FT) : FT := fun ε => (fa ε).bind fun x ε1 => match (see ε1 x).bind gT with
  | some true => .ok x ε1
  | some false => fb ε1
  | none => .no
noncomputable def fAndV (fa fb : FT) : FT := fun ε => (fa ε).bind fun x ε1 => match (see ε1 x).bind gT with
  | some true => fb ε1
  | some false => .ok x ε1
  | none => .no
noncomputable def fNotV (fa : FT) : FT := fun ε => (fa ε).bind fun x ε1 => match (see ε1 x).bind gT with
  | some k => .ok (.val (.bool (!k))) ε1
  | none => .no
theorem f_one {op} (h : FE X a fa) : FE X (.BoolOp op [a] pos) fa := d_one h
theorem f_and (ha : FE X a fa) (hb : FE X (.BoolOp .And (b :: rest) pos) fb) : FE X (.BoolOp .And (a :: b :: rest) pos) (fAndV fa fb) := d_imp (d_andT ha hb) fun δ μ Q ⟨ε, m, h⟩ => use1 m h fun r ε1 v μ1 e t rf h1 => by
  split at h1
  · next ho =>
    simp only [Option.bind_eq_some_iff] at ho
    obtain ⟨a, e1, e2⟩ := ho
    exact ⟨a, true, see_look t.mt rf e1, e2, by rw [if_pos rfl]; exact upF_next m t h1⟩
  · next ho =>
    simp only [Option.bind_eq_some_iff] at ho
    obtain ⟨a, e1, e2⟩ := ho
    exact ⟨a, false, see_look t.mt rf e1, e2, by rw [if_neg Bool.false_ne_true]; exact h1 v μ1 t rf⟩
  · exact h1.elim
theorem f_not (ha : FE X a fa) : FE X (.UnaryOp .Not a pos) (fNotV fa) := d_imp (d_notT ha) fun δ μ Q ⟨ε, m, h⟩ => use1 m h fun r ε1 v μ1 e t rf h1 => by
  split at h1
  · next k ho =>
    simp only [Option.bind_eq_some_iff] at ho
    obtain ⟨a, e1, e2⟩ := ho
    exact ⟨a, k, see_look t.mt rf e1, e2, h1 _ μ1 t rfl⟩
  · exact h1.elim
def fIf (tA : FTT) (fa fb : FT) : FT := fun ε => (tA ε).bind fun b ε1 => if b = true then fa ε1 else fb ε1
theorem f_if (hc : FC X c tA) (ha : FE X a fa) (hb : FE X b fb) : FE X (.IfExp c a b pos) (fIf tA fa fb) := d_imp (d_if hc ha hb) fun δ μ Q ⟨ε, m, h⟩ => useT m h fun b ε1 μ1 e t h1 => by
  cases b with
  | true => exact upF_next m t h1
  | false => exact upF_next m t h1
def fChain (g g' : PyData → PyData → Option PyData) (fa fb fc : FT) : FT := fun ε => (fa ε).bind fun x ε1 => (fb ε1).bind fun y ε2 => match (see ε2 x).bind fun a => (see ε2 y).bind fun b => g a b with
  | some (.bool true) => (fc ε2).bind fun w ε3 => ofO ε3 ((see ε3 y).bind fun a => (see ε3 w).bind fun b => g' a b)
  | some (.bool false) => .ok (.val (.bool false)) ε2
  | _ => .no
theorem up_fChain {g g' : PyData → PyData → Option PyData} : ∀ δ μ Q, upF (fChain g g' fa fb fc) δ μ Q → dChain (rdP2 g) (rdP2 g') (upF fa) (upF fb) (upF fc) δ μ Q := fun δ μ Q ⟨ε, m, h⟩ =>
  use1 m h fun r ε1 v μ1 e t rf h1 => use1 (P := fun r v μ' ε' => RF δ μ ε' μ' r v) t.mt (fit_step t h1 fun _ _ _ _ _ p => p) fun r2 ε2 v2 μ2 e2 t2 rf2 h2 => by
    have rfk := RF.keep t m t2 rf
    have rf2' := RF.back m t t2 rf2
    have h3 := h2
    split at h3
    · next ho =>
      simp only [Option.bind_eq_some_iff] at ho
      obtain ⟨a, e4, b, e5, e6⟩ := ho
      refine ⟨a, b, .bool true, see_look t2.mt rfk e4, see_look t2.mt rf2' e5, e6, ?_⟩
      refine use1 (P := fun r v μ' ε' => RF δ μ ε' μ' r v) t2.mt (fit_step t2 h3 fun _ _ _ _ _ p => p) fun r3 ε3 v3 μ3 e7 t3 rf3 h5 => ?_
      have rfy := RF.keep (t.trans t2) m t3 rf2'
      have h6 : fit (fun r v μ' ε' => RF δ μ ε' μ' r v) δ μ2 ε2 Q (ofO ε3 ((see ε3 r2).bind fun a => (see ε3 r3).bind fun b => g' a b)) := h5
      cases ho : ((see ε3 r2).bind fun a => (see ε3 r3).bind fun b => g' a b) with
      | none => rw [ho] at h6; exact h6.elim
      | some z =>
        rw [ho] at h6
        simp only [Option.bind_eq_some_iff] at ho
        obtain ⟨a', e8, b', e9, e10⟩ := ho
        exact ⟨a', b', z, see_look t3.mt rfy e8, see_look t3.mt (RF.back t2.mt (TrE.refl t2.mt) t3 rf3) e9, e10, h6 _ _ t3 rfl⟩
    · next ho =>
      simp only [Option.bind_eq_some_iff] at ho
      obtain ⟨a, e4, b, e5, e6⟩ := ho
      exact ⟨a, b, .bool false, see_look t2.mt rfk e4, see_look t2.mt rf2' e5, e6, h3 _ _ t2 rfl⟩
    · exact h3.elim
end
section
variable {X : Cx} {pos : Pos} {a b c e : Expr} {fa fb fc fe : FT}
theorem f_chain {op op' : CmpOp} {g g' : PyData → PyData → Option PyData} {rv rv' : R2} (ho : OpR X (compareOp op) rv) (h : Up2 X.K (rdP2 g) rv) (ho' : OpR X (compareOp op') rv') (h' : Up2 X.K (rdP2 g') rv') (ha : FE X a fa) (hb : FE X b fb) (hc : FE X c fc) (hm : lastMarks [op, op'] [b, c] = false := by with_unfolding_all rfl) :
    FE X (.Compare a [op, op'] [b, c] pos) (fChain g g' fa fb fc) := d_imp (d_chain ho h ho' h' ha hb hc hm) up_fChain
end
end FL

namespace FL
open PySem PySem.Spec PyProof.Rows L2 DL
def vals : List FR → Option (List PyData)
  | [] => some []
  | .val x :: r => (vals r).map (x :: ·)
  | _ :: _ => none
theorem vals_allD {δ : DSt} {μ0 μ : Mu} {ε : FSt} : ∀ {rs : List FR} {vs : List DV} {xs : List PyData}, PySem.Paired (fun r v => RF δ μ0 ε μ r v) rs vs → vals rs = some xs → allD vs = some xs
  | [], _, _, .nil, e => e
  | .val x :: rs, _, _, .cons h t, e => by
    simp only [vals, Option.map_eq_some_iff] at e
    obtain ⟨ys, e1, rfl⟩ := e
    cases (show _ = DV.d x from h)
    simp [allD, vals_allD t e1]
  | .ref _ :: _, _, _, .cons _ _, e => by cases e
  | .own _ :: _, _, _, .cons _ _, e => by cases e
noncomputable def fTup (fr : FTA) : FT := fun ε => (fr ε).bind fun rs ε1 => ofO ε1 ((vals rs).bind fun xs => req (xs.length ≤ 1000) (some (.tuple xs)))
noncomputable def fLst (fr : FTA) : FT := fun ε => (fr ε).bind fun rs ε1 => ofO ε1 ((vals rs).bind fun xs => req (xs.length ≤ 1000) (some (.list xs)))
noncomputable def fLstO (fr : FTA) : FT := fun ε => (fr ε).bind fun rs ε1 => ofOL ε1 ((vals rs).bind fun xs => req (xs.length ≤ 1000) (some (.list xs)))
def fDictO : FT := fun ε => .ok (.own (.dct [])) ε
section
variable {X : Cx} {pos : Pos} {a b c e : Expr} {fa fb fc fe : FT} {es rest : List Expr} {fr : FTA}
theorem f_tup {x1} (h : FA X es fr) : FE X (.Tuple es x1 pos) (fTup fr) := d_imp (d_tup h) fun δ μ Q ⟨ε, m, h⟩ => useA m h fun rs ε1 vs μ1 e t rf h1 => by
  obtain ⟨z, ez, q⟩ := fit_ofO t h1
  simp only [Option.bind_eq_some_iff] at ez
  obtain ⟨xs, e1, e2⟩ := ez
  obtain ⟨h2, e3⟩ := req_some e2
  cases e3
  rw [vals_allD rf e1]
  exact ⟨h2, q⟩
theorem f_lst (h : FA X es fr) : FE X (.List es pos) (fLst fr) := d_imp (d_lst h) fun δ μ Q ⟨ε, m, h⟩ => useA m h fun rs ε1 vs μ1 e t rf h1 => by
  obtain ⟨z, ez, q⟩ := fit_ofO t h1
  simp only [Option.bind_eq_some_iff] at ez
  obtain ⟨xs, e1, e2⟩ := ez
  obtain ⟨h2, e3⟩ := req_some e2
  cases e3
  rw [vals_allD rf e1]
  exact ⟨h2, q⟩
theorem f_lstO (h : FA X es fr) : FE X (.List es pos) (fLstO fr) := d_imp (d_lstC h) fun δ μ Q ⟨ε, m, h⟩ => useA m h fun rs ε1 vs μ1 e t rf h1 => by
  obtain ⟨z, ez, q⟩ := fit_ofOL m t h1
  simp only [Option.bind_eq_some_iff] at ez
  obtain ⟨xs, e1, e2⟩ := ez
  obtain ⟨h2, e3⟩ := req_some e2
  cases e3
  rw [vals_allD rf e1]
  exact ⟨h2, q⟩
theorem f_dictO : FE X (.Dict [] [] pos) fDictO := d_imp d_dictC fun δ μ Q ⟨ε, m, h⟩ p hp => h _ _ ((TrE.refl m).new hp) ⟨p, rfl, put_same, hp⟩
theorem f_int {i j} : FE X (.Constant (.int i) j pos) (fC (.int i)) := f_const d_int
theorem f_bl {i j} : FE X (.Constant (.bool i) j pos) (fC (.bool i)) := f_const d_bl
theorem f_non {j} : FE X (.Constant .none j pos) (fC .none) := f_const d_non
end
def gLen : List PyData → Option PyData
  | [a] => (itemsOf a).map fun xs => .int xs.length
  | _ => none
theorem looks1 {μ : Mu} {ds : List DV} {a : PyData} (h : looks μ ds = some [a]) : ∃ x, ds = [x] ∧ look μ x = some a := by
  match ds with
  | [] => simp [looks] at h
  | [x] =>
    simp only [looks, Option.bind_eq_some_iff, Option.map_eq_some_iff] at h
    obtain ⟨b, e, xs, e2, e3⟩ := h
    cases e2
    cases e3
    exact ⟨x, rfl, e⟩
  | x :: y :: r =>
    simp only [looks, Option.bind_eq_some_iff, Option.map_eq_some_iff] at h
    obtain ⟨b, e, xs, ⟨c, e2, ys, e3, rfl⟩, e4⟩ := h
    cases e4
theorem looks2 {μ : Mu} {ds : List DV} {a b : PyData} (h : looks μ ds = some [a, b]) : ∃ x y, ds = [x, y] ∧ look μ x = some a ∧ look μ y = some b := by
  match ds with
  | [] => simp [looks] at h
  | x :: r =>
    simp only [looks, Option.bind_eq_some_iff, Option.map_eq_some_iff] at h
    obtain ⟨c, e, xs, e2, e3⟩ := h
    cases e3
    obtain ⟨y, rfl, e4⟩ := looks1 e2
    exact ⟨x, y, rfl, e, e4⟩
/-- a built-in function of one value -/
theorem upA_1 {K : PySem.W.Frag} {g : List PyData → Option PyData} {rv : List V → Hp → VK → Prop} (hg : ∀ as z, g as = some z → ∃ a, as = [a])
    (h : ∀ (x : DV) (a z : PyData) (v : V) (μ : Mu) (Qd : DK) (H : Hp) (Q : VK), RM K μ H → RV K μ H v x → look μ x = some a → g [a] = some z → Qd (.d z) μ → Wk K μ H Qd Q → rv [v] H Q) : UpA K (rdPA g) rv := fun ds μ Qd vs H Q m r ⟨as, z, ea, ez, q⟩ w => by
  obtain ⟨a, rfl⟩ := hg _ _ ez
  obtain ⟨x, rfl, e⟩ := looks1 ea
  cases r with
  | cons r t => cases t; exact h x a z _ μ Qd H Q m r e ez q w
theorem p_len {K : PySem.W.Frag} : UpA K (rdPA gLen) (fun xs H Q => ∃ p ys, xs = [.ref p] ∧ (SqL K H p ys ∨ SqT K H p ys) ∧ Q (.int ys.length) H) := upA_1 (fun as z h => by unfold gLen at h; split at h <;> simp at h; exact ⟨_, rfl⟩) fun x a z v μ Qd H Q m r e ez q w => by
  simp only [gLen, Option.map_eq_some_iff] at ez
  obtain ⟨xs, e1, rfl⟩ := ez
  obtain ⟨p, vs, rfl, s, t⟩ := look_items m r e e1
  exact ⟨p, vs, rfl, s, by rw [t.length]; exact w (.d (.int _)) μ _ H (.refl _ _) m (Da.int _) q⟩
def gTuple : List PyData → Option PyData
  | [a] => (itemsOf a).map .tuple
  | _ => none
theorem p_tuple {K : PySem.W.Frag} : UpA K (rdPA gTuple) (fun xs H Q => ∃ p ys, xs = [.ref p] ∧ ((SqL K H p ys ∧ NewT H ys Q) ∨ (SqT K H p ys ∧ Q (.ref p) H))) := upA_1 (fun as z h => by unfold gTuple at h; split at h <;> simp at h; exact ⟨_, rfl⟩) fun x a z v μ Qd H Q m r e ez q w => by
  simp only [gTuple, Option.map_eq_some_iff] at ez
  obtain ⟨xs, e1, rfl⟩ := ez
  unfold itemsOf at e1
  split at e1
  · cases e1
    obtain ⟨p, vs, rfl, s, t⟩ := look_list m r e
    exact ⟨p, vs, rfl, .inl ⟨s, wk_tup w m t q⟩⟩
  · cases e1
    obtain ⟨rfl, p, vs, rfl, s, t⟩ := look_tup r e
    exact ⟨p, vs, rfl, .inr ⟨same_seqT unhid s, w (.d (.tuple xs)) μ _ H (.refl _ _) m (.tup s t) q⟩⟩
  · cases e1
def gList : List PyData → Option PyData
  | [a] => (itemsOf a).map .list
  | _ => none
def gSum : List PyData → Option PyData
  | [.list xs] => (intsOf xs).map fun ns => .int ns.sum
  | _ => none
theorem p_sum {K : PySem.W.Frag} : UpA K (rdPA gSum) (rSum K) := upA_1 (fun as z h => by unfold gSum at h; split at h <;> simp at h; exact ⟨_, rfl⟩) fun x a z v μ Qd H Q m r e ez q w => by
  unfold gSum at ez
  split at ez
  · next xs ea =>
    cases ea
    simp only [Option.map_eq_some_iff] at ez
    obtain ⟨ns, e1, rfl⟩ := ez
    have e2 := intsOf_some e1
    subst e2
    obtain ⟨p, vs, rfl, s, t⟩ := look_list m r e
    have e3 := t.ints_inv
    subst e3
    exact ⟨p, ns, rfl, s, w (.d (.int _)) μ _ H (.refl _ _) m (Da.int _) q⟩
  · cases ez
def gAll : List PyData → Option PyData
  | [.list xs] => (boolsOf xs).map fun bs => .bool (bs.all id)
  | _ => none
theorem p_all {K : PySem.W.Frag} : UpA K (rdPA gAll) (rAll K) := upA_1 (fun as z h => by unfold gAll at h; split at h <;> simp at h; exact ⟨_, rfl⟩) fun x a z v μ Qd H Q m r e ez q w => by
  unfold gAll at ez
  split at ez
  · next xs ea =>
    cases ea
    simp only [Option.map_eq_some_iff] at ez
    obtain ⟨ns, e1, rfl⟩ := ez
    have e2 := boolsOf_some e1
    subst e2
    obtain ⟨p, vs, rfl, s, t⟩ := look_list m r e
    have e3 := bools_inv t
    subst e3
    exact ⟨p, ns, rfl, s, w (.d (.bool _)) μ _ H (.refl _ _) m (Da.bl _) q⟩
  · cases ez
def gAbs : List PyData → Option PyData
  | [.int i] => some (.int (if i < 0 then -i else i))
  | _ => none
theorem p_abs {K : PySem.W.Frag} : UpA K (rdPA gAbs) (fun xs H Q => ∃ i, xs = [.int i] ∧ Q (.int (if i < 0 then -i else i)) H) := upA_1 (fun as z h => by unfold gAbs at h; split at h <;> simp at h; exact ⟨_, rfl⟩) fun x a z v μ Qd H Q m r e ez q w => by
  unfold gAbs at ez
  split at ez
  · next i ea => cases ea; cases ez; exact ⟨i, by rw [look_int r e], w (.d (.int _)) μ _ H (.refl _ _) m (Da.int _) q⟩
  · cases ez
def gInt : List PyData → Option PyData
  | [.int i] => some (.int i)
  | [.bool k] => some (.int (if k then 1 else 0))
  | _ => none
theorem p_int {K : PySem.W.Frag} : UpA K (rdPA gInt) (fun xs H Q => (∃ i, xs = [.int i] ∧ Q (.int i) H) ∨ ∃ k, xs = [.bl k] ∧ Q (.int (if k then 1 else 0)) H) := upA_1 (fun as z h => by unfold gInt at h; split at h <;> simp at h <;> exact ⟨_, rfl⟩) fun x a z v μ Qd H Q m r e ez q w => by
  unfold gInt at ez
  split at ez
  · next i ea => cases ea; cases ez; exact .inl ⟨i, by rw [look_int r e], w (.d (.int _)) μ _ H (.refl _ _) m (Da.int _) q⟩
  · next i ea => cases ea; cases ez; exact .inr ⟨i, by rw [look_bool r e], w (.d (.int _)) μ _ H (.refl _ _) m (Da.int _) q⟩
  · cases ez
noncomputable def gRepr : List PyData → Option PyData
  | [d] => req (Show d) (some (.str d.shown))
  | _ => none
theorem p_repr {K : PySem.W.Frag} : UpA K (rdPA gRepr) (rRepr K) := upA_1 (fun as z h => match as, h with | [a], _ => ⟨a, rfl⟩) fun x a z v μ Qd H Q m r e ez q w => by
  simp only [gRepr] at ez
  obtain ⟨h1, e3⟩ := req_some ez
  cases e3
  exact ⟨_, a, rfl, look_da m r e, h1, w (.d (.str _)) μ _ H (.refl _ _) m (Da.str _) q⟩
def gMax2 : List PyData → Option PyData
  | [.int i, .int j] => some (.int (if j > i then j else i))
  | _ => none
def gMin2 : List PyData → Option PyData
  | [.int i, .int j] => some (.int (if j < i then j else i))
  | _ => none
theorem p_max2 {K : PySem.W.Frag} : UpA K (rdPA gMax2) (fun xs H Q => ∃ i j, xs = [.int i, .int j] ∧ Q (.int (if j > i then j else i)) H) := fun ds μ Qd vs H Q m r ⟨as, z, ea, ez, q⟩ w => by
  unfold gMax2 at ez
  split at ez
  · next i j =>
    cases ez
    obtain ⟨x, y, rfl, e1, e2⟩ := looks2 ea
    cases r with
    | cons r t => cases t with
      | cons r2 t => cases t; exact ⟨i, j, by rw [look_int r e1, look_int r2 e2], w (.d (.int _)) μ _ H (.refl _ _) m (Da.int _) q⟩
  · cases ez
theorem p_min2 {K : PySem.W.Frag} : UpA K (rdPA gMin2) (fun xs H Q => ∃ i j, xs = [.int i, .int j] ∧ Q (.int (if j < i then j else i)) H) := fun ds μ Qd vs H Q m r ⟨as, z, ea, ez, q⟩ w => by
  unfold gMin2 at ez
  split at ez
  · next i j =>
    cases ez
    obtain ⟨x, y, rfl, e1, e2⟩ := looks2 ea
    cases r with
    | cons r t => cases t with
      | cons r2 t => cases t; exact ⟨i, j, by rw [look_int r e1, look_int r2 e2], w (.d (.int _)) μ _ H (.refl _ _) m (Da.int _) q⟩
  · cases ez
section
variable {X : Cx} {pos p : Pos} {x : Str} {id T : String} {a b c e : Expr} {fa fb fc fe : FT} {es rest : List Expr} {fr : FTA}
theorem f_callB {g : List PyData → Option PyData} {rv : List V → Hp → VK → Prop} (hc : CallR X (.builtin id) rv) (h : UpA X.K (rdPA g) rv) (hg : Gl X x) (hm : X.mg x = none) (hv : bootBuiltins x = some (.builtin id)) (ha : FA X (e :: es) fr) (hn : x ≠ "__name__" := by decide) (hdb : (x == ("__debug__" : Str)) = false := by decide)
    (he : starEach (e :: es) X.env = (false, eval e X.env) :: starEach es X.env := by rfl) (hpl : (backTo pos (starEach es X.env)).any (·.1) = false := by rfl) : FE X (.Call (.Name x p) (e :: es) [] pos) (fFn g fr) := d_imp (d_callB hc h hg hm hv ha hn hdb he hpl) up_fFn
theorem f_callTy {g : List PyData → Option PyData} {rv : List V → Hp → VK → Prop} (hc : CallR X (.type T) rv) (h : UpA X.K (rdPA g) rv) (hg : Gl X x) (hm : X.mg x = none) (hv : bootBuiltins x = some (.type T)) (ha : FA X (e :: es) fr) (hn : x ≠ "__name__" := by decide) (hdb : (x == ("__debug__" : Str)) = false := by decide)
    (he : starEach (e :: es) X.env = (false, eval e X.env) :: starEach es X.env := by rfl) (hpl : (backTo pos (starEach es X.env)).any (·.1) = false := by rfl) : FE X (.Call (.Name x p) (e :: es) [] pos) (fFn g fr) := d_imp (d_callTy hc h hg hm hv ha hn hdb he hpl) up_fFn
end
end FL

namespace FL
open PySem PySem.Spec PyProof.Rows L2 DL
inductive Flow where
  | nx
  | rt (r : FR)
  | bk
  | ct
abbrev FS := FSt → R Flow
def OwnA (δ : DSt) (ε : FSt) (p : Addr) : Prop := ∃ (i : Nat) (c : Cell), ε[i]? = some (some (FV.c c)) ∧ δ[i]? = some (some (.cell p))
theorem OwnA.adr {δ : DSt} {ε : FSt} {p : Addr} (h : OwnA δ ε p) : Adr δ ε p := let ⟨i, c, a, b⟩ := h; ⟨i, isC_of (getC_c a), b⟩
/-- what a statement may do -/
structure Tr (δ : DSt) (μ : Mu) (ε : FSt) (δ' : DSt) (μ' : Mu) (ε' : FSt) : Prop where
  mt : Mt δ' μ' ε'
  fr : ∀ b c, μ b = some c → ¬ Adr δ ε b → μ' b = some c
  bo : ∀ (i : Nat) (c : Cell), ε[i]? = some (some (.b c)) → (∃ c', ε'[i]? = some (some (.b c'))) ∧ δ'[i]? = δ[i]?
  bn : ∀ (i : Nat) (c : Cell), ε'[i]? = some (some (.b c)) → ∃ c', ε[i]? = some (some (.b c'))
  nw : ∀ b, OwnA δ' ε' b → OwnA δ ε b ∨ μ b = none
  ln : ε'.length = ε.length
theorem adr_cases {δ : DSt} {ε : FSt} {p : Addr} (h : Adr δ ε p) : OwnA δ ε p ∨ ∃ (i : Nat) (c : Cell), ε[i]? = some (some (FV.b c)) ∧ δ[i]? = some (some (.cell p)) := by
  obtain ⟨i, hi, hp⟩ := h
  obtain ⟨c, hc⟩ := isC_some hi
  rcases getC_some hc with h | h
  · exact .inl ⟨i, c, h, hp⟩
  · exact .inr ⟨i, c, h, hp⟩
theorem Tr.adr {δ δ' : DSt} {μ μ' : Mu} {ε ε' : FSt} (t : Tr δ μ ε δ' μ' ε') {p : Addr} (h : Adr δ' ε' p) : Adr δ ε p ∨ μ p = none := by
  rcases adr_cases h with h | ⟨i, c, h1, h2⟩
  · rcases t.nw p h with h | h
    · exact .inl h.adr
    · exact .inr h
  · obtain ⟨c', h3⟩ := t.bn i c h1
    have := (t.bo i c' h3).2
    exact .inl ⟨i, isC_of (getC_b h3), by rw [← this]; exact h2⟩
theorem Tr.refl {δ : DSt} {μ : Mu} {ε : FSt} (m : Mt δ μ ε) : Tr δ μ ε δ μ ε := ⟨m, fun _ _ h _ => h, fun i c h => ⟨⟨c, h⟩, rfl⟩, fun i c h => ⟨c, h⟩, fun b h => .inl h, rfl⟩
theorem Tr.trans {δ δ1 δ2 : DSt} {μ μ1 μ2 : Mu} {ε ε1 ε2 : FSt} (m : Mt δ μ ε) (a : Tr δ μ ε δ1 μ1 ε1) (b : Tr δ1 μ1 ε1 δ2 μ2 ε2) : Tr δ μ ε δ2 μ2 ε2 := by
  refine ⟨b.mt, fun p c h n => b.fr p c (a.fr p c h n) fun z => ?_, fun i c h => ?_, fun i c h => ?_, fun p h => ?_, b.ln.trans a.ln⟩
  · rcases a.adr z with z | z
    · exact n z
    · rw [h] at z; cases z
  · obtain ⟨⟨c1, h1⟩, e1⟩ := a.bo i c h
    obtain ⟨h2, e2⟩ := b.bo i c1 h1
    exact ⟨h2, e2.trans e1⟩
  · obtain ⟨c1, h1⟩ := b.bn i c h
    exact a.bn i c1 h1
  · rcases b.nw p h with h | h
    · exact a.nw p h
    · cases e : μ p with
      | none => exact .inr rfl
      | some c =>
        by_cases z : Adr δ ε p
        · rcases adr_cases z with z | ⟨i, c2, h1, h2⟩
          · exact .inl z
          · obtain ⟨⟨c3, h3⟩, e3⟩ := a.bo i c2 h1
            obtain ⟨q, h4, h5⟩ := a.mt.cel i c3 (getC_b h3)
            rw [e3, h2] at h4
            cases h4
            rw [h] at h5; cases h5
        · have := a.fr p c e z
          rw [h] at this; cases this
theorem Kd.own {ε ε' : FSt} (k : Kd ε ε') {δ : DSt} {p : Addr} (h : OwnA δ ε' p) : OwnA δ ε p := by
  obtain ⟨i, c, h1, h2⟩ := h
  cases e : ε[i]? with
  | none =>
    have : ε'[i]? = none := List.getElem?_eq_none (by rw [k.len]; exact List.getElem?_eq_none_iff.mp e)
    rw [this] at h1; cases h1
  | some v =>
    obtain ⟨v', e', s⟩ := k.at' i v e
    rw [h1] at e'
    cases e'
    cases v with
    | none => cases (show _ = _ from s)
    | some f => cases f with
      | d x => cases (show _ = _ from s)
      | c x => exact ⟨i, x, e, h2⟩
      | b x => obtain ⟨y, s⟩ := s; cases s
theorem Kd.bb {ε ε' : FSt} (k : Kd ε ε') {i : Nat} : (∃ c, ε[i]? = some (some (FV.b c))) ↔ ∃ c, ε'[i]? = some (some (FV.b c)) := by
  constructor
  · rintro ⟨c, h⟩
    obtain ⟨v', e', y, s⟩ := k.at' i _ h
    exact ⟨y, by rw [e', s]⟩
  · rintro ⟨c, h1⟩
    cases e : ε[i]? with
    | none =>
      have : ε'[i]? = none := List.getElem?_eq_none (by rw [k.len]; exact List.getElem?_eq_none_iff.mp e)
      rw [this] at h1; cases h1
    | some v =>
      obtain ⟨v', e', s⟩ := k.at' i v e
      rw [h1] at e'
      cases e'
      cases v with
      | none => cases (show _ = _ from s)
      | some f => cases f with
        | d x => cases (show _ = _ from s)
        | c x => obtain ⟨y, s⟩ := s; cases s
        | b x => exact ⟨x, rfl⟩
theorem TrE.tr {δ : DSt} {μ μ' : Mu} {ε ε' : FSt} (t : TrE δ μ ε μ' ε') : Tr δ μ ε δ μ' ε' :=
  ⟨t.mt, t.fr, fun i c h => ⟨t.kd.bb.mp ⟨c, h⟩, rfl⟩, fun i c h => t.kd.bb.mpr ⟨c, h⟩, fun b h => .inl (t.kd.own h), t.kd.len⟩
/-- a result behind statements -/
def RS' (δ : DSt) (μ : Mu) (ε : FSt) (δ' : DSt) (μ' : Mu) (ε' : FSt) : FR → DV → Prop
  | .val x, v => v = .d x
  | .ref i, v => isC ε' i ∧ ∃ p, v = .cell p ∧ δ'[i]? = some (some (.cell p))
  | .own c, v => ∃ p, v = .cell p ∧ μ' p = some c ∧ (μ p = none ∨ OwnA δ ε p)
theorem RF.rs {δ : DSt} {μ μ' : Mu} {ε ε' : FSt} : ∀ {r : FR} {v : DV}, RF δ μ ε' μ' r v → RS' δ μ ε δ μ' ε' r v
  | .val _, _, h => h
  | .ref _, _, h => h
  | .own _, _, ⟨p, a, b, c⟩ => ⟨p, a, b, .inl c⟩
theorem RS'.back {δ δ1 δ2 : DSt} {μ μ1 μ2 : Mu} {ε ε1 ε2 : FSt} (m : Mt δ μ ε) (t : Tr δ μ ε δ1 μ1 ε1) : ∀ {r : FR} {v : DV}, RS' δ1 μ1 ε1 δ2 μ2 ε2 r v → RS' δ μ ε δ2 μ2 ε2 r v
  | .val _, _, h => h
  | .ref _, _, h => h
  | .own _, _, ⟨p, a, b, c⟩ => ⟨p, a, b, by
      rcases c with c | c
      · cases e : μ p with
        | none => exact .inl rfl
        | some c0 =>
          by_cases z : Adr δ ε p
          · rcases adr_cases z with z | ⟨i, c2, h1, h2⟩
            · exact .inr z
            · obtain ⟨⟨c3, h3⟩, e3⟩ := t.bo i c2 h1
              obtain ⟨q, h4, h5⟩ := t.mt.cel i c3 (getC_b h3)
              rw [e3, h2] at h4
              cases h4
              rw [c] at h5; cases h5
          · have := t.fr p c0 e z
            rw [c] at this; cases this
      · rcases t.nw p c with c | c
        · exact .inr c
        · exact .inl c⟩
def fitS (D : DEnds) (δ : DSt) (μ : Mu) (ε : FSt) : R Flow → Prop
  | .ok .nx ε' => ∀ δ' μ', Tr δ μ ε δ' μ' ε' → D.nx δ' μ'
  | .ok .bk ε' => ∀ δ' μ', Tr δ μ ε δ' μ' ε' → D.bk δ' μ'
  | .ok .ct ε' => ∀ δ' μ', Tr δ μ ε δ' μ' ε' → D.ct δ' μ'
  | .ok (.rt r) ε' => ∀ δ' μ' v, Tr δ μ ε δ' μ' ε' → RS' δ μ ε δ' μ' ε' r v → D.rt v μ'
  | _ => False
def upFS (f : FS) : DTS := fun D δ μ => ∃ ε, Mt δ μ ε ∧ fitS D δ μ ε (f ε)
abbrev FSt1 (X : Cx) (st : Stmt) (f : FS) : Prop := DS X st (upFS f)
abbrev FSts (X : Cx) (st : List Stmt) (f : FS) : Prop := DSs X st (upFS f)
theorem fitS_step {D : DEnds} {δ δ1 : DSt} {μ μ1 : Mu} {ε ε1 : FSt} (m : Mt δ μ ε) (t : Tr δ μ ε δ1 μ1 ε1) {r : R Flow} (h : fitS D δ μ ε r) : fitS D δ1 μ1 ε1 r := by
  cases r with
  | no => exact h
  | ex _ _ => exact h
  | ok fl ε' => cases fl with
    | nx => exact fun δ' μ' t' => h δ' μ' (t.trans m t')
    | bk => exact fun δ' μ' t' => h δ' μ' (t.trans m t')
    | ct => exact fun δ' μ' t' => h δ' μ' (t.trans m t')
    | rt r => exact fun δ' μ' v t' rr => h δ' μ' v (t.trans m t') (RS'.back m t rr)
theorem upFS_next {D : DEnds} {δ δ1 : DSt} {μ μ1 : Mu} {ε ε1 : FSt} {f : FS} (m : Mt δ μ ε) (t : Tr δ μ ε δ1 μ1 ε1) (h : fitS D δ μ ε (f ε1)) : upFS f D δ1 μ1 := ⟨ε1, t.mt, fitS_step m t h⟩
def fsNext : FS := fun ε => .ok .nx ε
def fsBrk : FS := fun ε => .ok .bk ε
def fsCnt : FS := fun ε => .ok .ct ε
def fsSeq (f g : FS) : FS := fun ε => (f ε).bind fun fl ε1 => match fl with
  | .nx => g ε1
  | fl => .ok fl ε1
def fsRet (fe : FT) : FS := fun ε => (fe ε).bind fun r ε1 => .ok (.rt r) ε1
def fsDrop (fe : FT) : FS := fun ε => (fe ε).bind fun _ ε1 => .ok .nx ε1
def fsIf (t : FTT) (f g : FS) : FS := fun ε => (t ε).bind fun b ε1 => if b = true then f ε1 else g ε1
section
variable {X : Cx} {pos : Pos} {st : Stmt} {rest : List Stmt} {f g : FS} {e : Expr} {fe : FT} {tC : FTT}
theorem useSE {δ : DSt} {μ : Mu} {ε : FSt} {D : DEnds} {k : FR → FSt → R Flow} {Q' : DV → Mu → Prop} (m : Mt δ μ ε) (h : fitS D δ μ ε ((fe ε).bind k))
    (w : ∀ r ε1 v μ1, TrE δ μ ε μ1 ε1 → RF δ μ ε1 μ1 r v → fitS D δ μ ε (k r ε1) → Q' v μ1) : upF fe δ μ Q' := by
  refine ⟨ε, m, ?_⟩
  cases e : fe ε with
  | no => rw [e] at h; exact h.elim
  | ex _ _ => rw [e] at h; exact h.elim
  | ok r ε1 => rw [e] at h; exact fun v μ1 t p => w r ε1 v μ1 t p h
theorem useST {δ : DSt} {μ : Mu} {ε : FSt} {D : DEnds} {k : Bool → FSt → R Flow} {Q' : Bool → Mu → Prop} (m : Mt δ μ ε) (h : fitS D δ μ ε ((tC ε).bind k))
    (w : ∀ r ε1 μ1, TrE δ μ ε μ1 ε1 → fitS D δ μ ε (k r ε1) → Q' r μ1) : upFT tC δ μ Q' := by
  refine ⟨ε, m, ?_⟩
  cases e : tC ε with
  | no => rw [e] at h; exact h.elim
  | ex _ _ => rw [e] at h; exact h.elim
  | ok r ε1 => rw [e] at h; exact fun v μ1 t p => by subst p; exact w v ε1 μ1 t h
theorem fs_nil : FSts X [] fsNext := ss_imp s_nil fun D δ μ ⟨ε, m, h⟩ => h δ μ (.refl m)
theorem fs_one (h1 : FSt1 X st f) : FSts X [st] f := s_one h1
theorem fs_cons (h1 : FSt1 X st f) (h2 : FSts X rest g) : FSts X (st :: rest) (fsSeq f g) := ss_imp (s_cons h1 h2) fun D δ μ ⟨ε, m, h⟩ => by
  refine ⟨ε, m, ?_⟩
  unfold fsSeq at h
  cases e : f ε with
  | no => rw [e] at h; exact h.elim
  | ex _ _ => rw [e] at h; exact h.elim
  | ok fl ε1 =>
    rw [e] at h
    cases fl with
    | nx => exact fun δ' μ' t => upFS_next m t h
    | bk => exact h
    | ct => exact h
    | rt r => exact h
theorem fs_ret (he : FE X e fe) : FSt1 X (.Return (some e) pos) (fsRet fe) := s_imp (s_ret he) fun D δ μ ⟨ε, m, h⟩ => useSE m h fun r ε1 v μ1 t p h1 => h1 δ μ1 v t.tr p.rs
theorem fs_expr (he : FE X e fe) (hs : swapsWith e none pos.line X.env = pure false := by rfl) : FSt1 X (.Expr e pos) (fsDrop fe) := s_imp (s_expr he hs) fun D δ μ ⟨ε, m, h⟩ => useSE m h fun r ε1 v μ1 t p h1 => h1 δ μ1 t.tr
theorem fs_if {as bs : List Stmt} (hc : FC X e tC) (ha : FSts X as f) (hb : FSts X bs g) : FSt1 X (.If e as bs pos) (fsIf tC f g) := s_imp (s_if hc ha hb) fun D δ μ ⟨ε, m, h⟩ => useST m h fun b ε1 μ1 t h1 => by
  cases b with
  | true => exact upFS_next m t.tr h1
  | false => exact upFS_next m t.tr h1
end
end FL

namespace FL
open PySem PySem.Spec PyProof.Rows L2 DL
theorem getC_ne {ε : FSt} {i j : Nat} {x : Option FV} (h : i ≠ j) : getC (ε.set i x) j = getC ε j := by
  unfold getC; rw [List.getElem?_set_ne h]
theorem get_set {α : Type} {l : List α} {i : Nat} {x y : α} (h : (l.set i x)[i]? = some y) : y = x ∧ i < l.length := by
  by_cases hi : i < l.length
  · rw [List.getElem?_set_self hi] at h
    exact ⟨(Option.some.inj h).symm, hi⟩
  · rw [List.getElem?_eq_none (by simpa using hi)] at h; cases h
theorem getC_same {ε : FSt} {i : Nat} {x : Option FV} {c : Cell} (h : getC (ε.set i x) i = some c) : (x = some (.c c) ∨ x = some (.b c)) ∧ i < ε.length := by
  rcases getC_some h with h | h
  · obtain ⟨a, b⟩ := get_set h; exact ⟨.inl a.symm, b⟩
  · obtain ⟨a, b⟩ := get_set h; exact ⟨.inr a.symm, b⟩
/-- a result as a slot's value -/
def frV : FR → Option FV
  | .val x => some (.d x)
  | .own c => some (.c c)
  | .ref _ => none
def isBb (ε : FSt) (i : Nat) : Bool := match ε[i]? with
  | some (some (.b _)) => true
  | _ => false
theorem isBb_false {ε : FSt} {i : Nat} (h : isBb ε i = false) {c : Cell} (e : ε[i]? = some (some (.b c))) : False := by
  unfold isBb at h; rw [e] at h; cases h
section
variable {δ : DSt} {μ μ1 : Mu} {ε ε1 : FSt}
theorem TrE.setS (m : Mt δ μ ε) (t : TrE δ μ ε μ1 ε1) {i : Nat} {r : FR} {v : DV} {x : FV} (rf : RF δ μ ε1 μ1 r v) (hb : isBb ε1 i = false) (hx : frV r = some x) : Tr δ μ ε (δ.set i (some v)) μ1 (ε1.set i (some x)) := by
  have hl := t.mt.len
  have own : ∀ c, x = .c c → ∃ p, v = .cell p ∧ μ1 p = some c ∧ μ p = none := fun c e => by
    cases r with
    | val y => simp [frV] at hx; rw [← hx] at e; cases e
    | ref y => simp [frV] at hx
    | own c' => simp [frV] at hx; rw [← hx] at e; cases e; exact rf
  have nob : ∀ c, x ≠ .b c := fun c e => by
    cases r with
    | val y => simp [frV] at hx; rw [← hx] at e; cases e
    | ref y => simp [frV] at hx
    | own c' => simp [frV] at hx; rw [← hx] at e; cases e
  have dat : ∀ y, x = .d y → v = .d y := fun y e => by
    cases r with
    | val z => simp [frV] at hx; rw [← hx] at e; cases e; exact rf
    | ref y => simp [frV] at hx
    | own c' => simp [frV] at hx; rw [← hx] at e; cases e
  have adr : ∀ j p, isC ε1 j → δ[j]? = some (some (.cell p)) → μ p ≠ none := fun j p h1 h2 e => by
    obtain ⟨c, hc⟩ := m.adr (t.kd.adr.mpr ⟨j, h1, h2⟩)
    rw [e] at hc; cases hc
  refine ⟨⟨by simp [hl], fun j y h => ?_, fun j c h => ?_, fun j k p hj hk h1 h2 => ?_⟩, t.fr, fun j c h => ?_, fun j c h => ?_, fun p h => ?_, by simp [t.kd.len]⟩
  · by_cases e : i = j
    · subst e
      obtain ⟨a, b⟩ := get_set h
      rw [List.getElem?_set_self (by omega), dat y (Option.some.inj a).symm]
    · rw [List.getElem?_set_ne e] at h ⊢
      exact t.mt.dat j y h
  · by_cases e : i = j
    · subst e
      obtain ⟨a, b⟩ := getC_same h
      rcases a with a | a
      · obtain ⟨p, h1, h2, _⟩ := own c (Option.some.inj a)
        exact ⟨p, by rw [List.getElem?_set_self (by omega), h1], h2⟩
      · exact (nob c (Option.some.inj a)).elim
    · rw [getC_ne e] at h
      rw [List.getElem?_set_ne e]
      exact t.mt.cel j c h
  · by_cases e : i = j
    · subst e
      by_cases e2 : i = k
      · exact e2
      · obtain ⟨c, hc⟩ := isC_some hj
        obtain ⟨a, b⟩ := getC_same hc
        rcases a with a | a
        · obtain ⟨q, g1, g2, g3⟩ := own c (Option.some.inj a)
          rw [List.getElem?_set_self (by omega), g1] at h1
          cases h1
          rw [List.getElem?_set_ne e2] at h2
          unfold isC at hk
          rw [getC_ne e2] at hk
          exact (adr k p hk h2 g3).elim
        · exact (nob c (Option.some.inj a)).elim
    · by_cases e2 : i = k
      · subst e2
        obtain ⟨c, hc⟩ := isC_some hk
        obtain ⟨a, b⟩ := getC_same hc
        rcases a with a | a
        · obtain ⟨q, g1, g2, g3⟩ := own c (Option.some.inj a)
          rw [List.getElem?_set_self (by omega), g1] at h2
          cases h2
          rw [List.getElem?_set_ne e] at h1
          unfold isC at hj
          rw [getC_ne e] at hj
          exact (adr j p hj h1 g3).elim
        · exact (nob c (Option.some.inj a)).elim
      · unfold isC at hj hk
        rw [getC_ne e] at hj
        rw [getC_ne e2] at hk
        rw [List.getElem?_set_ne e] at h1
        rw [List.getElem?_set_ne e2] at h2
        exact t.mt.apart j k p hj hk h1 h2
  · obtain ⟨c1, h1⟩ := t.kd.bb.mp ⟨c, h⟩
    have e : i ≠ j := fun e => by subst e; exact isBb_false hb h1
    rw [List.getElem?_set_ne e, List.getElem?_set_ne e]
    exact ⟨⟨c1, h1⟩, rfl⟩
  · by_cases e : i = j
    · subst e
      obtain ⟨a, b⟩ := get_set h
      exact (nob c (Option.some.inj a).symm).elim
    · rw [List.getElem?_set_ne e] at h
      exact t.kd.bb.mpr ⟨c, h⟩
  · obtain ⟨j, c, h1, h2⟩ := h
    by_cases e : i = j
    · subst e
      obtain ⟨a, b⟩ := get_set h1
      obtain ⟨q, g1, g2, g3⟩ := own c (Option.some.inj a).symm
      rw [List.getElem?_set_self (by omega), g1] at h2
      cases h2
      exact .inr g3
    · rw [List.getElem?_set_ne e] at h1 h2
      exact .inl (t.kd.own ⟨j, c, h1, h2⟩)
theorem Tr.setD (m : Mt δ μ ε) {i : Nat} {x : PyData} (hb : isBb ε i = false) : Tr δ μ ε (δ.set i (some (.d x))) μ (ε.set i (some (.d x))) := TrE.setS m (.refl m) (r := .val x) (show RF δ μ ε μ (.val x) (.d x) from rfl) hb rfl
/-- a container's slot becomes data -/
theorem Tr.frz (m : Mt δ μ ε) {i : Nat} {p : Addr} {c : Cell} (hc : ε[i]? = some (some (.c c))) (hp : δ[i]? = some (some (.cell p))) : Tr δ μ ε (δ.set i (some (.d (cellD c)))) (del μ p) (ε.set i (some (.d (cellD c)))) := by
  have hl := m.len
  have ici : isC ε i := isC_of (getC_c hc)
  refine ⟨⟨by simp [hl], fun j y h => ?_, fun j c h => ?_, fun j k q hj hk h1 h2 => ?_⟩, fun b d h n => ?_, fun j c h => ?_, fun j c h => ?_, fun q h => ?_, by simp⟩
  · by_cases e : i = j
    · subst e
      obtain ⟨a, b⟩ := get_set h
      cases a
      rw [List.getElem?_set_self (by omega)]
    · rw [List.getElem?_set_ne e] at h ⊢
      exact m.dat j y h
  · by_cases e : i = j
    · subst e
      obtain ⟨a, b⟩ := getC_same h
      rcases a with a | a <;> cases a
    · rw [getC_ne e] at h
      rw [List.getElem?_set_ne e]
      obtain ⟨q, h1, h2⟩ := m.cel j c h
      refine ⟨q, h1, ?_⟩
      rw [del_ne (fun z => e (by subst z; exact m.apart i j q ici (isC_of h) hp h1)), h2]
  · by_cases e : i = j
    · subst e
      obtain ⟨c, hc⟩ := isC_some hj
      obtain ⟨a, b⟩ := getC_same hc
      rcases a with a | a <;> cases a
    · by_cases e2 : i = k
      · subst e2
        obtain ⟨c, hc⟩ := isC_some hk
        obtain ⟨a, b⟩ := getC_same hc
        rcases a with a | a <;> cases a
      · unfold isC at hj hk
        rw [getC_ne e] at hj
        rw [getC_ne e2] at hk
        rw [List.getElem?_set_ne e] at h1
        rw [List.getElem?_set_ne e2] at h2
        exact m.apart j k q hj hk h1 h2
  · rw [del_ne (fun z => n (by subst z; exact ⟨i, ici, hp⟩)), h]
  · have e : i ≠ j := fun e => by subst e; rw [hc] at h; cases h
    rw [List.getElem?_set_ne e, List.getElem?_set_ne e]
    exact ⟨⟨c, h⟩, rfl⟩
  · by_cases e : i = j
    · subst e
      obtain ⟨a, b⟩ := get_set h
      cases a
    · rw [List.getElem?_set_ne e] at h
      exact ⟨c, h⟩
  · obtain ⟨j, c, h1, h2⟩ := h
    by_cases e : i = j
    · subst e
      obtain ⟨a, b⟩ := get_set h1
      cases a
    · rw [List.getElem?_set_ne e] at h1 h2
      exact .inl ⟨j, c, h1, h2⟩
/-- a container's slot gets another content -/
theorem TrE.write (t : TrE δ μ ε μ1 ε1) {i : Nat} {p : Addr} {c c' : Cell} (hc : getC ε1 i = some c) (hp : δ[i]? = some (some (.cell p))) : TrE δ μ ε (put μ1 p c') (setC ε1 i c') := by
  have hl := t.mt.len
  have ici : isC ε1 i := isC_of hc
  have hgi : getC (setC ε1 i c') i = some c' := by
    rcases getC_some hc with h | h
    · unfold setC; rw [h]
      exact getC_c (List.getElem?_set_self (List.getElem?_eq_some_iff.mp h).1)
    · unfold setC; rw [h]
      exact getC_b (List.getElem?_set_self (List.getElem?_eq_some_iff.mp h).1)
  have hgj : ∀ j, i ≠ j → (setC ε1 i c')[j]? = ε1[j]? := fun j e => by
    unfold setC; split <;> first | rfl | rw [List.getElem?_set_ne e]
  have hgc : ∀ j, i ≠ j → getC (setC ε1 i c') j = getC ε1 j := fun j e => by unfold getC; rw [hgj j e]
  have hln : (setC ε1 i c').length = ε1.length := by unfold setC; split <;> simp
  have kd : Kd ε1 (setC ε1 i c') := ⟨hln, fun j v h => by
    by_cases e : i = j
    · subst e
      rcases getC_some hc with h2 | h2
      · rw [h2] at h; cases h
        exact ⟨some (.c c'), by unfold setC; rw [h2]; exact List.getElem?_set_self (List.getElem?_eq_some_iff.mp h2).1, c', rfl⟩
      · rw [h2] at h; cases h
        exact ⟨some (.b c'), by unfold setC; rw [h2]; exact List.getElem?_set_self (List.getElem?_eq_some_iff.mp h2).1, c', rfl⟩
    · exact ⟨v, by rw [hgj j e]; exact h, same1_refl v⟩⟩
  refine ⟨⟨by rw [hln]; exact hl, fun j y h => ?_, fun j d h => ?_, fun j k q hj hk h1 h2 => t.mt.apart j k q (kd.isC.mpr hj) (kd.isC.mpr hk) h1 h2⟩, fun b d h n => ?_, t.kd.trans kd⟩
  · by_cases e : i = j
    · subst e
      rcases getC_some hgi with g | g <;> (rw [g] at h; cases h)
    · rw [hgj j e] at h
      exact t.mt.dat j y h
  · by_cases e : i = j
    · subst e
      rw [hgi] at h; cases h
      exact ⟨p, hp, put_same⟩
    · rw [hgc j e] at h
      obtain ⟨q, h1, h2⟩ := t.mt.cel j d h
      exact ⟨q, h1, by rw [put_ne (fun z => e (by subst z; exact t.mt.apart i j q ici (isC_of h) hp h1)), h2]⟩
  · rw [put_ne (fun z => n (by subst z; exact t.kd.adr.mpr ⟨i, ici, hp⟩))]
    exact t.fr b d h n
end
def setR (i : Nat) (r : FR) (ε : FSt) : R Flow := match isBb ε i, frV r with
  | false, some x => .ok .nx (ε.set i (some x))
  | _, _ => .no
def fsAsg (i : Nat) (fe : FT) : FS := fun ε => (fe ε).bind (setR i)
theorem setR_fit {δ : DSt} {μ μ1 : Mu} {ε ε1 : FSt} {D : DEnds} {i : Nat} {r : FR} {v : DV} (m : Mt δ μ ε) (t : TrE δ μ ε μ1 ε1) (rf : RF δ μ ε1 μ1 r v) (h : fitS D δ μ ε (setR i r ε1)) : D.nx (δ.set i (some v)) μ1 := by
  unfold setR at h
  split at h
  · next x h1 h2 => exact h _ _ (t.setS m rf h1 h2)
  · exact h.elim
section
variable {X : Cx} {pos : Pos} {st : Stmt} {e : Expr} {fe : FT}
theorem fs_asg {i : Nat} {x : Str} {pos' : Pos} (hN : X.N.Nodup) (hi : X.N[i]? = some x) (hx : Loc X.env.scope x) (he : FE X e fe) (hs : swapsWith e (some (.Name x pos')) pos.line X.env = pure false := by rfl) (hf : X.fn x = true ∨ X.env.scope.names.lookup x = some .local := by first | exact .inl rfl | exact .inr rfl | assumption) :
    FSt1 X (.Assign [.Name x pos'] e pos) (fsAsg i fe) := s_imp (s_set hN hi hx he hs hf) fun D δ μ ⟨ε, m, h⟩ => useSE m h fun r ε1 v μ1 t p h1 => setR_fit m t p h1
def fsFrz (i : Nat) : FS := fun ε => match ε[i]? with
  | some (some (.c c)) => .ok .nx (ε.set i (some (.d (cellD c))))
  | some (some (.d _)) => .ok .nx ε
  | _ => .no
theorem freeze_dct {K : PySem.W.Frag} {μ : Mu} {H : Hp} (m : RM K μ H) {p : Addr} {kvs : List (Key × PyData)} (h : μ p = some (.dct kvs)) : Da K (hid (del μ p) H) (.ref p) (cellD (.dct kvs)) := by
  obtain ⟨ks, h1, h2, h3⟩ := m p _ h
  have := Da.dct (K := K) (H := hid (del μ p) H) (a := p) (kvs := ks) (.inl (by rw [hid_of del_same]; exact h1)) (h3.mono ext_freeze)
  have e : ((ks.map fun q => kD q.1).zip (kvs.map (·.2))) = kvs.map fun p => (kD p.1, p.2) := by
    have : (ks.map fun p => kD p.1) = kvs.map fun p => kD p.1 := by
      have := congrArg (List.map kD) h2
      simpa [List.map_map, Function.comp_def] using this
    rw [this, List.zip_map']
  rw [e] at this
  exact this
theorem freeze_cell {K : PySem.W.Frag} {μ : Mu} {H : Hp} (m : RM K μ H) {p : Addr} {c : Cell} (h : μ p = some c) : Da K (hid (del μ p) H) (.ref p) (cellD c) := by
  cases c with
  | lst ds => exact freeze_lst m h
  | dct kvs => exact freeze_dct m h
  | dtt kvs =>
    obtain ⟨ks, h1, _, _⟩ := m p _ h
    exact .opq (by rw [hid_of del_same]; exact h1) (.t ks)
  | dti kvs =>
    obtain ⟨xs, h1, _⟩ := m p _ h
    exact .opq (by rw [hid_of del_same]; exact h1) (.i xs)
theorem RS.frz {K : PySem.W.Frag} {μ : Mu} {H : Hp} {σ : L2.St} {δ : DSt} (rs : RS K μ H σ δ) (rm : RM K μ H) {i : Nat} {p : Addr} {c : Cell} (hc : μ p = some c) (hp : δ[i]? = some (some (.cell p))) : RS K (del μ p) H σ (δ.set i (some (.d (cellD c)))) := by
  refine ⟨by rw [List.length_set]; exact rs.1, fun j d h => ?_⟩
  by_cases e : i = j
  · subst e
    obtain ⟨a, b⟩ := get_set h
    cases a
    obtain ⟨v, h1, h2⟩ := rs.2 i _ hp
    cases (show v = .ref p from h2)
    exact ⟨_, h1, freeze_cell rm hc⟩
  · rw [List.getElem?_set_ne e] at h
    obtain ⟨v, h1, h2⟩ := rs.2 j d h
    exact ⟨v, h1, h2.mono ext_freeze⟩
theorem fs_frz {f : FS} {i : Nat} (h : FSt1 X st f) : FSt1 X st (fsSeq (fsFrz i) f) := ps_imp h fun D σ H ⟨δ, μ, Dd, rs, rm, ⟨ε, m, q⟩, w⟩ => by
  unfold fsSeq fsFrz at q
  split at q
  · next c hc =>
    obtain ⟨p, h1, h2⟩ := m.cel i c (getC_c hc)
    have t := Tr.frz m hc h1
    exact ⟨_, del μ p, Dd, RS.frz rs rm h2 h1, rm.freeze, upFS_next m t q, w.step ext_freeze⟩
  · exact ⟨δ, μ, Dd, rs, rm, ⟨ε, m, q⟩, w⟩
  · exact q.elim
end
def frz (f : FT) : FT := fun ε => (f ε).bind fun r ε1 => match r with
  | .own c => .ok (.val (cellD c)) ε1
  | .val x => .ok (.val x) ε1
  | .ref _ => .no
theorem d_frz {X : Cx} {e : Expr} {t : DT} (h : DE X e t) : DE X e (fun δ μ Q => t δ μ fun v μ1 => match v with
    | .cell p => ∃ c, μ1 p = some c ∧ Q (.d (cellD c)) (del μ1 p)
    | .d x => Q (.d x) μ1) := pe_imp h fun σ H Q ⟨δ, μ, Qd, rs, rm, q, w⟩ => up_use rs rm q fun d μ1 v H1 e1 m1 r1 q1 => by
  cases d with
  | d x => exact w (.d x) μ1 v H1 e1 m1 r1 q1
  | cell p =>
    obtain ⟨c, hc, q1⟩ := q1
    cases (show v = .ref p from r1)
    exact w (.d (cellD c)) (del μ1 p) _ H1 (e1.trans ext_freeze) m1.freeze (freeze_cell m1 hc) q1
theorem TrE.drop {δ : DSt} {μ μ1 : Mu} {ε ε1 : FSt} (m : Mt δ μ ε) (t : TrE δ μ ε μ1 ε1) {p : Addr} (hp : μ p = none) : TrE δ μ ε (del μ1 p) ε1 := by
  refine ⟨⟨t.mt.len, t.mt.dat, fun i c h => ?_, t.mt.apart⟩, fun b d h n => ?_, t.kd⟩
  · obtain ⟨q, h1, h2⟩ := t.mt.cel i c h
    refine ⟨q, h1, ?_⟩
    rw [del_ne (fun z => ?_), h2]
    subst z
    obtain ⟨c2, hc⟩ := m.adr (t.kd.adr.mpr ⟨i, isC_of h, h1⟩)
    rw [hp] at hc; cases hc
  · rw [del_ne (fun z => by subst z; rw [hp] at h; cases h)]
    exact t.fr b d h n
theorem f_frz {X : Cx} {e : Expr} {f : FT} (h : FE X e f) : FE X e (frz f) := d_imp (d_frz h) fun δ μ Q ⟨ε, m, h⟩ => use1 m h fun r ε1 v μ1 e t rf h1 => by
  cases r with
  | val x => cases (show v = .d x from rf); exact h1 _ _ t rfl
  | ref i => exact h1.elim
  | own c =>
    obtain ⟨p, rfl, h2, h3⟩ := rf
    exact ⟨c, h2, h1 _ _ (t.drop m h3) rfl⟩
end FL

namespace FL
open PySem PySem.Spec PyProof.Rows L2 DL
section
variable {X : Cx} {pos apos cpos : Pos} {st : Stmt} {e o b : Expr} {es : List Expr} {fe fo fi : FT} {fr : FTA}
/-- what a method makes of a list: what it tells, and the list then -/
abbrev GM := List PyData → List PyData → Option (PyData × List PyData)
structure MutOk (K : PySem.W.Frag) (r : V → List V → Hp → VK → Prop) (g : GM) : Prop where
  use : ∀ {H : Hp} {μ : Mu} {p : Addr} {vs us : List V} {xs ys xs' : List PyData} {z : PyData}, H p = some (.lst vs) → DaAll K (hid μ H) vs xs → DaAll K (hid μ H) us ys → g xs ys = some (z, xs') →
    ∃ w vs', (∀ Q : VK, Q w (upd H p (.lst vs')) → r (.ref p) us H Q) ∧ DaAll K (hid μ H) vs' xs' ∧ Da K (hid μ H) w z
def fMut (g : GM) (fo : FT) (fr : FTA) : FT := fun ε => (fo ε).bind fun o ε1 => match o with
  | .ref i => (fr ε1).bind fun as ε2 => match getC ε1 i, getC ε2 i, vals as with
    | some (.lst _), some (.lst xs), some ys => match g xs ys with
      | some (z, xs') => .ok (.val z) (setC ε2 i (.lst xs'))
      | none => .no
    | _, _, _ => .no
  | _ => .no
def dMut (g : GM) (to : DT) (tr : DTA) : DT := fun δ μ Q => to δ μ fun x μ1 => match x with
  | .cell p => (∃ ys, μ1 p = some (.lst ys)) ∧ tr δ μ1 fun as μ2 => ∃ xs ys z xs', μ2 p = some (.lst xs) ∧ allD as = some ys ∧ g xs ys = some (z, xs') ∧ Q (.d z) (put μ2 p (.lst xs'))
  | _ => False
theorem d_mut {g : GM} {r : V → List V → Hp → VK → Prop} {name : Str} {id : String} {to : DT} {tr : DTA} (M : MutOk X.K r g) (pa : PlainAttrs "list") (slot : Slot "list" name id) (hty : typeOf (.builtin id) = pure (.type "method_descriptor")) (hm : MtR X id r) (ho : DE X o to) (ha : DA X (e :: es) tr)
    (hbase : attributeBase o name X.env (eval o X.env) = eval o X.env := by rfl)
    (hfew : ((backTo cpos (starEach (e :: es) X.env)).all (fun x => !x.1) && (backToKw cpos (keywordEach [] X.env)).all (fun x => x.1.isSome)
      && decide ((e :: es).length + ([] : List Keyword).length + (if ([] : List Keyword).isEmpty then 0 else 1) < 30)) = true := by rfl)
    (hline : (apos.endLine == cpos.line) = true := by rfl) (hs : starEach (e :: es) X.env = (false, eval e X.env) :: starEach es X.env := by rfl) (hplain : (backTo cpos (starEach es X.env)).any (·.1) = false := by rfl) :
    DE X (.Call (.Attribute o name apos) (e :: es) [] cpos) (dMut g to tr) :=
  pe_imp (pe_bm pa slot hty hm ho ha hbase hfew hline hs hplain) fun σ H Q ⟨δ, μ, Qd, rs, rm, q, w⟩ => up_use rs rm q fun x μ1 v H1 e1 m1 r1 q1 => by
    cases x with
    | d x => exact q1.elim
    | cell p =>
      obtain ⟨⟨ys, hy⟩, q1⟩ := q1
      cases (show v = .ref p from r1)
      obtain ⟨vs0, h01, h02⟩ := m1 p _ hy
      refine ⟨.inl ⟨rfl, vs0, .of h01⟩, upA_use (rs.mono e1) m1 q1 fun as μ2 us H2 e2 m2 r2 ⟨xs, ys, z, xs', h1, h2, h3, q2⟩ => ?_⟩
      obtain ⟨vs, g1, g2⟩ := m2 p _ h1
      obtain ⟨w', vs', k1, k2, k3⟩ := M.use g1 g2 (allD_da h2 r2) h3
      refine k1 _ (w (.d z) (put μ2 p (.lst xs')) _ _ (e1.trans (e2.trans (ext_write h1))) (m2.write (c := .lst xs') h1 ⟨vs', upd_same, k2.mono (ext_write h1)⟩) (k3.mono (ext_write h1)) q2)
theorem up_fMut {g : GM} : ∀ δ μ Q, upF (fMut g fo fr) δ μ Q → dMut g (upF fo) (upFA fr) δ μ Q := fun δ μ Q ⟨ε, m, h⟩ => use1 m h fun o ε1 v μ1 e t rf h1 => by
  cases o with
  | val x => exact h1.elim
  | own c => exact h1.elim
  | ref i =>
    obtain ⟨hc, p, rfl, hp⟩ := rf
    obtain ⟨c0, hc0⟩ := isC_some hc
    obtain ⟨q, h2, h3⟩ := t.mt.cel i c0 hc0
    rw [hp] at h2; cases h2
    have h1 : fit (fun r v μ' ε' => RF δ μ ε' μ' r v) δ μ ε Q ((fr ε1).bind fun as ε2 => match getC ε1 i, getC ε2 i, vals as with
      | some (.lst _), some (.lst xs), some ys => match g xs ys with
        | some (z, xs') => .ok (.val z) (setC ε2 i (.lst xs'))
        | none => .no
      | _, _, _ => .no) := h1
    have hl : ∃ ys, c0 = .lst ys := by
      cases c0 with
      | lst ys => exact ⟨ys, rfl⟩
      | dct kvs =>
        rw [hc0] at h1
        obtain ⟨a, ε', e2, _⟩ := fit_ok h1
        cases e3 : fr ε1 with
        | no => rw [e3] at e2; cases e2
        | ex _ _ => rw [e3] at e2; cases e2
        | ok a ε => rw [e3] at e2; cases e2
      | dtt kvs =>
        rw [hc0] at h1
        obtain ⟨a, ε', e2, _⟩ := fit_ok h1
        cases e3 : fr ε1 with
        | no => rw [e3] at e2; cases e2
        | ex _ _ => rw [e3] at e2; cases e2
        | ok a ε => rw [e3] at e2; cases e2
      | dti kvs =>
        rw [hc0] at h1
        obtain ⟨a, ε', e2, _⟩ := fit_ok h1
        cases e3 : fr ε1 with
        | no => rw [e3] at e2; cases e2
        | ex _ _ => rw [e3] at e2; cases e2
        | ok a ε => rw [e3] at e2; cases e2
    obtain ⟨ys, rfl⟩ := hl
    refine ⟨⟨ys, h3⟩, useA (P := fun r v μ' ε' => RF δ μ ε' μ' r v) t.mt (fit_step t h1 fun _ _ _ _ _ p => p) fun as ε2 vs μ2 e2 t2 rf2 h4 => ?_⟩
    rw [hc0] at h4
    split at h4
    · next xs ys' g1 g2 g3 =>
      split at h4
      · next z xs' g4 =>
        obtain ⟨q2, k1, k2⟩ := t2.mt.cel i _ g2
        rw [hp] at k1; cases k1
        exact ⟨xs, ys', z, xs', k2, vals_allD rf2 g3, g4, h4 _ _ (t2.write g2 hp) rfl⟩
      · exact h4.elim
    · exact h4.elim
theorem f_mut {g : GM} {r : V → List V → Hp → VK → Prop} {name : Str} {id : String} (M : MutOk X.K r g) (pa : PlainAttrs "list") (slot : Slot "list" name id) (hty : typeOf (.builtin id) = pure (.type "method_descriptor")) (hm : MtR X id r) (ho : FE X o fo) (ha : FA X (e :: es) fr)
    (hbase : attributeBase o name X.env (eval o X.env) = eval o X.env := by rfl)
    (hfew : ((backTo cpos (starEach (e :: es) X.env)).all (fun x => !x.1) && (backToKw cpos (keywordEach [] X.env)).all (fun x => x.1.isSome)
      && decide ((e :: es).length + ([] : List Keyword).length + (if ([] : List Keyword).isEmpty then 0 else 1) < 30)) = true := by rfl)
    (hline : (apos.endLine == cpos.line) = true := by rfl) (hs : starEach (e :: es) X.env = (false, eval e X.env) :: starEach es X.env := by rfl) (hplain : (backTo cpos (starEach es X.env)).any (·.1) = false := by rfl) :
    FE X (.Call (.Attribute o name apos) (e :: es) [] cpos) (fMut g fo fr) := d_imp (d_mut M pa slot hty hm ho ha hbase hfew hline hs hplain) up_fMut
noncomputable def gAppend : GM := fun xs ys => match ys with
  | [y] => req (xs.length < 1000000) (some (.none, xs ++ [y]))
  | _ => none
theorem m_append {K : PySem.W.Frag} : MutOk K rAppend gAppend := ⟨fun {H μ p vs us xs ys xs' z} h1 h2 h3 h4 => by
  unfold gAppend at h4
  split at h4
  · next y =>
    obtain ⟨hl, e⟩ := req_some h4
    cases e
    cases h3 with
    | cons a t =>
      cases t
      exact ⟨.non, vs ++ [_], fun Q q => ⟨p, vs, _, rfl, rfl, h1, by rw [h2.length]; exact Nat.lt_of_lt_of_le hl (by decide), q⟩, h2.append (.cons a .nil), .non⟩
  · cases h4⟩
theorem DaAll.dropLast {K : PySem.W.Frag} {H : Hp} {vs : List V} {ds : List PyData} (h : DaAll K H vs ds) : DaAll K H vs.dropLast ds.dropLast := by
  rw [List.dropLast_eq_take, List.dropLast_eq_take, h.length]
  exact h.take _
def setI (o : FR) (k : Option PyData) (r : FR) (ε : FSt) : R Flow := match r, o, k with
  | .val x, .ref i, some (.int n) => match getC ε i with
    | some (.lst xs) => match ixN xs.length n with
      | some j => .ok .nx (setC ε i (.lst (xs.set j x)))
      | none => .no
    | _ => .no
  | _, _, _ => .no
def fsSetI (fo fi fe : FT) : FS := fun ε => (fe ε).bind fun r ε1 => (fo ε1).bind fun o ε2 => (fi ε2).bind fun k ε3 => setI o (see ε3 k) r ε3
theorem look_int' {μ : Mu} {v : DV} {i : Int} (h : look μ v = some (.int i)) : v = .d (.int i) := by
  cases v with
  | d y => cases (show y = _ from Option.some.inj h); rfl
  | cell p =>
    have h : (μ p).map cellD = some _ := h
    cases e : μ p with
    | none => rw [e] at h; cases h
    | some c => rw [e] at h; cases c <;> cases h
theorem fs_setI {tpos : Pos} (ho : FE X o fo) (hi : FE X b fi) (he : FE X e fe)
    (ha : ∀ v, assign (.Subscript o b tpos) X.env v = (do
      let ov ← holding [v] (eval o X.env)
      let iv ← holding [v, ov] (eval b X.env)
      standAt tpos
      holding [v, ov, iv] (setItem ov iv v)
      release [v, ov, iv] []) := by intro _; rfl)
    (hs : swapsWithSole [.Subscript o b tpos] e pos.line X.env = pure false := by rfl) (hw : swappedStores [.Subscript o b tpos] e X.env = pure none := by rfl)
    (h1 : (assignEach [.Subscript o b tpos] X.env).map (·.2) = [assign (.Subscript o b tpos) X.env] := by rfl) : FSt1 X (.Assign [.Subscript o b tpos] e pos) (fsSetI fo fi fe) :=
  s_imp (s_asg he (g_subL ho hi ha) hs hw h1) fun D δ μ ⟨ε, m, h⟩ => useSE m h fun r ε1 v μ1 t p h1 =>
    useSE t.mt (fitS_step m t.tr h1) fun o ε2 ov μ2 t2 p2 h2 => useSE (δ := δ) t2.mt (fitS_step t.mt t2.tr h2) fun k ε3 kv μ3 t3 p3 h3 => by
      unfold setI at h3
      split at h3
      · next x i n ek =>
        cases (show v = .d x from p)
        obtain ⟨hc, q, rfl, hq⟩ := p2
        cases look_int' (see_look t3.mt p3 ek)
        split at h3
        · next xs ec =>
          split at h3
          · next j ej =>
            obtain ⟨q', k1, k2⟩ := t3.mt.cel i _ ec
            rw [hq] at k1; cases k1
            show rdSetL _ _ _ _ _
            unfold rdSetL
            simp only [k2, ej]
            exact h3 _ _ (t3.write ec hq).tr
          · exact h3.elim
        · exact h3.elim
      · exact h3.elim
end
end FL

namespace FL
open PySem PySem.Spec PyProof.Rows L2 DL
abbrev GF := PyData → FSt → Option FSt
structure TGd (gd : DTG) (gf : GF) : Prop where
  ok : ∀ {d : PyData} {δ : DSt} {μ : Mu} {ε ε' : FSt}, Mt δ μ ε → gf d ε = some ε' → ∃ δ', Tr δ μ ε δ' μ ε' ∧ ∀ K : DSt → Mu → Prop, K δ' μ → gd (.d d) δ μ K
def tgN (i : Nat) : GF := fun d ε => if isBb ε i = true then none else some (ε.set i (some (.d d)))
def setAllF : List Nat → List PyData → FSt → Option FSt
  | i :: is, x :: xs, ε => if isBb ε i = true then none else setAllF is xs (ε.set i (some (.d x)))
  | _, _, ε => some ε
def tgT (is : List Nat) : GF := fun d ε => match d with
  | .tuple xs => if xs.length = is.length then setAllF is xs ε else none
  | _ => none
theorem tgd_name {i : Nat} : TGd (gdName i) (tgN i) := ⟨fun {d δ μ ε ε'} m h => by
  unfold tgN at h
  split at h
  · cases h
  · next hb =>
    cases h
    exact ⟨_, Tr.setD m (by simpa using hb), fun K k => k⟩⟩
theorem setAllF_tr : ∀ {is : List Nat} {xs : List PyData} {δ : DSt} {μ : Mu} {ε ε' : FSt}, Mt δ μ ε → setAllF is xs ε = some ε' → Tr δ μ ε (setAll is xs δ) μ ε'
  | [], [], _, _, _, _, m, h => by cases h; exact .refl m
  | [], _ :: _, _, _, _, _, m, h => by cases h; exact .refl m
  | _ :: _, [], _, _, _, _, m, h => by cases h; exact .refl m
  | i :: is, x :: xs, δ, μ, ε, ε', m, h => by
    unfold setAllF at h
    split at h
    · cases h
    · next hb =>
      have t := Tr.setD (x := x) m (i := i) (by simpa using hb)
      exact t.trans m (setAllF_tr t.mt h)
theorem tgd_tup {is : List Nat} : TGd (gdTup is) (tgT is) := ⟨fun {d δ μ ε ε'} m h => by
  unfold tgT at h
  split at h
  · next xs =>
    split at h
    · next hl => exact ⟨_, setAllF_tr m h, fun K k => ⟨hl, k⟩⟩
    · cases h
  · cases h⟩
abbrev FTI := FSt → R (List PyData)
def upFI (f : FTI) : DTI := fun δ μ Q => ∃ ε, Mt δ μ ε ∧ fit (fun r v _ _ => v = r) δ μ ε Q (f ε)
abbrev FI (b : Bool) (X : Cx) (tg iter : Expr) (f : FTI) : Prop := DI b X tg iter (upFI f)
theorem di_imp {b : Bool} {X : Cx} {tg iter : Expr} {t t' : DTI} (h : DI b X tg iter t) (w : ∀ δ μ Q, t' δ μ Q → t δ μ Q) : DI b X tg iter t' := pi_imp h fun σ H R ⟨δ, μ, Qd, rs, rm, q, z⟩ => ⟨δ, μ, Qd, rs, rm, w _ _ _ q, z⟩
theorem di_or {b : Bool} {X : Cx} {tg iter : Expr} {t u : DTI} (h : DI b X tg iter t) (g : DI b X tg iter u) : DI b X tg iter (fun δ μ Q => t δ μ Q ∨ u δ μ Q) := ⟨fun pins s σ H R I ⟨δ, μ, Qd, rs, rm, q, w⟩ => by
  rcases q with q | q
  · exact h.run pins s σ H R I ⟨δ, μ, Qd, rs, rm, q, w⟩
  · exact g.run pins s σ H R I ⟨δ, μ, Qd, rs, rm, q, w⟩⟩
section
variable {X : Cx} {pos : Pos} {tg iter a b c e elt : Expr} {fe fa fb : FT} {es ifs : List Expr} {fr : FTA} {wi : FTI} {body : List Stmt} {fB : FS} {gd : DTG} {gf : GF} {scope : Scope} {own : List (Str × Nat)} {g : TG} {vs : List Nat}
def fiSeq (fe : FT) : FTI := fun ε => (fe ε).bind fun r ε1 => match (seeV r).bind itemsOf with
  | some xs => .ok xs ε1
  | none => .no
theorem fi_seq (h : FE X e fe) : FI true X tg e (fiSeq fe) := di_imp (di_or (i_list h) (i_tup h)) fun δ μ Q ⟨ε, m, h⟩ => by
  have key : (∃ xs ε1, fe ε = .ok (.val (.list xs)) ε1) ∨ ∃ xs ε1, fe ε = .ok (.val (.tuple xs)) ε1 := by
    unfold fiSeq at h
    cases e : fe ε with
    | no => rw [e] at h; exact h.elim
    | ex _ _ => rw [e] at h; exact h.elim
    | ok r ε1 =>
      rw [e, R.bind_ok] at h
      cases r with
      | ref i => exact h.elim
      | own c => exact h.elim
      | val x =>
        cases x with
        | list xs => exact .inl ⟨xs, ε1, rfl⟩
        | tuple xs => exact .inr ⟨xs, ε1, rfl⟩
        | _ => exact h.elim
  rcases key with ⟨xs, ε1, e⟩ | ⟨xs, ε1, e⟩
  · refine .inl (use1 m h fun r ε2 v μ1 e2 t rf h1 => ?_)
    rw [e] at e2
    cases e2
    cases (show v = _ from rf)
    exact h1 xs μ1 t rfl
  · refine .inr (use1 m h fun r ε2 v μ1 e2 t rf h1 => ?_)
    rw [e] at e2
    cases e2
    cases (show v = _ from rf)
    exact h1 xs μ1 t rfl
def fiArgs (g : List PyData → Option (List PyData)) (fr : FTA) : FTI := fun ε => (fr ε).bind fun as ε1 => match (vals as).bind g with
  | some xs => .ok xs ε1
  | none => .no
theorem useI {g : List PyData → Option (List PyData)} {r : List DV → Mu → (List PyData → Mu → Prop) → Prop} (hr : ∀ ds as xs μ Q, allD ds = some as → g as = some xs → Q xs μ → r ds μ Q) : ∀ δ μ Q, upFI (fiArgs g fr) δ μ Q → upFA fr δ μ (fun ds μ1 => r ds μ1 Q) := fun δ μ Q ⟨ε, m, h⟩ => useA m h fun rs ε1 vs μ1 e t rf h1 => by
  cases ho : (vals rs).bind g with
  | none => rw [ho] at h1; exact h1.elim
  | some xs =>
    rw [ho] at h1
    simp only [Option.bind_eq_some_iff] at ho
    obtain ⟨as, e1, e2⟩ := ho
    exact hr _ _ _ _ _ (vals_allD rf e1) e2 (h1 xs μ1 t rfl)
theorem allD1 {ds : List DV} {a : PyData} (h : allD ds = some [a]) : ds = [.d a] := by
  match ds with
  | [] => cases h
  | [.d x] => simp [allD] at h; rw [h]
  | .cell _ :: _ => cases h
  | .d x :: .cell _ :: r => simp [allD] at h
  | .d x :: .d y :: r => simp [allD] at h
theorem allD2 {ds : List DV} {a b : PyData} (h : allD ds = some [a, b]) : ds = [.d a, .d b] := by
  match ds with
  | [] => cases h
  | .cell _ :: _ => cases h
  | .d x :: r =>
    simp only [allD, Option.map_eq_some_iff] at h
    obtain ⟨ys, e1, e2⟩ := h
    cases e2
    rw [allD1 e1]
end
end FL

namespace FL
open PySem PySem.Spec PyProof.Rows L2 DL
section
variable {X : Cx} {pos : Pos} {tg iter a b c e elt : Expr} {fe fa fb : FT} {es ifs : List Expr} {fr : FTA} {wi : FTI} {body : List Stmt} {fB : FS} {gd : DTG} {gf : GF} {scope : Scope} {own : List (Str × Nat)} {g : TG} {vs : List Nat}
noncomputable def gRange1 : List PyData → Option (List PyData)
  | [.int j] => req (-(2 ^ 62) ≤ j ∧ j < 2 ^ 62) (some (rangeD 0 j.toNat))
  | _ => none
def gEnum : List PyData → Option (List PyData)
  | [.list xs] => some (enumD 0 xs)
  | _ => none
def gZip : List PyData → Option (List PyData)
  | [.list xs, .list ys] => some (zipD xs ys)
  | [.tuple xs, .tuple ys] => some (zipD xs ys)
  | _ => none
theorem fi_range1 {p : Pos} (hg : Gl X "range") (hm : X.mg "range" = none) (ha : FA X [a] fr) (hs : starEach [a] X.env = [(false, eval a X.env)] := by rfl) : FI true X tg (.Call (.Name "range" p) [a] [] pos) (fiArgs gRange1 fr) :=
  di_imp (i_range1 hg hm ha hs) (useI fun ds as xs μ Q h1 h2 q => by
    unfold gRange1 at h2
    split at h2
    · obtain ⟨h3, e⟩ := req_some h2; cases e; rw [allD1 h1]; exact ⟨h3, q⟩
    · cases h2)
theorem fi_enum {p tpos : Pos} {elts : List Expr} {kk : Nat} (hg : Gl X "enumerate") (hm : X.mg "enumerate" = none) (ha : FA X [e] fr) (hs : starEach [e] X.env = [(false, eval e X.env)] := by rfl) : FI false X (.Tuple elts kk tpos) (.Call (.Name "enumerate" p) [e] [] pos) (fiArgs gEnum fr) :=
  di_imp (i_enum hg hm ha hs) (useI fun ds as xs μ Q h1 h2 q => by
    unfold gEnum at h2
    split at h2
    · cases h2; rw [allD1 h1]; exact q
    · cases h2)
theorem walk_zipT {K : PySem.W.Frag} {μ : Mu} {H : Hp} {p r : Addr} {vs ws : List V} {ds es : List PyData} (s : SqT K (hid μ H) p vs) (t : DaAll K (hid μ H) vs ds) (s2 : SqT K (hid μ H) r ws) (t2 : DaAll K (hid μ H) ws es) : Walk false K μ H (RZ.ItzT K p r) (zipD ds es) := fun i μ' H' e m => by
  have s' : SqT K H' p vs := same_seqW unhid (same_seqW e s)
  have s2' : SqT K H' r ws := same_seqW unhid (same_seqW e s2)
  refine ⟨fun d hd => ?_, fun hd => ⟨vs, ws, s', s2', ?_⟩⟩
  · obtain ⟨x, y, hx, hy, rfl⟩ := zipD_get _ _ _ _ hd
    obtain ⟨v, h1, h2⟩ := t.get hx
    obtain ⟨u, h3, h4⟩ := t2.get hy
    refine ⟨⟨vs, ws, v, u, s', s2', h1, h3⟩, ?_⟩
    rintro z H2 ⟨T, x', y', rfl, hT, rfl, e2, e3⟩
    have e4 := e2 vs s'
    have e5 := e3 ws s2'
    rw [h1] at e4
    rw [h3] at e5
    cases e4
    cases e5
    refine ⟨ext_new hT, m.new hT, .inr ⟨T, [v, u], [x, y], rfl, rfl, .inl (.inl (hid_new m hT)), .cons ((h2.mono e).mono (ext_new hT)) (.cons ((h4.mono e).mono (ext_new hT)) .nil)⟩⟩
  · rw [t.length, t2.length]
    exact zipD_none _ _ _ hd
def dwZipA (ta : DTA) : DTI := fun δ μ Q => ta δ μ fun ds μ1 => ∃ as xs, allD ds = some as ∧ gZip as = some xs ∧ Q xs μ1
theorem i_zipA {tA : DTA} {p tpos : Pos} {elts : List Expr} {kk : Nat} (hg : Gl X "zip") (hm : X.mg "zip" = none) (ha : DA X [a, b] tA) (hs : starEach [a, b] X.env = (false, eval a X.env) :: starEach [b] X.env := by rfl) (hpl : (backTo pos (starEach [b] X.env)).any (·.1) = false := by rfl) :
    DI false X (.Tuple elts kk tpos) (.Call (.Name "zip" p) [a, b] [] pos) (dwZipA tA) :=
  pi_imp (RZ.pi_zipA hg hm ha hs hpl) fun σ H R ⟨δ, μ, Qd, rs, rm, q, w⟩ => upA_use rs rm q fun ds μ1 vs H1 e1 m1 r1 ⟨as, zs, h1, h2, q1⟩ => by
    unfold gZip at h2
    split at h2
    · next xs ys =>
      cases h2
      obtain rfl := allD2 h1
      cases r1 with
      | cons r t =>
        cases t with
        | cons r' t =>
          cases t
          cases (show Da X.K (hid μ1 H1) _ (.list xs) from r) with
          | @lst p vs _ s t =>
            cases (show Da X.K (hid μ1 H1) _ (.list ys) from r') with
            | @lst p' vs' _ s' t' => exact ⟨p, p', vs, vs', rfl, .inl ⟨unhid.seq s, unhid.seq s', w _ μ1 H1 _ e1 m1 (walk_zip s t s' t') q1⟩⟩
    · next xs ys =>
      cases h2
      obtain rfl := allD2 h1
      cases r1 with
      | cons r t =>
        cases t with
        | cons r' t =>
          cases t
          cases (show Da X.K (hid μ1 H1) _ (.tuple xs) from r) with
          | @tup p vs _ s t =>
            cases (show Da X.K (hid μ1 H1) _ (.tuple ys) from r') with
            | @tup p' vs' _ s' t' => exact ⟨p, p', vs, vs', rfl, .inr ⟨same_seqT unhid s, same_seqT unhid s', w _ μ1 H1 _ e1 m1 (walk_zipT s.t t s'.t t') q1⟩⟩
    · cases h2
theorem fi_zip {p tpos : Pos} {elts : List Expr} {kk : Nat} (hg : Gl X "zip") (hm : X.mg "zip" = none) (ha : FA X [a, b] fr) (hs : starEach [a, b] X.env = (false, eval a X.env) :: starEach [b] X.env := by rfl) (hpl : (backTo pos (starEach [b] X.env)).any (·.1) = false := by rfl) :
    FI false X (.Tuple elts kk tpos) (.Call (.Name "zip" p) [a, b] [] pos) (fiArgs gZip fr) :=
  di_imp (i_zipA hg hm ha hs hpl) (useI (r := fun ds μ1 Q => ∃ as xs, allD ds = some as ∧ gZip as = some xs ∧ Q xs μ1) fun ds as xs μ Q h1 h2 q => ⟨as, xs, h1, h2, q⟩)
def fsGo (gf : GF) (fB : FS) : List PyData → FS
  | [] => fsNext
  | d :: ds => fun ε => match gf d ε with
    | none => .no
    | some ε1 => (fB ε1).bind fun fl ε2 => match fl with
      | .nx => fsGo gf fB ds ε2
      | .ct => fsGo gf fB ds ε2
      | .bk => .ok .nx ε2
      | .rt r => .ok (.rt r) ε2
def fsFor (wi : FTI) (gf : GF) (fB : FS) : FS := fun ε => (wi ε).bind fun ds ε1 => fsGo gf fB ds ε1
theorem forGo_up (T : TGd gd gf) {D : DEnds} : ∀ (ds : List PyData) {δ : DSt} {μ : Mu} {ε : FSt}, Mt δ μ ε → fitS D δ μ ε (fsGo gf fB ds ε) → forGo gd (upFS fB) D ds δ μ
  | [], δ, μ, ε, m, h => h δ μ (.refl m)
  | d :: ds, δ, μ, ε, m, h => by
    unfold fsGo at h
    unfold forGo
    cases e : gf d ε with
    | none => simp only [e] at h; exact h.elim
    | some ε1 =>
      simp only [e] at h
      obtain ⟨δ1, t, hk⟩ := T.ok m e
      refine hk _ ⟨ε1, t.mt, ?_⟩
      cases e2 : fB ε1 with
      | no => rw [e2] at h; exact h.elim
      | ex _ _ => rw [e2] at h; exact h.elim
      | ok fl ε2 =>
        rw [e2] at h
        have h := fitS_step m t h
        cases fl with
        | nx => exact fun δ' μ' t2 => forGo_up T ds t2.mt (fitS_step t.mt t2 h)
        | ct => exact fun δ' μ' t2 => forGo_up T ds t2.mt (fitS_step t.mt t2 h)
        | bk => exact h
        | rt r => exact h
theorem fs_for {bb : Bool} (hp : PassesOwn (model X.prog X.w) X.A X.env X.xe) (hc : X.calm = true) (hi : FI bb X tg iter wi) (hg : DG bb X tg gd) (T : TGd gd gf) (hb : FSts X body fB) (hs : ∀ (x : Value), foldedSetIterable iter X.env x = pure x := by intro _; rfl) : FSt1 X (.For tg iter body [] pos) (fsFor wi gf fB) :=
  s_imp (s_for hp hc hi hg hb hs) fun D δ μ ⟨ε, m, h⟩ => by
    refine ⟨ε, m, ?_⟩
    unfold fsFor at h
    cases e : wi ε with
    | no => rw [e] at h; exact h.elim
    | ex _ _ => rw [e] at h; exact h.elim
    | ok ds ε1 =>
      rw [e] at h
      exact fun v μ1 t p => by subst p; exact forGo_up T v t.mt (fitS_step m t.tr h)
end
end FL

namespace FL
open PySem PySem.Spec PyProof.Rows L2 DL
def wipeF (ε : FSt) : List Nat → FSt
  | [] => ε
  | v :: vs => (wipeF ε vs).set v none
theorem wipeF_len (ε : FSt) : ∀ vs : List Nat, (wipeF ε vs).length = ε.length
  | [] => rfl
  | v :: vs => by unfold wipeF; rw [List.length_set, wipeF_len ε vs]
theorem wipeF_get (ε : FSt) : ∀ (vs : List Nat) (k : Nat), (wipeF ε vs)[k]? = if k ∈ vs ∧ k < ε.length then some none else ε[k]?
  | [], k => by simp [wipeF]
  | v :: vs, k => by
    unfold wipeF
    by_cases hk : v = k
    · subst hk
      by_cases hl : v < ε.length
      · rw [List.getElem?_set_self (by rw [wipeF_len]; exact hl), if_pos ⟨List.mem_cons_self, hl⟩]
      · rw [List.getElem?_eq_none (by rw [List.length_set, wipeF_len]; omega), if_neg (fun z => hl z.2), List.getElem?_eq_none (by omega)]
    · rw [List.getElem?_set_ne hk, wipeF_get ε vs k]
      have e : (k ∈ v :: vs ∧ k < ε.length) ↔ (k ∈ vs ∧ k < ε.length) := by
        simp only [List.mem_cons]
        exact ⟨fun z => ⟨z.1.resolve_left fun q => hk q.symm, z.2⟩, fun z => ⟨.inr z.1, z.2⟩⟩
      by_cases h : k ∈ vs ∧ k < ε.length
      · rw [if_pos h, if_pos (e.mpr h)]
      · rw [if_neg h, if_neg (fun z => h (e.mp z))]
theorem wipeF_out {ε : FSt} {vs : List Nat} {k : Nat} (h : k ∉ vs) : (wipeF ε vs)[k]? = ε[k]? := by rw [wipeF_get, if_neg (fun z => h z.1)]
theorem wipeD_get (δ : DSt) : ∀ (vs : List Nat) (k : Nat), (wipeD δ vs)[k]? = if k ∈ vs ∧ k < δ.length then some none else δ[k]?
  | [], k => by simp [wipeD]
  | v :: vs, k => by
    unfold wipeD
    by_cases hk : v = k
    · subst hk
      by_cases hl : v < δ.length
      · rw [List.getElem?_set_self (by rw [wipeD_length]; exact hl), if_pos ⟨List.mem_cons_self, hl⟩]
      · rw [List.getElem?_eq_none (by rw [List.length_set, wipeD_length]; omega), if_neg (fun z => hl z.2), List.getElem?_eq_none (by omega)]
    · rw [List.getElem?_set_ne hk, wipeD_get δ vs k]
      have e : (k ∈ v :: vs ∧ k < δ.length) ↔ (k ∈ vs ∧ k < δ.length) := by
        simp only [List.mem_cons]
        exact ⟨fun z => ⟨z.1.resolve_left fun q => hk q.symm, z.2⟩, fun z => ⟨.inr z.1, z.2⟩⟩
      by_cases h : k ∈ vs ∧ k < δ.length
      · rw [if_pos h, if_pos (e.mpr h)]
      · rw [if_neg h, if_neg (fun z => h (e.mp z))]
theorem wipeD_out {δ : DSt} {vs : List Nat} {k : Nat} (h : k ∉ vs) : (wipeD δ vs)[k]? = δ[k]? := by rw [wipeD_get, if_neg (fun z => h z.1)]
/-- their slots as they were -/
def restF (ε ε' : FSt) : List Nat → FSt
  | [] => ε'
  | v :: vs => match ε[v]? with
    | some x => (restF ε ε' vs).set v x
    | none => restF ε ε' vs
theorem restF_len (ε ε' : FSt) : ∀ vs : List Nat, (restF ε ε' vs).length = ε'.length
  | [] => rfl
  | v :: vs => by unfold restF; split <;> simp [restF_len ε ε' vs]
theorem restF_get {ε ε' : FSt} (hl : ε'.length = ε.length) : ∀ (vs : List Nat) (k : Nat), (restF ε ε' vs)[k]? = if k ∈ vs then ε[k]? else ε'[k]?
  | [], k => by simp [restF]
  | v :: vs, k => by
    unfold restF
    split
    · next x hx =>
      by_cases hk : v = k
      · subst hk
        rw [List.getElem?_set_self (by rw [restF_len, hl]; exact (List.getElem?_eq_some_iff.mp hx).1), if_pos List.mem_cons_self, hx]
      · rw [List.getElem?_set_ne hk, restF_get hl vs k]
        have : (k ∈ v :: vs) ↔ k ∈ vs := by simp [Ne.symm hk]
        by_cases h : k ∈ vs
        · rw [if_pos h, if_pos (this.mpr h)]
        · rw [if_neg h, if_neg (fun z => h (this.mp z))]
    · next hx =>
      rw [restF_get hl vs k]
      by_cases hk : v = k
      · subst hk
        rw [if_pos List.mem_cons_self]
        have := List.getElem?_eq_none_iff.mp hx
        split
        · rfl
        · rw [hx]; exact List.getElem?_eq_none (by omega)
      · have : (k ∈ v :: vs) ↔ k ∈ vs := by simp [Ne.symm hk]
        by_cases h : k ∈ vs
        · rw [if_pos h, if_pos (this.mpr h)]
        · rw [if_neg h, if_neg (fun z => h (this.mp z))]
theorem Mt.wipe {δ : DSt} {μ : Mu} {ε : FSt} (m : Mt δ μ ε) (vs : List Nat) : Mt (wipeD δ vs) μ (wipeF ε vs) := by
  have key : ∀ k, k ∈ vs → ∀ v, (wipeF ε vs)[k]? = some (some v) → False := fun k hk v h => by
    rw [wipeF_get] at h
    split at h
    · cases h
    · next hn =>
      have : ¬ k < ε.length := fun z => hn ⟨hk, z⟩
      rw [List.getElem?_eq_none (by omega)] at h; cases h
  have kc : ∀ k, k ∈ vs → ∀ c, getC (wipeF ε vs) k = some c → False := fun k hk c h => by
    rcases getC_some h with h | h <;> exact key k hk _ h
  have gc : ∀ k, k ∉ vs → getC (wipeF ε vs) k = getC ε k := fun k hk => by unfold getC; rw [wipeF_out hk]
  refine ⟨by rw [wipeD_length, wipeF_len]; exact m.len, fun i x h => ?_, fun i c h => ?_, fun i j p hi hj h1 h2 => ?_⟩
  · by_cases hv : i ∈ vs
    · exact (key i hv _ h).elim
    · rw [wipeD_out hv]; rw [wipeF_out hv] at h; exact m.dat i x h
  · by_cases hv : i ∈ vs
    · exact (kc i hv _ h).elim
    · rw [wipeD_out hv]; rw [gc i hv] at h; exact m.cel i c h
  · have ni : i ∉ vs := fun hv => by obtain ⟨c, h⟩ := isC_some hi; exact kc i hv c h
    have nj : j ∉ vs := fun hv => by obtain ⟨c, h⟩ := isC_some hj; exact kc j hv c h
    unfold isC at hi hj
    rw [gc i ni] at hi
    rw [gc j nj] at hj
    rw [wipeD_out ni] at h1
    rw [wipeD_out nj] at h2
    exact m.apart i j p hi hj h1 h2
/-- a target's turn: only own names are set, with data -/
structure Only (vs : List Nat) (δ δ2 : DSt) (ε ε1 : FSt) : Prop where
  ld : δ2.length = δ.length
  le : ε1.length = ε.length
  out : ∀ k, k ∉ vs → δ2[k]? = δ[k]? ∧ ε1[k]? = ε[k]?
  ins : ∀ k, k ∈ vs → ¬ isC ε1 k
structure TGc (vs : List Nat) (gd : DTG) (gf : GF) : Prop where
  ok : ∀ {d : PyData} {δ : DSt} {μ : Mu} {ε ε1 : FSt}, Mt δ μ ε → gf d (wipeF ε vs) = some ε1 → ∃ δ2, Mt δ2 μ ε1 ∧ Only vs δ δ2 ε ε1 ∧ ∀ K : DSt → Mu → Prop, K δ2 μ → gd (.d d) (wipeD δ vs) μ K
theorem only_wipe {δ : DSt} {μ : Mu} {ε : FSt} (m : Mt δ μ ε) (vs : List Nat) : Only vs δ (wipeD δ vs) ε (wipeF ε vs) :=
  ⟨wipeD_length δ vs, wipeF_len ε vs, fun k hk => ⟨wipeD_out hk, wipeF_out hk⟩, fun k hk h => by
    obtain ⟨c, h⟩ := isC_some h
    rcases getC_some h with h | h <;>
    · rw [wipeF_get] at h
      split at h
      · cases h
      · next hn =>
        have : ¬ k < ε.length := fun z => hn ⟨hk, z⟩
        rw [List.getElem?_eq_none (by omega)] at h; cases h⟩
theorem Only.set {vs : List Nat} {δ δ2 : DSt} {ε ε1 : FSt} (o : Only vs δ δ2 ε ε1) {i : Nat} (hi : i ∈ vs) {x : PyData} : Only vs δ (δ2.set i (some (.d x))) ε (ε1.set i (some (.d x))) :=
  ⟨by simp [o.ld], by simp [o.le], fun k hk => by
    have : i ≠ k := fun e => hk (e ▸ hi)
    rw [List.getElem?_set_ne this, List.getElem?_set_ne this]
    exact o.out k hk, fun k hk h => by
    by_cases e : i = k
    · subst e
      obtain ⟨c, h⟩ := isC_some h
      obtain ⟨a, _⟩ := getC_same h
      rcases a with a | a <;> cases a
    · unfold isC at h
      rw [getC_ne e] at h
      exact o.ins k hk h⟩
theorem tgc_name {vs : List Nat} {i : Nat} (h : i ∈ vs) : TGc vs (gdName i) (tgN i) := ⟨fun {d δ μ ε ε1} m e => by
  unfold tgN at e
  split at e
  · cases e
  · next hb =>
    cases e
    exact ⟨_, (Tr.setD (m.wipe vs) (x := d) (by simpa using hb)).mt, (only_wipe m vs).set h, fun K k => k⟩⟩
theorem setAllF_only {vs : List Nat} : ∀ {is : List Nat} {xs : List PyData} {δ δ2 : DSt} {ε ε1 ε2 : FSt}, (∀ i ∈ is, i ∈ vs) → Only vs δ δ2 ε ε1 → setAllF is xs ε1 = some ε2 → Only vs δ (setAll is xs δ2) ε ε2
  | [], [], _, _, _, _, _, _, o, h => by cases h; exact o
  | [], _ :: _, _, _, _, _, _, _, o, h => by cases h; exact o
  | _ :: _, [], _, _, _, _, _, _, o, h => by cases h; exact o
  | i :: is, x :: xs, _, _, _, _, _, hi, o, h => by
    unfold setAllF at h
    split at h
    · cases h
    · exact setAllF_only (is := is) (xs := xs) (fun j hj => hi j (List.mem_cons_of_mem _ hj)) (o.set (hi i List.mem_cons_self)) h
theorem tgc_tup {vs is : List Nat} (h : ∀ i ∈ is, i ∈ vs) : TGc vs (gdTup is) (tgT is) := ⟨fun {d δ μ ε ε1} m e => by
  unfold tgT at e
  split at e
  · next xs =>
    split at e
    · next hl => exact ⟨_, (setAllF_tr (m.wipe vs) e).mt, setAllF_only h (only_wipe m vs) e, fun K k => ⟨hl, k⟩⟩
    · cases e
  · cases e⟩
/-- behind a turn's parts -/
theorem Only.back {vs : List Nat} {δ δ2 : DSt} {μ μc μ4 : Mu} {ε εc ε1 ε3 : FSt} (t : TrE δ μ ε μc εc) (o : Only vs δ δ2 εc ε1) (t2 : TrE δ2 μc ε1 μ4 ε3) : TrE δ μ ε μ4 (restF εc ε3 vs) := by
  have hl3 : ε3.length = εc.length := t2.kd.len.trans o.le
  have out : ∀ k, k ∉ vs → (restF εc ε3 vs)[k]? = ε3[k]? := fun k hk => by rw [restF_get hl3, if_neg hk]
  have ins : ∀ k, k ∈ vs → (restF εc ε3 vs)[k]? = εc[k]? := fun k hk => by rw [restF_get hl3, if_pos hk]
  have kd : Kd εc (restF εc ε3 vs) := ⟨by rw [restF_len, hl3], fun k v h => by
    by_cases hk : k ∈ vs
    · exact ⟨v, by rw [ins k hk]; exact h, same1_refl v⟩
    · rw [out k hk]
      exact t2.kd.at' k v (by rw [(o.out k hk).2]; exact h)⟩
  have adr2 : ∀ p, Adr δ2 ε1 p → ∃ j, j ∉ vs ∧ isC εc j ∧ δ[j]? = some (some (.cell p)) := fun p ⟨j, h1, h2⟩ => by
    have hj : j ∉ vs := fun z => o.ins j z h1
    refine ⟨j, hj, ?_, by rw [← (o.out j hj).1]; exact h2⟩
    have : getC ε1 j = getC εc j := by unfold getC; rw [(o.out j hj).2]
    unfold isC at h1 ⊢
    rw [← this]; exact h1
  refine ⟨⟨by rw [restF_len, hl3]; exact t.mt.len, fun i x h => ?_, fun i c h => ?_, fun i j p hi hj h1 h2 => t.mt.apart i j p (kd.isC.mpr hi) (kd.isC.mpr hj) h1 h2⟩, fun b c h n => ?_, t.kd.trans kd⟩
  · by_cases hk : i ∈ vs
    · rw [ins i hk] at h; exact t.mt.dat i x h
    · rw [out i hk] at h
      rw [← (o.out i hk).1]
      exact t2.mt.dat i x h
  · by_cases hk : i ∈ vs
    · have h' : getC εc i = some c := by unfold getC at h ⊢; rw [ins i hk] at h; exact h
      obtain ⟨p, h1, h2⟩ := t.mt.cel i c h'
      refine ⟨p, h1, t2.fr p c h2 fun z => ?_⟩
      obtain ⟨j, a1, a2, a3⟩ := adr2 p z
      exact a1 (t.mt.apart i j p (isC_of h') a2 h1 a3 ▸ hk)
    · have h' : getC ε3 i = some c := by unfold getC at h ⊢; rw [out i hk] at h; exact h
      obtain ⟨p, h1, h2⟩ := t2.mt.cel i c h'
      exact ⟨p, by rw [← (o.out i hk).1]; exact h1, h2⟩
  · refine t2.fr b c (t.fr b c h n) fun z => n ?_
    obtain ⟨j, a1, a2, a3⟩ := adr2 b z
    exact t.kd.adr.mpr ⟨j, a2, a3⟩
theorem TrE.over {δ : DSt} {μ μ1 : Mu} {ε ε1 : FSt} (m : Mt δ μ ε) (t : TrE δ μ ε μ1 ε1) {p : Addr} {c : Cell} (hp : μ p = none) : TrE δ μ ε (put μ1 p c) ε1 := by
  refine ⟨⟨t.mt.len, t.mt.dat, fun i d h => ?_, t.mt.apart⟩, fun b d h n => ?_, t.kd⟩
  · obtain ⟨q, h1, h2⟩ := t.mt.cel i d h
    refine ⟨q, h1, ?_⟩
    rw [put_ne (fun z => ?_), h2]
    subst z
    obtain ⟨c2, hc⟩ := m.adr (t.kd.adr.mpr ⟨i, isC_of h, h1⟩)
    rw [hp] at hc; cases hc
  · rw [put_ne (fun z => by subst z; rw [hp] at h; cases h)]
    exact t.fr b d h n
section
variable {X : Cx} {pos : Pos} {tg iter a b c e elt : Expr} {fe fa fb : FT} {es ifs : List Expr} {fr : FTA} {wi : FTI} {body : List Stmt} {fB : FS} {gd : DTG} {gf : GF} {scope : Scope} {own : List (Str × Nat)} {g : TG} {vs : List Nat} {tt : FTT}
def fLcGo (gf : GF) (tt : FTT) (fe : FT) (vs : List Nat) : List PyData → List PyData → FSt → R (List PyData)
  | [], acc, ε => .ok acc ε
  | d :: ds, acc, ε => match gf d (wipeF ε vs) with
    | none => .no
    | some ε1 => (tt ε1).bind fun b ε2 => if b = true then (fe ε2).bind fun y ε3 => match y with
        | .val x => if acc.length < 1000000 then fLcGo gf tt fe vs ds (acc ++ [x]) (restF ε ε3 vs) else .no
        | _ => .no
      else fLcGo gf tt fe vs ds acc (restF ε ε2 vs)
def fLc (wi : FTI) (gf : GF) (tt : FTT) (fe : FT) (vs : List Nat) : FT := fun ε => (wi ε).bind fun ds ε1 => (fLcGo gf tt fe vs ds [] ε1).bind fun acc ε2 => .ok (.val (.list acc)) ε2
def fLcO (wi : FTI) (gf : GF) (tt : FTT) (fe : FT) (vs : List Nat) : FT := fun ε => (wi ε).bind fun ds ε1 => (fLcGo gf tt fe vs ds [] ε1).bind fun acc ε2 => .ok (.own (.lst acc)) ε2
def fYes : FTT := fun ε => .ok true ε
theorem lcGo_up (T : TGc vs gd gf) {δ : DSt} {μ : Mu} {ε : FSt} (m : Mt δ μ ε) {D : Addr} (hD : μ D = none) {fin : List PyData → Mu → Prop} : ∀ (ds acc : List PyData) {μc : Mu} {εc : FSt}, TrE δ μ ε μc εc → μc D = some (.lst acc) →
    (∃ acc' ε', fLcGo gf tt fe vs ds acc εc = .ok acc' ε' ∧ ∀ μ', TrE δ μ ε μ' ε' → μ' D = some (.lst acc') → fin acc' μ') → lcGo gd (upFT tt) (upF fe) (wipeD δ vs) D fin ds acc μc
  | [], acc, μc, εc, t, hd, ⟨acc', ε', e, h⟩ => by
    cases e
    exact h _ t hd
  | d :: ds, acc, μc, εc, t, hd, ⟨acc', ε', e, h⟩ => by
    unfold fLcGo at e
    unfold lcGo
    cases e1 : gf d (wipeF εc vs) with
    | none => simp only [e1] at e; cases e
    | some ε1 =>
      simp only [e1] at e
      obtain ⟨δ2, m2, o, hk⟩ := T.ok t.mt e1
      have nD : ¬ Adr δ2 ε1 D := fun ⟨j, h1, h2⟩ => by
        have hj : j ∉ vs := fun z => o.ins j z h1
        rw [(o.out j hj).1] at h2
        have : isC εc j := by
          have e : getC ε1 j = getC εc j := by unfold getC; rw [(o.out j hj).2]
          unfold isC at h1 ⊢
          rw [← e]; exact h1
        obtain ⟨c, hc⟩ := m.adr (t.kd.adr.mpr ⟨j, this, h2⟩)
        rw [hD] at hc; cases hc
      refine hk _ ⟨ε1, m2, ?_⟩
      cases e2 : tt ε1 with
      | no => rw [e2] at e; cases e
      | ex _ _ => rw [e2] at e; cases e
      | ok b ε2 =>
        rw [e2, R.bind_ok] at e
        intro b' μ3 t3 eb
        subst eb
        cases b' with
        | false =>
          rw [if_neg Bool.false_ne_true] at e ⊢
          exact ⟨t3.fr D _ hd nD, lcGo_up T m hD ds acc (o.back t t3) (t3.fr D _ hd nD) ⟨acc', ε', e, h⟩⟩
        | true =>
          rw [if_pos rfl] at e ⊢
          refine ⟨ε2, t3.mt, ?_⟩
          cases e4 : fe ε2 with
          | no => rw [e4] at e; cases e
          | ex _ _ => rw [e4] at e; cases e
          | ok y ε3 =>
            rw [e4, R.bind_ok] at e
            intro v μ4 t4 rf
            have t34 := t3.trans t4
            have h4 := t34.fr D _ hd nD
            cases y with
            | ref i => cases e
            | own c => cases e
            | val x =>
              cases (show v = .d x from rf)
              have e : (if acc.length < 1000000 then fLcGo gf tt fe vs ds (acc ++ [x]) (restF εc ε3 vs) else .no) = .ok acc' ε' := e
              split at e
              · next hl =>
                exact ⟨h4, hl, lcGo_up T m hD ds (acc ++ [x]) ((o.back t t34).over m hD) put_same ⟨acc', ε', e, h⟩⟩
              · cases e
theorem up_fLc (T : TGc vs gd gf) : ∀ δ μ Q, upF (fLc wi gf tt fe vs) δ μ Q → dLc (upFI wi) gd (upFT tt) (upF fe) vs δ μ Q := fun δ μ Q ⟨ε, m, h⟩ => by
  refine ⟨ε, m, ?_⟩
  unfold fLc at h
  cases e : wi ε with
  | no => rw [e] at h; exact h.elim
  | ex _ _ => rw [e] at h; exact h.elim
  | ok ds ε1 =>
    rw [e, R.bind_ok] at h
    intro v μ1 t p D hD
    subst p
    cases e2 : fLcGo gf tt fe vs v [] ε1 with
    | no => rw [e2] at h; exact h.elim
    | ex _ _ => rw [e2] at h; exact h.elim
    | ok acc ε2 =>
      rw [e2, R.bind_ok] at h
      have h0 : μ D = none := t.fresh m hD
      refine lcGo_up T m h0 v [] (t.over m h0) put_same ⟨acc, ε2, e2, fun μ' t' hd => ?_⟩
      exact h _ _ (t'.drop m h0) rfl
theorem up_fLcO (T : TGc vs gd gf) : ∀ δ μ Q, upF (fLcO wi gf tt fe vs) δ μ Q → dLcC (upFI wi) gd (upFT tt) (upF fe) vs δ μ Q := fun δ μ Q ⟨ε, m, h⟩ => by
  refine ⟨ε, m, ?_⟩
  unfold fLcO at h
  cases e : wi ε with
  | no => rw [e] at h; exact h.elim
  | ex _ _ => rw [e] at h; exact h.elim
  | ok ds ε1 =>
    rw [e, R.bind_ok] at h
    intro v μ1 t p D hD
    subst p
    cases e2 : fLcGo gf tt fe vs v [] ε1 with
    | no => rw [e2] at h; exact h.elim
    | ex _ _ => rw [e2] at h; exact h.elim
    | ok acc ε2 =>
      rw [e2, R.bind_ok] at h
      have h0 : μ D = none := t.fresh m hD
      refine lcGo_up T m h0 v [] (t.over m h0) put_same ⟨acc, ε2, e2, fun μ' t' hd => ?_⟩
      exact h _ _ t' ⟨D, rfl, hd, h0⟩
theorem ft_nil : DTs X [] (upFT fYes) := ⟨fun pins s σ H Q I ⟨δ, μ, Qd, rs, rm, ⟨ε, m, q⟩, w⟩ => (t_nil (X := X)).run pins s σ H Q I ⟨δ, μ, Qd, rs, rm, q true μ (.refl m) rfl, w⟩⟩
theorem ft_one {c : Expr} {t : FTT} (h : FC X c t) : DTs X [c] (upFT t) := t_one h
theorem f_lc {bb : Bool} (hc : X.calm = true) (hN : X.N.Nodup) (hi : FI bb X tg iter wi) (ok : BlkOk X.N X.env.scope scope own) (G : CompG bb X.K vs g gd) (T : TGc vs gd gf)
    (hg : ∀ (s : Shared) (H : Hp) (C : Addr) (cl : List (Str × Addr)) (fp : List Addr), PG (X.blk s H scope (compEnvC scope cl C X.env) fp) tg g)
    (ht : ∀ (s : Shared) (H : Hp) (C : Addr) (cl : List (Str × Addr)) (fp : List Addr), DTs (X.blk s H scope (compEnvC scope cl C X.env) fp) ifs (upFT tt))
    (he : ∀ (s : Shared) (H : Hp) (C : Addr) (cl : List (Str × Addr)) (fp : List Addr), FE (X.blk s H scope (compEnvC scope cl C X.env) fp) elt fe)
    (hv : own.map (·.2) = vs := by rfl) (hs : ∀ (x : Value), foldedSetIterable iter X.env x = pure x := by intro _; rfl) : FE X (.ListComp elt [⟨tg, iter, ifs, 0⟩] scope pos) (fLc wi gf tt fe vs) :=
  d_imp (d_lcV hc hN hi ok G hg ht he hv hs) (up_fLc T)
theorem f_lcO {bb : Bool} (hc : X.calm = true) (hN : X.N.Nodup) (hi : FI bb X tg iter wi) (ok : BlkOk X.N X.env.scope scope own) (G : CompG bb X.K vs g gd) (T : TGc vs gd gf)
    (hg : ∀ (s : Shared) (H : Hp) (C : Addr) (cl : List (Str × Addr)) (fp : List Addr), PG (X.blk s H scope (compEnvC scope cl C X.env) fp) tg g)
    (ht : ∀ (s : Shared) (H : Hp) (C : Addr) (cl : List (Str × Addr)) (fp : List Addr), DTs (X.blk s H scope (compEnvC scope cl C X.env) fp) ifs (upFT tt))
    (he : ∀ (s : Shared) (H : Hp) (C : Addr) (cl : List (Str × Addr)) (fp : List Addr), FE (X.blk s H scope (compEnvC scope cl C X.env) fp) elt fe)
    (hv : own.map (·.2) = vs := by rfl) (hs : ∀ (x : Value), foldedSetIterable iter X.env x = pure x := by intro _; rfl) : FE X (.ListComp elt [⟨tg, iter, ifs, 0⟩] scope pos) (fLcO wi gf tt fe vs) :=
  d_imp (d_lcCV hc hN hi ok G hg ht he hv hs) (up_fLcO T)
/-- y = [..], as data -/
theorem fs_setLc {bb : Bool} {i : Nat} {y : Str} {py spos : Pos} (hc : X.calm = true) (hN : X.N.Nodup) (hy : X.N[i]? = some y) (hyl : X.env.scope.names.lookup y = some .local) (hsw : swapsWith (.ListComp elt [⟨tg, iter, ifs, 0⟩] scope pos) (some (.Name y py)) spos.line X.env = pure true)
    (hi : FI bb X tg iter wi) (ok : BlkOk X.N X.env.scope scope own) (G : CompG bb X.K vs g gd) (T : TGc vs gd gf)
    (hg : ∀ (s : Shared) (H : Hp) (C : Addr) (cl : List (Str × Addr)) (fp : List Addr), PG (X.blk s H scope (compEnvC scope cl C X.env) fp) tg g)
    (ht : ∀ (s : Shared) (H : Hp) (C : Addr) (cl : List (Str × Addr)) (fp : List Addr), DTs (X.blk s H scope (compEnvC scope cl C X.env) fp) ifs (upFT tt))
    (he : ∀ (s : Shared) (H : Hp) (C : Addr) (cl : List (Str × Addr)) (fp : List Addr), FE (X.blk s H scope (compEnvC scope cl C X.env) fp) elt fe)
    (hv : own.map (·.2) = vs := by rfl) (hs : ∀ (x : Value), foldedSetIterable iter X.env x = pure x := by intro _; rfl) : FSt1 X (.Assign [.Name y py] (.ListComp elt [⟨tg, iter, ifs, 0⟩] scope pos) spos) (fsAsg i (fLc wi gf tt fe vs)) :=
  s_imp (s_setLcV hc hN hy hyl hsw hi ok G hg ht he hv hs) fun D δ μ ⟨ε, m, h⟩ => up_fLc T δ μ _ (useSE m h fun r ε1 v μ1 t p h1 => setR_fit m t p h1)
def fsWhN (tt : FTT) (fB : FS) : Nat → FS
  | 0 => fun _ => .no
  | n + 1 => fun ε => (tt ε).bind fun b ε1 => if b = true then (fB ε1).bind fun fl ε2 => match fl with
      | .nx => fsWhN tt fB n ε2
      | .ct => fsWhN tt fB n ε2
      | .bk => .ok .nx ε2
      | .rt r => .ok (.rt r) ε2
    else .ok .nx ε1
open Classical in
noncomputable def fsWhile (tt : FTT) (fB : FS) : FS := fun ε => if h : ∃ n, fsWhN tt fB n ε ≠ .no then fsWhN tt fB h.choose ε else .no
theorem bind_ne {α β : Type} {r : R α} {f : α → FSt → R β} (h : r.bind f ≠ .no) : (∃ a ε, r = .ok a ε ∧ f a ε ≠ .no) ∨ ∃ e ε, r = .ex e ε := by
  cases r with
  | no => exact (h rfl).elim
  | ok a ε => exact .inl ⟨a, ε, rfl, h⟩
  | ex e ε => exact .inr ⟨e, ε, rfl⟩
theorem fsWhN_up {tt : FTT} {fB : FS} : ∀ (n : Nat) (ε : FSt), fsWhN tt fB n ε ≠ .no → fsWhN tt fB (n + 1) ε = fsWhN tt fB n ε
  | 0, ε, h => (h rfl).elim
  | n + 1, ε, h => by
    unfold fsWhN at h
    rcases bind_ne h with ⟨b, ε1, e1, h1⟩ | ⟨x, ε1, e1⟩
    · rw [fsWhN, fsWhN.eq_def tt fB (n + 1)]
      simp only [e1, R.bind_ok]
      cases b with
      | false => rfl
      | true =>
        rw [if_pos rfl] at h1 ⊢
        rw [if_pos rfl]
        rcases bind_ne h1 with ⟨fl, ε2, e2, h2⟩ | ⟨x, ε2, e2⟩
        · simp only [e2, R.bind_ok]
          cases fl with
          | nx => exact fsWhN_up n ε2 h2
          | ct => exact fsWhN_up n ε2 h2
          | bk => rfl
          | rt r => rfl
        · simp only [e2, R.bind_ex]
    · rw [fsWhN, fsWhN.eq_def tt fB (n + 1)]
      simp only [e1, R.bind_ex]
theorem fsWhN_le {tt : FTT} {fB : FS} {n : Nat} {ε : FSt} (h : fsWhN tt fB n ε ≠ .no) : ∀ k, fsWhN tt fB (n + k) ε = fsWhN tt fB n ε
  | 0 => rfl
  | k + 1 => by
    have ih := fsWhN_le h k
    rw [← ih]
    exact fsWhN_up (n + k) ε (by rw [ih]; exact h)
theorem fsWhile_of {tt : FTT} {fB : FS} {n : Nat} {ε : FSt} (h : fsWhN tt fB n ε ≠ .no) : fsWhile tt fB ε = fsWhN tt fB n ε := by
  have ex : ∃ n, fsWhN tt fB n ε ≠ .no := ⟨n, h⟩
  unfold fsWhile
  rw [dif_pos ex]
  have h2 := ex.choose_spec
  rcases Nat.le_total n ex.choose with hl | hl
  · obtain ⟨k, hk⟩ := Nat.exists_eq_add_of_le hl
    rw [hk]; exact fsWhN_le h k
  · obtain ⟨k, hk⟩ := Nat.exists_eq_add_of_le hl
    have := fsWhN_le h2 k
    rw [← hk] at this
    exact this.symm
/-- one turn more -/
theorem fsWhile_turn {tt : FTT} {fB : FS} {ε : FSt} : fsWhile tt fB ε = (tt ε).bind fun b ε1 => if b = true then (fB ε1).bind fun fl ε2 => match fl with
      | .nx => fsWhile tt fB ε2
      | .ct => fsWhile tt fB ε2
      | .bk => .ok .nx ε2
      | .rt r => .ok (.rt r) ε2
    else .ok .nx ε1 := by
  by_cases ex : ∃ n, fsWhN tt fB n ε ≠ .no
  · obtain ⟨n, h⟩ := ex
    rw [fsWhile_of h]
    cases n with
    | zero => exact (h rfl).elim
    | succ n =>
      unfold fsWhN at h
      rw [fsWhN]
      rcases bind_ne h with ⟨b, ε1, e1, h1⟩ | ⟨x, ε1, e1⟩
      · simp only [e1, R.bind_ok]
        cases b with
        | false => rfl
        | true =>
          rw [if_pos rfl] at h1 ⊢
          rw [if_pos rfl]
          rcases bind_ne h1 with ⟨fl, ε2, e2, h2⟩ | ⟨x, ε2, e2⟩
          · simp only [e2, R.bind_ok]
            cases fl with
            | nx => exact (fsWhile_of h2).symm
            | ct => exact (fsWhile_of h2).symm
            | bk => rfl
            | rt r => rfl
          · simp only [e2, R.bind_ex]
      · simp only [e1, R.bind_ex]
  · have e0 : fsWhile tt fB ε = .no := by unfold fsWhile; rw [dif_neg ex]
    rw [e0]
    have no : ∀ n, fsWhN tt fB n ε = .no := fun n => Classical.byContradiction fun z => ex ⟨n, z⟩
    cases e1 : tt ε with
    | no => rfl
    | ex x ε1 => have := no 1; unfold fsWhN at this; rw [e1] at this; cases this
    | ok b ε1 =>
      cases b with
      | false => have := no 1; unfold fsWhN at this; rw [e1] at this; cases this
      | true =>
        rw [R.bind_ok, if_pos rfl]
        have key : ∀ n, ((fB ε1).bind fun fl ε2 => match fl with
          | .nx => fsWhN tt fB n ε2
          | .ct => fsWhN tt fB n ε2
          | .bk => .ok .nx ε2
          | .rt r => .ok (.rt r) ε2) = .no := fun n => by
          have := no (n + 1)
          unfold fsWhN at this
          rw [e1, R.bind_ok, if_pos rfl] at this
          exact this
        cases e2 : fB ε1 with
        | no => rfl
        | ex x ε2 => have := key 0; rw [e2] at this; cases this
        | ok fl ε2 =>
          rw [R.bind_ok]
          simp only [e2, R.bind_ok] at key
          cases fl with
          | nx => unfold fsWhile; rw [dif_neg (fun ⟨n, z⟩ => z (key n))]
          | ct => unfold fsWhile; rw [dif_neg (fun ⟨n, z⟩ => z (key n))]
          | bk => exact (key 0).symm
          | rt r => exact (key 0).symm
theorem fs_while (hp : PassesOwn (model X.prog X.w) X.A X.env X.xe) (hc : FC X c tt) (hb : FSts X body fB) : FSt1 X (.While c body [] pos) (fsWhile tt fB) :=
  ps_imp (ps_while hp hc hb) fun D σ H ⟨δ, μ, Dd, rs, rm, ⟨ε, m, h⟩, w⟩ => by
    have ex : ∃ n, fsWhN tt fB n ε ≠ .no := Classical.byContradiction fun z => by
      unfold fsWhile at h; rw [dif_neg z] at h; exact h
    obtain ⟨n, hn⟩ := ex
    rw [fsWhile_of hn] at h
    refine ⟨fun k σ' H' => ∃ δ' μ' ε', RS X.K μ' H' σ' δ' ∧ RM X.K μ' H' ∧ Mt δ' μ' ε' ∧ fitS Dd δ' μ' ε' (fsWhN tt fB k ε') ∧ EndsOk X.K μ' H' Dd D, ⟨n, δ, μ, ε, rs, rm, m, h, w⟩, ?_⟩
    rintro k σ' H' ⟨δ', μ', ε', rs', rm', m', h', w'⟩
    cases k with
    | zero => exact h'.elim
    | succ k =>
      unfold fsWhN at h'
      refine upT_use rs' rm' (useST (D := Dd) m' h' fun b ε1 μ1 t h1 => (?_ : (fun b μ1 => ∃ ε1, Mt δ' μ1 ε1 ∧ fitS Dd δ' μ1 ε1 (if b = true then (fB ε1).bind fun fl ε2 => match fl with
        | .nx => fsWhN tt fB k ε2
        | .ct => fsWhN tt fB k ε2
        | .bk => .ok .nx ε2
        | .rt r => .ok (.rt r) ε2
      else .ok .nx ε1)) b μ1)) fun b μ1 H1 e1 m1 ⟨ε1, mt1, h1⟩ => ?_
      · exact ⟨ε1, t.mt, fitS_step m' t.tr h1⟩
      · cases b with
        | false =>
          rw [if_neg Bool.false_ne_true] at h1 ⊢
          exact w'.nx δ' μ1 σ' H1 e1 m1 (rs'.mono e1) (h1 _ _ (.refl mt1))
        | true =>
          rw [if_pos rfl] at h1 ⊢
          refine ⟨fun σ2 H2 => ∃ δ2 μ2 ε2, RS X.K μ2 H2 σ2 δ2 ∧ RM X.K μ2 H2 ∧ Mt δ2 μ2 ε2 ∧ fitS Dd δ2 μ2 ε2 (fsWhN tt fB k ε2) ∧ EndsOk X.K μ2 H2 Dd D, fun σ2 H2 z => ⟨k, Nat.lt_succ_self k, z⟩, ?_⟩
          have w1 := w'.step e1
          refine ⟨δ', μ1, { Dd with nx := fun δ2 μ2 => ∃ ε2, Mt δ2 μ2 ε2 ∧ fitS Dd δ2 μ2 ε2 (fsWhN tt fB k ε2), ct := fun δ2 μ2 => ∃ ε2, Mt δ2 μ2 ε2 ∧ fitS Dd δ2 μ2 ε2 (fsWhN tt fB k ε2), bk := Dd.nx }, rs'.mono e1, m1, ⟨ε1, mt1, ?_⟩, ?_⟩
          · cases e2 : fB ε1 with
            | no => rw [e2] at h1; exact h1.elim
            | ex _ _ => rw [e2] at h1; exact h1.elim
            | ok fl ε2 =>
              rw [e2, R.bind_ok] at h1
              cases fl with
              | nx => exact fun δ2 μ2 t2 => ⟨ε2, t2.mt, fitS_step mt1 t2 h1⟩
              | ct => exact fun δ2 μ2 t2 => ⟨ε2, t2.mt, fitS_step mt1 t2 h1⟩
              | bk => exact h1
              | rt r => exact h1
          · exact ⟨fun δ2 μ2 σ2 H2 e2 m2 r2 ⟨ε2, mt2, q2⟩ => ⟨δ2, μ2, ε2, r2, m2, mt2, q2, w1.step e2⟩, w1.rt, w1.nx, fun δ2 μ2 σ2 H2 e2 m2 r2 ⟨ε2, mt2, q2⟩ => ⟨δ2, μ2, ε2, r2, m2, mt2, q2, w1.step e2⟩⟩
end
end FL

namespace FL
open PySem PySem.Spec PyProof.Rows L2 DL
/-- what a call tells: a result, and the borrowed containers then -/
inductive FO where
  | no
  | ok (r : FR) (bs : List Cell)
  | ex (e : Exc) (bs : List Cell)
abbrev Fn := List FV → FO
/-- the borrowed ones among the first slots -/
def bors : List FV → FSt → Option (List Cell)
  | [], _ => some []
  | .d _ :: vs, _ :: ε => bors vs ε
  | .b _ :: vs, some (.b c) :: ε => (bors vs ε).map (c :: ·)
  | _, _ => none
def fin (vs : List FV) : R Flow → FO
  | .ok (.rt (.val x)) ε => match bors vs ε with
    | some bs => .ok (.val x) bs
    | none => .no
  | .ok (.rt (.own c)) ε => match bors vs ε with
    | some bs => .ok (.own c) bs
    | none => .no
  | .ok (.rt (.ref i)) ε => match ε[i]?, bors vs ε with
    | some (some (.c c)), some bs => .ok (.own c) bs
    | _, _ => .no
  | .ok .nx ε => match bors vs ε with
    | some bs => .ok (.val .none) bs
    | none => .no
  | _ => .no
def startF (n : Nat) (vs : List FV) : FSt := vs.map some ++ List.replicate (n - vs.length) none
def runF (n : Nat) (f : FS) : Fn := fun vs => fin vs (f (startF n vs))
def Arg1 (μ : Mu) (d : DV) : FV → Prop
  | .d x => d = .d x
  | .b c => ∃ p, d = .cell p ∧ μ p = some c
  | .c _ => False
def Back (μ' : Mu) : List DV → List Cell → Prop
  | [], _ => True
  | .d _ :: ds, bs => Back μ' ds bs
  | .cell p :: ds, b :: bs => μ' p = some b ∧ Back μ' ds bs
  | .cell _ :: _, [] => False
def Apart (ds : List DV) : Prop := ∀ (i j : Nat) (p : Addr), ds[i]? = some (DV.cell p) → ds[j]? = some (DV.cell p) → i = j
def OutR (μ μ' : Mu) : FR → DV → Prop
  | .val x, v => v = DV.d x
  | .own c, v => ∃ p, v = DV.cell p ∧ μ' p = some c ∧ μ p = none
  | .ref _, _ => False
structure Out (μ : Mu) (ds : List DV) (bs : List Cell) (μ' : Mu) (r : FR) (v : DV) : Prop where
  fr : ∀ b c, μ b = some c → (∀ i : Nat, ds[i]? ≠ some (DV.cell b)) → μ' b = some c
  bk : Back μ' ds bs
  rs : OutR μ μ' r v
def spR (μ : Mu) (ds : List DV) (Q : DK) : FO → Prop
  | .ok r bs => ∀ v μ', Out μ ds bs μ' r v → Q v μ'
  | _ => False
def spF (F : Fn) (n : Nat) : DSp := fun ds μ Q => ds.length = n ∧ ∃ vs, PySem.Paired (fun d v => Arg1 μ d v) ds vs ∧ Apart ds ∧ spR μ ds Q (F vs)
theorem startF_get {n : Nat} {vs : List FV} {i : Nat} {x : FV} (h : (startF n vs)[i]? = some (some x)) : vs[i]? = some x := by
  unfold startF at h
  by_cases hi : i < vs.length
  · rw [List.getElem?_append_left (by simpa using hi), List.getElem?_map, Option.map_eq_some_iff] at h
    obtain ⟨a, h1, h2⟩ := h
    cases h2; exact h1
  · rw [List.getElem?_append_right (by simpa using hi), List.getElem?_replicate] at h
    split at h <;> cases h
theorem startF_of {n : Nat} {vs : List FV} {i : Nat} {x : FV} (h : vs[i]? = some x) : (startF n vs)[i]? = some (some x) := by
  have hi := (List.getElem?_eq_some_iff.mp h).1
  unfold startF
  rw [List.getElem?_append_left (by simpa using hi), List.getElem?_map, h]; rfl
theorem dstart_of {n : Nat} {ds : List DV} {i : Nat} {x : DV} (h : ds[i]? = some x) : (dstart n ds)[i]? = some (some x) := by
  have hi := (List.getElem?_eq_some_iff.mp h).1
  unfold dstart
  rw [List.getElem?_append_left (by simpa using hi), List.getElem?_map, h]; rfl
theorem dstart_get {n : Nat} {ds : List DV} {i : Nat} {x : DV} (h : (dstart n ds)[i]? = some (some x)) : ds[i]? = some x := by
  unfold dstart at h
  by_cases hi : i < ds.length
  · rw [List.getElem?_append_left (by simpa using hi), List.getElem?_map, Option.map_eq_some_iff] at h
    obtain ⟨a, h1, h2⟩ := h
    cases h2; exact h1
  · rw [List.getElem?_append_right (by simpa using hi), List.getElem?_replicate] at h
    split at h <;> cases h
theorem paired_get {μ : Mu} : ∀ {ds : List DV} {vs : List FV}, PySem.Paired (fun d v => Arg1 μ d v) ds vs → ∀ {i : Nat} {v : FV}, vs[i]? = some v → ∃ d, ds[i]? = some d ∧ Arg1 μ d v
  | _, _, .nil, i, v, h => by simp at h
  | _, _, .cons h t, 0, v, e => by simp at e; subst e; exact ⟨_, rfl, h⟩
  | _, _, .cons h t, i + 1, v, e => by
    obtain ⟨d, h1, h2⟩ := paired_get t (i := i) (by simpa using e)
    exact ⟨d, by simpa using h1, h2⟩
theorem Mt.start {μ : Mu} {n : Nat} {ds : List DV} {vs : List FV} (h : PySem.Paired (fun d v => Arg1 μ d v) ds vs) (ap : Apart ds) : Mt (dstart n ds) μ (startF n vs) := by
  have hl : ds.length = vs.length := Paired.length h
  refine ⟨by simp [dstart, startF, hl], fun i x e => ?_, fun i c e => ?_, fun i j p hi hj h1 h2 => ap i j p (dstart_get h1) (dstart_get h2)⟩
  · obtain ⟨d, h1, h2⟩ := paired_get h (startF_get e)
    cases (show d = .d x from h2)
    exact dstart_of h1
  · rcases getC_some e with e | e
    · obtain ⟨d, h1, h2⟩ := paired_get h (startF_get e)
      exact h2.elim
    · obtain ⟨d, h1, p, rfl, h3⟩ := paired_get h (startF_get e)
      exact ⟨p, dstart_of h1, h3⟩
theorem bors_ok {μ μ' : Mu} : ∀ {vs : List FV} {ds : List DV} {ε : FSt} {bs : List Cell}, PySem.Paired (fun d v => Arg1 μ d v) ds vs → (∀ (i : Nat) (c : Cell), vs[i]? = some (.b c) → ∃ c' p, ε[i]? = some (some (.b c')) ∧ ds[i]? = some (.cell p) ∧ μ' p = some c') → bors vs ε = some bs → Back μ' ds bs
  | [], [], _, _, _, _, h => by trivial
  | [], _ :: _, _, _, h, _, _ => by cases h
  | _ :: _, [], _, _, h, _, _ => by cases h
  | .d x :: vs, d :: ds, ε, bs, .cons a t, w, h => by
    cases ε with
    | nil => cases h
    | cons e ε =>
      cases (show d = .d x from a)
      show Back μ' ds bs
      exact bors_ok (vs := vs) t (fun i c hc => by simpa using w (i + 1) c (by simpa using hc)) h
  | .c x :: vs, d :: ds, ε, bs, .cons a t, w, h => a.elim
  | .b x :: vs, d :: ds, ε, bs, .cons a t, w, h => by
    obtain ⟨c', p, h1, h2, h3⟩ := w 0 x rfl
    cases ε with
    | nil => cases h1
    | cons e ε =>
      simp only [List.getElem?_cons_zero, Option.some.injEq] at h1 h2
      subst h1 h2
      simp only [bors, Option.map_eq_some_iff] at h
      obtain ⟨bs', h4, rfl⟩ := h
      exact ⟨h3, bors_ok (vs := vs) t (fun i c hc => by simpa using w (i + 1) c (by simpa using hc)) h4⟩
theorem run_up {f : FS} {n k : Nat} : ∀ ds μ Q, spF (runF n f) k ds μ Q → upFS f { nx := fun _ μ' => Q (.d .none) μ', rt := Q } (dstart n ds) μ := fun ds μ Q ⟨hk, vs, pr, ap, h⟩ => by
  have m : Mt (dstart n ds) μ (startF n vs) := Mt.start pr ap
  refine ⟨startF n vs, m, ?_⟩
  unfold runF at h
  have out : ∀ {δ' μ' ε' bs r v}, Tr (dstart n ds) μ (startF n vs) δ' μ' ε' → bors vs ε' = some bs → OutR μ μ' r v → Out μ ds bs μ' r v := fun {δ' μ' ε' bs r v} t hb hr => by
    refine ⟨fun b c hb hn => t.fr b c hb fun ⟨i, _, z⟩ => hn i (dstart_get z), bors_ok pr (fun i c hc => ?_) hb, hr⟩
    obtain ⟨⟨c', h1⟩, h2⟩ := t.bo i c (startF_of hc)
    obtain ⟨d, h3, p, rfl, h4⟩ := paired_get pr hc
    obtain ⟨q, h5, h6⟩ := t.mt.cel i c' (getC_b h1)
    rw [h2, dstart_of h3] at h5
    cases h5
    exact ⟨c', p, h1, h3, h6⟩
  have nown : ∀ p, ¬ OwnA (dstart n ds) (startF n vs) p := fun p ⟨i, c, h1, h2⟩ => by
    obtain ⟨d, _, h3⟩ := paired_get pr (startF_get h1)
    exact h3
  cases e : f (startF n vs) with
  | no => rw [e] at h; exact h.elim
  | ex _ _ => rw [e] at h; exact h.elim
  | ok fl ε' =>
    rw [e] at h
    cases fl with
    | bk => exact h.elim
    | ct => exact h.elim
    | nx =>
      unfold fin at h
      intro δ' μ' t
      cases eb : bors vs ε' with
      | none => simp only [eb] at h; exact h.elim
      | some bs =>
        simp only [eb] at h
        exact h _ _ (out t eb rfl)
    | rt r =>
      intro δ' μ' v t rr
      cases r with
      | val x =>
        unfold fin at h
        cases eb : bors vs ε' with
        | none => simp only [eb] at h; exact h.elim
        | some bs =>
          simp only [eb] at h
          exact h _ _ (out t eb rr)
      | own c =>
        unfold fin at h
        cases eb : bors vs ε' with
        | none => simp only [eb] at h; exact h.elim
        | some bs =>
          simp only [eb] at h
          obtain ⟨p, h1, h2, h3⟩ := rr
          exact h _ _ (out t eb ⟨p, h1, h2, h3.resolve_right (nown p)⟩)
      | ref i =>
        unfold fin at h
        cases eb : bors vs ε' with
        | none =>
          simp only [eb] at h
          split at h
          · next h1 => cases h1
          · exact h.elim
        | some bs =>
          simp only [eb] at h
          split at h
          · next c bs' h2 h3 =>
            cases h3
            obtain ⟨hc, p, h4, h5⟩ := rr
            obtain ⟨q, h6, h7⟩ := t.mt.cel i c (getC_c h2)
            rw [h5] at h6
            cases h6
            refine h _ _ (out t eb ⟨p, h4, h7, ?_⟩)
            exact (t.nw p ⟨i, c, h2, h5⟩).resolve_left (nown p)
          · exact h.elim
def refsOf : List FR → List Nat
  | [] => []
  | .ref i :: rs => i :: refsOf rs
  | _ :: rs => refsOf rs
def argVs (ε : FSt) : List FR → Option (List FV)
  | [] => some []
  | .val x :: rs => (argVs ε rs).map (.d x :: ·)
  | .ref i :: rs => (getC ε i).bind fun c => (argVs ε rs).map (.b c :: ·)
  | .own _ :: _ => none
def putBack : List FR → List Cell → FSt → Option FSt
  | [], _, ε => some ε
  | .val _ :: rs, bs, ε => putBack rs bs ε
  | .ref i :: rs, b :: bs, ε => putBack rs bs (setC ε i b)
  | _, _, _ => none
def callR (F : Fn) (rs : List FR) (ε : FSt) : R FR := if (refsOf rs).Nodup then match argVs ε rs with
    | some vs => match F vs with
      | .ok r bs => match r, putBack rs bs ε with
        | .val x, some ε2 => .ok (.val x) ε2
        | .own c, some ε2 => .ok (.own c) ε2
        | _, _ => .no
      | _ => .no
    | none => .no
  else .no
def fCall (F : Fn) (fr : FTA) : FT := fun ε => (fr ε).bind (callR F)
def putsM : List FR → List DV → List Cell → Mu → Mu
  | .ref _ :: rs, .cell p :: ds, b :: bs, μ => putsM rs ds bs (put μ p b)
  | .val _ :: rs, _ :: ds, bs, μ => putsM rs ds bs μ
  | _, _, _, μ => μ
section
variable {δ : DSt} {μ μ1 : Mu} {ε ε1 : FSt}
theorem call_tr {μ0 : Mu} {ε0 : FSt} : ∀ {rs : List FR} {ds : List DV} {bs : List Cell} {μa : Mu} {εa ε2 : FSt}, TrE δ μ ε μa εa → PySem.Paired (fun r v => RF δ μ ε0 μ0 r v) rs ds → Kd ε0 εa → putBack rs bs εa = some ε2 → TrE δ μ ε (putsM rs ds bs μa) ε2
  | [], _, bs, μa, εa, ε2, t, .nil, k, h => by
    unfold putBack at h; cases h; unfold putsM; exact t
  | .val x :: rs, _, bs, μa, εa, ε2, t, .cons a p, k, h => by
    unfold putBack at h; unfold putsM; exact call_tr t p k h
  | .own x :: rs, _, bs, μa, εa, ε2, t, .cons a p, k, h => by
    cases bs <;> (unfold putBack at h; cases h)
  | .ref i :: rs, _, [], μa, εa, ε2, t, .cons a p, k, h => by
    unfold putBack at h; cases h
  | .ref i :: rs, _, b :: bs, μa, εa, ε2, t, .cons (b := d) a p, k, h => by
    unfold putBack at h
    obtain ⟨hc, q, rfl, hq⟩ := a
    unfold putsM
    obtain ⟨c, hcc⟩ := isC_some (k.isC.mp hc)
    have t2 := t.write (c' := b) hcc hq
    refine call_tr t2 p (k.trans ?_) h
    have t3 := (TrE.refl t.mt).write (c' := b) hcc hq
    exact t3.kd
theorem putsM_out : ∀ {rs : List FR} {ds : List DV} {bs : List Cell} {μa : Mu} {b : Addr}, (∀ i : Nat, ds[i]? ≠ some (DV.cell b)) → putsM rs ds bs μa b = μa b
  | [], ds, bs, μa, b, h => by cases ds <;> (try cases bs) <;> rfl
  | .val x :: rs, [], bs, μa, b, h => rfl
  | .val x :: rs, d :: ds, bs, μa, b, h => by unfold putsM; exact putsM_out fun i => h (i + 1)
  | .own x :: rs, ds, bs, μa, b, h => by cases ds <;> rfl
  | .ref i :: rs, [], bs, μa, b, h => rfl
  | .ref i :: rs, .d x :: ds, bs, μa, b, h => rfl
  | .ref i :: rs, .cell p :: ds, [], μa, b, h => rfl
  | .ref i :: rs, .cell p :: ds, c :: bs, μa, b, h => by
    unfold putsM
    rw [putsM_out fun i => h (i + 1)]
    exact put_ne fun e => h 0 (by rw [e]; rfl)
theorem putsM_in {μ' : Mu} : ∀ {rs : List FR} {ds : List DV} {bs : List Cell} {μa : Mu} {j : Nat} {b : Addr}, PySem.Paired (fun r v => match r with | .val x => v = .d x | .ref _ => ∃ p, v = .cell p | .own _ => False) rs ds → Apart ds → Back μ' ds bs → ds[j]? = some (.cell b) → putsM rs ds bs μa b = μ' b
  | [], _, _, _, j, b, .nil, ap, bk, h => by simp at h
  | .own x :: rs, _, _, _, j, b, .cons a p, ap, bk, h => a.elim
  | .val x :: rs, _, bs, _, j, b, .cons (b := d) a p, ap, bk, h => by
    cases (show d = .d x from a)
    unfold putsM
    cases j with
    | zero => simp at h
    | succ j => exact putsM_in p (fun i k q h1 h2 => by have := ap (i + 1) (k + 1) q h1 h2; omega) bk h
  | .ref i :: rs, _, bs, _, j, b, .cons (b := d) a p, ap, bk, h => by
    obtain ⟨q, rfl⟩ := a
    cases bs with
    | nil => exact bk.elim
    | cons c bs =>
      unfold putsM
      have ap' : Apart _ := fun i k q h1 h2 => by have := ap (i + 1) (k + 1) q h1 h2; omega
      cases j with
      | zero =>
        simp only [List.getElem?_cons_zero, Option.some.injEq, DV.cell.injEq] at h
        subst h
        rw [putsM_out fun i hi => by have := ap 0 (i + 1) q rfl hi; omega, put_same]
        exact bk.1.symm
      | succ j => exact putsM_in p ap' bk.2 h
theorem TrE.swap {μ' : Mu} (t : TrE δ μ ε μ1 ε1) (h1 : ∀ p, Adr δ ε1 p → μ' p = μ1 p) (h2 : ∀ b c, μ b = some c → ¬ Adr δ ε b → μ' b = some c) : TrE δ μ ε μ' ε1 :=
  ⟨⟨t.mt.len, t.mt.dat, fun i c h => by
    obtain ⟨p, h3, h4⟩ := t.mt.cel i c h
    exact ⟨p, h3, by rw [h1 p ⟨i, isC_of h, h3⟩]; exact h4⟩, t.mt.apart⟩, h2, t.kd⟩
theorem argVs_paired : ∀ {rs : List FR} {ds : List DV} {vs : List FV}, Mt δ μ1 ε1 → PySem.Paired (fun r v => RF δ μ ε1 μ1 r v) rs ds → argVs ε1 rs = some vs → PySem.Paired (fun d v => Arg1 μ1 d v) ds vs
  | [], _, _, m, .nil, h => by cases h; exact .nil
  | .own c :: rs, _, _, m, .cons a p, h => by cases h
  | .val x :: rs, _, _, m, .cons a p, h => by
    simp only [argVs, Option.map_eq_some_iff] at h
    obtain ⟨vs, h1, rfl⟩ := h
    exact .cons a (argVs_paired m p h1)
  | .ref i :: rs, _, _, m, .cons a p, h => by
    simp only [argVs, Option.bind_eq_some_iff, Option.map_eq_some_iff] at h
    obtain ⟨c, h0, vs, h1, rfl⟩ := h
    obtain ⟨hc, q, rfl, hq⟩ := a
    obtain ⟨q', h3, h4⟩ := m.cel i c h0
    rw [hq] at h3; cases h3
    exact .cons ⟨q, rfl, h4⟩ (argVs_paired m p h1)
theorem refs_mem : ∀ {rs : List FR} {j i : Nat}, rs[j]? = some (.ref i) → i ∈ refsOf rs
  | [], j, i, h => by simp at h
  | r :: rs, 0, i, h => by simp at h; subst h; simp [refsOf]
  | r :: rs, j + 1, i, h => by
    have := refs_mem (rs := rs) (j := j) (by simpa using h)
    cases r <;> simp [refsOf, this]
theorem refs_nodup : ∀ {rs : List FR} {j k i : Nat}, (refsOf rs).Nodup → rs[j]? = some (.ref i) → rs[k]? = some (.ref i) → j = k
  | [], j, k, i, n, h, g => by simp at h
  | r :: rs, 0, 0, i, n, h, g => rfl
  | r :: rs, 0, k + 1, i, n, h, g => by
    simp at h; subst h
    have := refs_mem (rs := rs) (j := k) (by simpa using g)
    simp [refsOf] at n
    exact (n.1 this).elim
  | r :: rs, j + 1, 0, i, n, h, g => by
    simp at g; subst g
    have := refs_mem (rs := rs) (j := j) (by simpa using h)
    simp [refsOf] at n
    exact (n.1 this).elim
  | r :: rs, j + 1, k + 1, i, n, h, g => by
    have n' : (refsOf rs).Nodup := by cases r <;> simp [refsOf] at n <;> first | exact n | exact n.2
    have := refs_nodup (rs := rs) (j := j) (k := k) n' (by simpa using h) (by simpa using g)
    omega
theorem paired_at {α β : Type} {F : α → β → Prop} : ∀ {l : List α} {r : List β}, PySem.Paired F l r → ∀ {i : Nat} {b : β}, r[i]? = some b → ∃ a, l[i]? = some a ∧ F a b
  | _, _, .nil, i, v, h => by simp at h
  | _, _, .cons h t, 0, v, e => by simp at e; subst e; exact ⟨_, rfl, h⟩
  | _, _, .cons h t, i + 1, v, e => by
    obtain ⟨d, h1, h2⟩ := paired_at t (i := i) (by simpa using e)
    exact ⟨d, by simpa using h1, h2⟩
theorem noown : ∀ {rs : List FR} {ds : List DV} {vs : List FV}, argVs ε1 rs = some vs → PySem.Paired (fun r v => RF δ μ ε1 μ1 r v) rs ds → PySem.Paired (fun r v => match r with | .val x => v = .d x | .ref _ => ∃ p, v = .cell p | .own _ => False) rs ds
  | [], _, _, h, .nil => .nil
  | .own c :: rs, _, _, h, .cons a p => by cases h
  | .val x :: rs, _, _, h, .cons a p => by
    simp only [argVs, Option.map_eq_some_iff] at h
    obtain ⟨vs, h1, rfl⟩ := h
    exact .cons a (noown h1 p)
  | .ref i :: rs, _, _, h, .cons a p => by
    simp only [argVs, Option.bind_eq_some_iff, Option.map_eq_some_iff] at h
    obtain ⟨c, h0, vs, h1, rfl⟩ := h
    obtain ⟨hc, q, rfl, hq⟩ := a
    exact .cons ⟨q, rfl⟩ (noown h1 p)
theorem call_core {F : Fn} {n : Nat} {rs : List FR} {ds : List DV} {Q : DV → Mu → Prop} (m : Mt δ μ ε) (t : TrE δ μ ε μ1 ε1) (rf : PySem.Paired (fun r v => RF δ μ ε1 μ1 r v) rs ds) (hn : rs.length = n) (h : fit (fun r v μ' ε' => RF δ μ ε' μ' r v) δ μ ε Q (callR F rs ε1)) : spF F n ds μ1 Q := by
  unfold callR at h
  split at h
  · next nd =>
    split at h
    · next vs ha =>
      have pr := argVs_paired t.mt rf ha
      have ap : Apart ds := fun i j p h1 h2 => by
        obtain ⟨r1, e1, f1⟩ := paired_at (noown ha rf) h1
        obtain ⟨r2, e2, f2⟩ := paired_at (noown ha rf) h2
        cases r1 with
        | val x => cases (show DV.cell p = .d x from f1)
        | own c => exact f1.elim
        | ref a =>
          cases r2 with
          | val x => cases (show DV.cell p = .d x from f2)
          | own c => exact f2.elim
          | ref b =>
            obtain ⟨r1', e1', g1⟩ := paired_at rf h1
            obtain ⟨r2', e2', g2⟩ := paired_at rf h2
            rw [e1] at e1'; cases e1'
            rw [e2] at e2'; cases e2'
            obtain ⟨c1, q1, k1, l1⟩ := g1
            obtain ⟨c2, q2, k2, l2⟩ := g2
            cases k1; cases k2
            have := t.mt.apart a b p c1 c2 l1 l2
            subst this
            exact refs_nodup nd e1 e2
      refine ⟨by rw [← Paired.length rf]; exact hn, vs, pr, ap, ?_⟩
      split at h
      · next r bs hF =>
        rw [hF]
        intro v μ' o
        have core : ∀ ε2, putBack rs bs ε1 = some ε2 → TrE δ μ ε μ' ε2 := fun ε2 h2 => by
          have t2 := call_tr t rf (.refl ε1) h2
          refine t2.swap (fun p hp => ?_) fun b c hb hn => ?_
          · by_cases hx : ∃ i : Nat, ds[i]? = some (DV.cell p)
            · obtain ⟨i, hi⟩ := hx
              exact (putsM_in (noown ha rf) ap o.bk hi).symm
            · have hx : ∀ i : Nat, ds[i]? ≠ some (DV.cell p) := fun i hi => hx ⟨i, hi⟩
              rw [putsM_out hx]
              obtain ⟨c, hc⟩ := t.mt.adr (p := p) (t.kd.adr.mp (t2.kd.adr.mpr hp))
              rw [hc]
              exact o.fr p c hc hx
          · refine o.fr b c (t.fr b c hb hn) fun i hi => hn ?_
            obtain ⟨r1, e1, f1⟩ := paired_at rf hi
            cases r1 with
            | val x => cases (show DV.cell b = .d x from f1)
            | own c =>
              obtain ⟨_, _, g⟩ := paired_at (noown ha rf) hi
              obtain ⟨r2, e2, f2⟩ := paired_at (noown ha rf) hi
              rw [e1] at e2; cases e2
              exact f2.elim
            | ref a =>
              obtain ⟨c1, q1, k1, l1⟩ := f1
              cases k1
              exact t.kd.adr.mpr ⟨a, c1, l1⟩
        have old : ∀ p, μ1 p = none → μ p = none := fun p hp => t.fresh m hp
        split at h
        · next x ε2 h2 => exact h _ _ (core ε2 h2) o.rs
        · next c ε2 h2 =>
          obtain ⟨p, k1, k2, k3⟩ := o.rs
          exact h _ _ (core ε2 h2) ⟨p, k1, k2, old p k3⟩
        · exact h.elim
      · exact h.elim
    · exact h.elim
  · exact h.elim
end
section
variable {X : Cx} {k n : Nat} {ps : List Str} {F : Fn} {x : Str} {p pos : Pos} {e : Expr} {es : List Expr} {fr : FTA} {st : Stmt}
/-- the length of the arguments told -/
structure ALen (fr : FTA) (n : Nat) : Prop where
  len : ∀ ε rs ε', fr ε = .ok rs ε' → rs.length = n
theorem alen_nil : ALen faNil 0 := ⟨fun ε rs ε' h => by cases h; rfl⟩
theorem alen_cons {fa : FT} {fr : FTA} {n : Nat} (h : ALen fr n) : ALen (faCons fa fr) (n + 1) := ⟨fun ε rs ε' e => by
  unfold faCons at e
  cases e1 : fa ε with
  | no => rw [e1] at e; cases e
  | ex _ _ => rw [e1] at e; cases e
  | ok a ε1 =>
    rw [e1, R.bind_ok] at e
    cases e2 : fr ε1 with
    | no => rw [e2] at e; cases e
    | ex _ _ => rw [e2] at e; cases e
    | ok as ε2 =>
      rw [e2, R.bind_ok] at e
      cases e
      rw [List.length_cons, h.len _ _ _ e2]⟩
theorem up_fCall (hn : ALen fr n) : ∀ δ μ Q, upF (fCall F fr) δ μ Q → dCallF (spF F n) (upFA fr) δ μ Q := fun δ μ Q ⟨ε, m, h⟩ => useA m h fun rs ε1 vs μ1 e t rf h1 => call_core m t rf (hn.len _ _ _ e) h1
theorem f_call (C : Cal X.prog X.w X.K X.mg X.base k x st ps (spF F n)) (hr : RoomG k X.A) (hg : Gl X x) (hb : ∀ f fd, Fun X.K x x st f fd → Binds X.K fd ps []) (ha : FA X (e :: es) fr) (hn : ALen fr n)
    (hdb : (x == ("__debug__" : Str)) = false := by decide) (he : starEach (e :: es) X.env = (false, eval e X.env) :: starEach es X.env := by rfl) (hpl : (backTo pos (starEach es X.env)).any (·.1) = false := by rfl) :
    FE X (.Call (.Name x p) (e :: es) [] pos) (fCall F fr) := d_imp (d_callC C hr hg hb ha hdb he hpl) (up_fCall hn)
theorem Cal.ofF {P : Program} {w : World} {K : PySem.W.Frag} {mg : Str → Option Value} {base : Heap} {N : List Str} {f : FS} (D : DefM K mg x st) (S : FnScope N ps (defScope st)) (hl : ps.length = n)
    (der : ∀ (g : Addr) (cdv : Value) (A : Around) (outer : List Env) (s : Shared) (H : Hp), RoomG k (A.deeper (envOfC x (defScope st) s.heap.objs.size g cdv)) → FSts (cxD P w K mg base N x (defScope st) g cdv A outer s H) (defBody st) f) : Cal P w K mg base (k + 1) x st ps (spF (runF N.length f) n) :=
  Cal.of D S (fun ds μ Q h => h.1.trans hl.symm) der fun ds μ Q h => run_up ds μ Q h
abbrev FKw (X : Cx) (kws : List Keyword) (f : FTA) : Prop := DKw X kws (upFA f)
theorem dk_imp {kws : List Keyword} {t t' : DTA} (h : DKw X kws t) (w : ∀ δ μ Q, t' δ μ Q → t δ μ Q) : DKw X kws t' := pk_imp h fun σ H Q ⟨δ, μ, Qd, rs, rm, q, z⟩ => ⟨δ, μ, Qd, rs, rm, w _ _ _ q, z⟩
theorem fk_nil : FKw X [] faNil := dk_imp k_nil fun δ μ Q ⟨ε, m, h⟩ => h _ _ (.refl m) .nil
variable {nm : Option Str} {kpos : Pos} {kws : List Keyword} {fe : FT}
theorem fk_cons (ha : FE X e fe) (hr : FKw X kws fr) : FKw X (⟨nm, e, kpos⟩ :: kws) (faCons fe fr) := dk_imp (k_cons ha hr) up_faCons
def fCallK (F : Fn) (g : {α : Type} → List α → List α) (fr : FTA) : FT := fun ε => (fr ε).bind fun rs ε1 => callR F (g rs) ε1
/-- a reordering of keywords -/
structure Perm (g : {α : Type} → List α → List α) (n : Nat) : Prop where
  len : ∀ {α : Type} (l : List α), l.length = n → (g l).length = n
  rel : ∀ {α β : Type} {R : α → β → Prop} {l : List α} {r : List β}, l.length = n → PySem.Paired R l r → PySem.Paired R (g l) (g r)
theorem f_callK {ks : List Str} {g : {α : Type} → List α → List α} (C : Cal X.prog X.w X.K X.mg X.base k x st ps (spF F n)) (hr : RoomG k X.A) (hg : Gl X x) (hb : ∀ f fd, Fun X.K x x st f fd → KB X.K fd ps ks g) (P : Perm g n) (ha : FKw X kws fr) (hn : ALen fr n) (hks : ks.length = n := by rfl)
    (hall : (backToKw pos (keywordEach kws X.env)).all (·.1.isSome) = true := by rfl) (hkn : (backToKw pos (keywordEach kws X.env)).filterMap (·.1) = ks := by rfl) (hdb : (x == ("__debug__" : Str)) = false := by decide)
    (hpl : ((backTo pos (starEach [] X.env)).any (·.1) || (backToKw pos (keywordEach kws X.env)).any (·.1.isNone)) = false := by rfl) :
    FE X (.Call (.Name x p) [] kws pos) (fCallK F g fr) := d_imp (d_callCK C hr hg hb ha hall hkn hdb hpl) fun δ μ Q ⟨ε, m, h⟩ => useA m h fun rs ε1 vs μ1 e t rf h1 => by
  have hl := hn.len _ _ _ e
  exact ⟨by rw [← Paired.length rf, hl, hks], call_core m t (P.rel hl rf) (P.len rs hl) h1⟩
end
def Law (F : Fn) : Prop := ∀ ns : List Int, ns.length ≤ 63 → (∀ z ∈ ns, Builtin.Int.intBits z ≤ 1048576) → F [.d (.list (ns.map .int))] = .ok (.val (.bool true)) []
theorem law_sp {F : Fn} (h : Law F) : ∀ ns : List Int, ns.length ≤ 63 → (∀ z ∈ ns, Builtin.Int.intBits z ≤ 1048576) → spF F 1 [.d (.list (ns.map .int))] (fun _ => none) (fun d _ => d = .d (.bool true)) := fun ns h1 h2 =>
  ⟨rfl, [.d (.list (ns.map .int))], .cons rfl .nil, fun i j p e _ => by
    cases i with
    | zero => simp at e
    | succ i => simp at e, by rw [h ns h1 h2]; exact fun v μ' o => o.rs⟩
end FL

namespace FL
open PySem PySem.Spec PyProof.Rows L2 DL
inductive PD (K : PySem.W.Frag) (H : Hp) : List (Key × V) → List (Key × PyData) → Prop
  | nil : PD K H [] []
  | cons {k : Key} {v : V} {d : PyData} {ks : List (Key × V)} {kvs : List (Key × PyData)} : Da K H v d → PD K H ks kvs → PD K H ((k, v) :: ks) ((k, d) :: kvs)
abbrev KVs := List (Key × PyData)
def valD (kvs : KVs) (k : Key) : Option PyData := (kvs.find? fun kv => decide (kv.1 = k)).map (·.2)
def putD (kvs : KVs) (k : Key) (d : PyData) : KVs := if (kvs.any fun kv => decide (kv.1 = k)) = true then kvs.map (fun kv => if kv.1 = k then (kv.1, d) else kv) else kvs ++ [(k, d)]
def mergeD (kvs more : KVs) : KVs := more.foldl (fun acc kv => putD acc kv.1 kv.2) kvs
def keyOf : PyData → Option Key
  | .int i => some (.inl i)
  | .str x => some (.inr x)
  | _ => none
def kvsL : List (PyData × PyData) → Option KVs
  | [] => some []
  | (k, v) :: r => (keyOf k).bind fun k => (kvsL r).map ((k, v) :: ·)
def kvsOf : PyData → Option KVs
  | .dict ps => kvsL ps
  | _ => none
theorem keyOf_kD (k : Key) : keyOf (kD k) = some k := by cases k <;> rfl
theorem kvsL_map : ∀ (kvs : KVs), kvsL (kvs.map fun p => (kD p.1, p.2)) = some kvs
  | [] => rfl
  | (k, v) :: r => by simp only [List.map_cons, kvsL, keyOf_kD, Option.bind_some, kvsL_map r, Option.map_some]
theorem kvsOf_cell (kvs : KVs) : kvsOf (cellD (.dct kvs)) = some kvs := kvsL_map kvs
section
variable {K : PySem.W.Frag} {H : Hp}
theorem pd_of : ∀ {ks : List (Key × V)} {kvs : KVs}, ks.map (·.1) = kvs.map (·.1) → DaAll K H (ks.map (·.2)) (kvs.map (·.2)) → PD K H ks kvs
  | [], [], _, _ => .nil
  | [], _ :: _, e, _ => by cases e
  | _ :: _, [], e, _ => by cases e
  | (k, v) :: ks, (k', d) :: kvs, e, h => by
    simp only [List.map_cons, List.cons.injEq] at e h
    obtain ⟨e1, e2⟩ := e
    subst e1
    cases h with
    | cons a t => exact .cons a (pd_of e2 t)
theorem PD.keys : ∀ {ks : List (Key × V)} {kvs : KVs}, PD K H ks kvs → ks.map (·.1) = kvs.map (·.1)
  | _, _, .nil => rfl
  | _, _, .cons _ t => by rw [List.map_cons, List.map_cons, t.keys]
theorem PD.das : ∀ {ks : List (Key × V)} {kvs : KVs}, PD K H ks kvs → DaAll K H (ks.map (·.2)) (kvs.map (·.2))
  | _, _, .nil => .nil
  | _, _, .cons a t => .cons a t.das
theorem PD.len : ∀ {ks : List (Key × V)} {kvs : KVs}, PD K H ks kvs → ks.length = kvs.length
  | _, _, .nil => rfl
  | _, _, .cons _ t => by rw [List.length_cons, List.length_cons, t.len]
theorem PD.mono {H' : Hp} (e : Sm H H') : ∀ {ks : List (Key × V)} {kvs : KVs}, PD K H ks kvs → PD K H' ks kvs
  | _, _, .nil => .nil
  | _, _, .cons a t => .cons (a.mono e) (t.mono e)
theorem PD.val (k : Key) : ∀ {ks : List (Key × V)} {kvs : KVs}, PD K H ks kvs → (valV ks k = none ∧ valD kvs k = none) ∨ ∃ v d, valV ks k = some v ∧ valD kvs k = some d ∧ Da K H v d
  | _, _, .nil => .inl ⟨rfl, rfl⟩
  | _, _, .cons (k := k') (v := v) (d := d) a t => by
    by_cases e : k' = k
    · subst e
      exact .inr ⟨v, d, by simp [valV], by simp [valD], a⟩
    · rcases t.val k with ⟨h1, h2⟩ | ⟨v', d', h1, h2, h3⟩
      · exact .inl ⟨by rw [valV_neg (p := (k', v)) e]; exact h1, by unfold valD at h2 ⊢; rw [List.find?_cons, decide_eq_false e]; exact h2⟩
      · exact .inr ⟨v', d', by rw [valV_neg (p := (k', v)) e]; exact h1, by unfold valD at h2 ⊢; rw [List.find?_cons, decide_eq_false e]; exact h2, h3⟩
theorem PD.anyk (k : Key) : ∀ {ks : List (Key × V)} {kvs : KVs}, PD K H ks kvs → (ks.any fun kv => decide (kv.1 = k)) = kvs.any fun kv => decide (kv.1 = k)
  | _, _, .nil => rfl
  | _, _, .cons _ t => by rw [List.any_cons, List.any_cons, t.anyk k]
theorem PD.mapk {k : Key} {v : V} {d : PyData} (h : Da K H v d) : ∀ {ks : List (Key × V)} {kvs : KVs}, PD K H ks kvs → PD K H (ks.map fun kv => if kv.1 = k then (kv.1, v) else kv) (kvs.map fun kv => if kv.1 = k then (kv.1, d) else kv)
  | _, _, .nil => .nil
  | _, _, .cons (k := k') a t => by
    rw [List.map_cons, List.map_cons]
    by_cases e : k' = k
    · simp only [e, if_true]; exact .cons h (by simpa using t.mapk h)
    · simp only [e, if_false]; exact .cons a (by simpa using t.mapk h)
theorem PD.app : ∀ {ks ls : List (Key × V)} {kvs lvs : KVs}, PD K H ks kvs → PD K H ls lvs → PD K H (ks ++ ls) (kvs ++ lvs)
  | _, _, _, _, .nil, h => h
  | _, _, _, _, .cons a t, h => .cons a (t.app h)
theorem PD.put {ks : List (Key × V)} {kvs : KVs} (p : PD K H ks kvs) {k : Key} {v : V} {d : PyData} (h : Da K H v d) : PD K H (putK ks k v) (putD kvs k d) := by
  unfold putK putD
  rw [p.anyk k]
  split
  · exact p.mapk h
  · exact p.app (.cons h .nil)
theorem kvsL_zip : ∀ {ks : List (Key × V)} {ds : List PyData} {kvs : KVs}, DaAll K H (ks.map (·.2)) ds → kvsL ((ks.map fun p => kD p.1).zip ds) = some kvs → PD K H ks kvs
  | [], _, _, h, e => by cases h; cases e; exact .nil
  | (k, v) :: ks, _, _, h, e => by
    cases h with
    | cons a t =>
      simp only [List.map_cons, List.zip_cons_cons, kvsL, keyOf_kD, Option.bind_some, Option.map_eq_some_iff] at e
      obtain ⟨r, e1, rfl⟩ := e
      exact .cons a (kvsL_zip t e1)
theorem look_dict {μ : Mu} {x : DV} {v : V} {a : PyData} {kvs : KVs} (m : RM K μ H) (r : RV K μ H v x) (h : look μ x = some a) (e : kvsOf a = some kvs) : ∃ p ks, v = .ref p ∧ Rd H p (.dK ks) ∧ PD K (hid μ H) ks kvs := by
  cases x with
  | d y =>
    cases (show y = a from Option.some.inj h)
    unfold kvsOf at e
    split at e
    · next ps =>
      generalize hq : PyData.dict ps = q at r
      cases (show Da K (hid μ H) v q from r) with
      | @dct p ks ds s t =>
        cases hq
        exact ⟨p, ks, rfl, unhid.rdK s, kvsL_zip t e⟩
      | opq s _ =>
        cases hq
        cases e
      | _ => cases hq
    · cases e
  | cell p =>
    have h : (μ p).map cellD = some _ := h
    cases e2 : μ p with
    | none => rw [e2] at h; cases h
    | some c =>
      rw [e2] at h
      cases (show cellD c = a from Option.some.inj h)
      cases c with
      | lst ds => cases e
      | dct kvs' =>
        rw [kvsOf_cell] at e
        cases e
        obtain ⟨ks, h1, h2, h3⟩ := m p _ e2
        exact ⟨p, ks, r, .inl h1, pd_of h2 h3⟩
      | dtt _ => cases e
      | dti _ => cases e
theorem DGet.k2 {H : Hp} {a : Addr} {kvs : List (Key × V)} {k : Key} (e : Rd H a (.dK kvs)) : DGet H a (kV k) (valV kvs k) := .inl ⟨kvs, k, e, rfl, rfl⟩
theorem kV_of {μ : Mu} {x : DV} {v : V} {a : PyData} {k : Key} (r : RV K μ H v x) (h : look μ x = some a) (e : keyOf a = some k) : v = kV k := by
  unfold keyOf at e
  split at e
  · cases e; exact look_int r h
  · cases e; exact look_str r h
  · cases e
end
section
variable {X : Cx} {pos apos cpos tpos : Pos} {o e f b i : Expr} {fo fe ff fi : FT} {to te tf ti : DT} {es : List Expr} {fr : FTA}
def dGetP (to ti td : DT) : DT := fun δ μ Q => to δ μ fun x μ1 => (∃ a kvs, look μ1 x = some a ∧ kvsOf a = some kvs) ∧ ti δ μ1 fun y μ2 => td δ μ2 fun z μ3 => ∃ a kvs b k c, look μ3 x = some a ∧ kvsOf a = some kvs ∧ look μ3 y = some b ∧ keyOf b = some k ∧ z = .d c ∧ Q (.d ((valD kvs k).getD c)) μ3
theorem d_getP (hu : X.A.units + 64 < cLine) (ho : DE X o to) (he : DE X e te) (hf : DE X f tf) (m : M2 X o "get" apos e f cpos := by exact ⟨rfl, rfl, rfl, rfl⟩) : DE X (.Call (.Attribute o "get" apos) [e, f] [] cpos) (dGetP to te tf) :=
  pe_imp (pe_dget2 (by omega) ho he hf m) fun σ H Q ⟨δ, μ, Qd, rs, rm, q, w⟩ => up_use rs rm q fun x μ1 v H1 e1 m1 r1 ⟨⟨a, kvs, ha, hk⟩, q1⟩ => by
    obtain ⟨p, ks, rfl, h1, h2⟩ := look_dict m1 r1 ha hk
    refine ⟨p, rfl, .inl ⟨ks, h1⟩, up_use (rs.mono e1) m1 q1 fun y μ2 u H2 e2 m2 r2 q2 => up_use ((rs.mono e1).mono e2) m2 q2 fun z μ3 u3 H3 e3 m3 r3 ⟨a', kvs', b, k, c, g1, g2, g3, g4, g5, q3⟩ => ?_⟩
    subst g5
    obtain ⟨p', ks', e4, h3, h4⟩ := look_dict m3 ((r1.mono e2).mono e3) g1 g2
    cases e4
    have ek := kV_of (r2.mono e3) g3 g4
    subst ek
    refine ⟨_, DGet.k2 (k := k) h3, ?_⟩
    refine w _ _ _ _ (e1.trans (e2.trans e3)) m3 ?_ q3
    rcases h4.val k with ⟨k1, k2⟩ | ⟨v', d', k1, k2, k3⟩
    · rw [k1, k2]; exact r3
    · rw [k1, k2]; exact k3
def fGet (fo fi fd : FT) : FT := fun ε => (fo ε).bind fun x ε1 => match (see ε1 x).bind kvsOf with
  | none => .no
  | some _ => (fi ε1).bind fun y ε2 => (fd ε2).bind fun z ε3 => match (see ε3 x).bind kvsOf, (see ε3 y).bind keyOf, seeV z with
    | some kvs, some k, some c => .ok (.val ((valD kvs k).getD c)) ε3
    | _, _, _ => .no
theorem f_get (hu : X.A.units + 64 < cLine) (ho : FE X o fo) (he : FE X e fe) (hf : FE X f ff) (m : M2 X o "get" apos e f cpos := by exact ⟨rfl, rfl, rfl, rfl⟩) : FE X (.Call (.Attribute o "get" apos) [e, f] [] cpos) (fGet fo fe ff) :=
  d_imp (d_getP hu ho he hf m) fun δ μ Q ⟨ε, m, h⟩ => use1 m h fun r ε1 v μ1 e t rf h1 => by
    cases ho : (see ε1 r).bind kvsOf with
    | none => simp only [ho] at h1; exact h1.elim
    | some kvs =>
      simp only [ho] at h1
      simp only [Option.bind_eq_some_iff] at ho
      obtain ⟨a, h2, h3⟩ := ho
      refine ⟨⟨a, kvs, see_look t.mt rf h2, h3⟩, ?_⟩
      refine use1 (P := fun r v μ' ε' => RF δ μ ε' μ' r v) t.mt (fit_step t h1 fun _ _ _ _ _ p => p) fun r2 ε2 v2 μ2 e2 t2 rf2 h4 => ?_
      refine use1 (P := fun r v μ' ε' => RF δ μ ε' μ' r v) t2.mt (fit_step t2 h4 fun _ _ _ _ _ p => p) fun r3 ε3 v3 μ3 e3 t3 rf3 h5 => ?_
      have rfk := RF.keep t m (t2.trans t3) rf
      have rf2' := RF.keep (t.trans t2) m t3 (RF.back m t t2 rf2)
      split at h5
      · next kvs' k c g1 g2 g3 =>
        simp only [Option.bind_eq_some_iff] at g1 g2
        obtain ⟨a', g4, g5⟩ := g1
        obtain ⟨b, g6, g7⟩ := g2
        refine ⟨a', kvs', b, k, c, see_look t3.mt rfk g4, g5, see_look t3.mt rf2' g6, g7, ?_, h5 _ _ t3 rfl⟩
        cases r3 with
        | val y => cases g3; exact rf3
        | ref _ => cases g3
        | own _ => cases g3
      · exact h5.elim
def rdSetK : DV → DV → DV → Mu → (Mu → Prop) → Prop := fun o i v μ Q => ∃ p kvs k x, o = .cell p ∧ μ p = some (.dct kvs) ∧ (∃ b, look μ i = some b ∧ keyOf b = some k) ∧ v = .d x ∧ kvs.length < 900000 ∧ Q (put μ p (.dct (putD kvs k x)))
theorem g_subK (hu : X.A.units + 64 < cLine) (ho : DE X o to) (hi : DE X b ti)
    (ha : ∀ v, assign (.Subscript o b pos) X.env v = (do
      let ov ← holding [v] (eval o X.env)
      let iv ← holding [v, ov] (eval b X.env)
      standAt pos
      holding [v, ov, iv] (setItem ov iv v)
      release [v, ov, iv] []) := by intro _; rfl) : DG true X (.Subscript o b pos) (gdSub to ti rdSetK) :=
  pg_imp (pg_sub ho hi (set_dict (by omega)) ha) fun v σ H Q ⟨δ, μ, d, Qd, rs, rm, r, q, w⟩ =>
    up_use rs rm q fun x μ1 ov H1 e1 m1 r1 q1 => up_use (rs.mono e1) m1 q1 fun y μ2 iv H2 e2 m2 r2 ⟨p, kvs, k, z, ex, hm, ⟨b, hb, hk⟩, ev, hl, q2⟩ => by
      subst ex ev
      cases (show ov = .ref p from r1)
      have ek := kV_of r2 hb hk
      subst ek
      obtain ⟨ks, h1, h2, h3⟩ := m2 p _ hm
      have pd := pd_of h2 h3
      refine ⟨p, _, rfl, DPut.k (k := k) (v := v) h1 (by rw [pd.len]; exact Nat.lt_of_lt_of_le hl (by decide)), ?_⟩
      have pd2 := pd.put (k := k) ((show Da X.K (hid μ H) v z from r).mono (e1.trans e2))
      have e12 := e1.trans (e2.trans (ext_write (p := p) (o := .dK (putK ks k v)) (c := .dct (putD kvs k z)) hm))
      refine w δ _ σ _ e12 (m2.write hm ⟨_, upd_same, pd2.keys, pd2.das.mono (ext_write hm)⟩) (rs.mono e12) q2
noncomputable def setK (o : FR) (k : Option PyData) (r : FR) (ε : FSt) : R Flow := match r, o, k.bind keyOf with
  | .val x, .ref i, some n => match getC ε i with
    | some (.dct kvs) => if kvs.length < 900000 then .ok .nx (setC ε i (.dct (putD kvs n x))) else .no
    | _ => .no
  | _, _, _ => .no
noncomputable def fsSetK (fo fi fe : FT) : FS := fun ε => (fe ε).bind fun r ε1 => (fo ε1).bind fun o ε2 => (fi ε2).bind fun k ε3 => setK o (see ε3 k) r ε3
theorem fs_setK (hu : X.A.units + 64 < cLine) (ho : FE X o fo) (hi : FE X b fi) (he : FE X e fe)
    (ha : ∀ v, assign (.Subscript o b tpos) X.env v = (do
      let ov ← holding [v] (eval o X.env)
      let iv ← holding [v, ov] (eval b X.env)
      standAt tpos
      holding [v, ov, iv] (setItem ov iv v)
      release [v, ov, iv] []) := by intro _; rfl)
    (hs : swapsWithSole [.Subscript o b tpos] e pos.line X.env = pure false := by rfl) (hw : swappedStores [.Subscript o b tpos] e X.env = pure none := by rfl)
    (h1 : (assignEach [.Subscript o b tpos] X.env).map (·.2) = [assign (.Subscript o b tpos) X.env] := by rfl) : FSt1 X (.Assign [.Subscript o b tpos] e pos) (fsSetK fo fi fe) :=
  s_imp (s_asg he (g_subK hu ho hi ha) hs hw h1) fun D δ μ ⟨ε, m, h⟩ => useSE m h fun r ε1 v μ1 t p h1 =>
    useSE t.mt (fitS_step m t.tr h1) fun o ε2 ov μ2 t2 p2 h2 => useSE (δ := δ) t2.mt (fitS_step t.mt t2.tr h2) fun k ε3 kv μ3 t3 p3 h3 => by
      unfold setK at h3
      split at h3
      · next x i n ek =>
        cases (show v = .d x from p)
        obtain ⟨hc, q, rfl, hq⟩ := p2
        simp only [Option.bind_eq_some_iff] at ek
        obtain ⟨b, hb, hk⟩ := ek
        split at h3
        · next kvs ec =>
          split at h3
          · next hl =>
            obtain ⟨q', k1, k2⟩ := t3.mt.cel i _ ec
            rw [hq] at k1; cases k1
            exact ⟨q, kvs, n, x, rfl, k2, ⟨b, see_look t3.mt p3 hb, hk⟩, rfl, hl, h3 _ _ (t3.write ec hq).tr⟩
          · exact h3.elim
        · exact h3.elim
      · exact h3.elim
end
section
variable {X : Cx} {pos p p2 pos2 : Pos} {e : Expr} {fe : FT}
end
end FL

namespace FL
open PySem PySem.Spec PyProof.Rows L2 DL
def pairsK : List PyData → Option KVs
  | [] => some []
  | .tuple [k, v] :: r => (keyOf k).bind fun k => (pairsK r).map ((k, v) :: ·)
  | _ :: _ => none
section
variable {X : Cx} {pos p : Pos} {a b e : Expr} {fa fb fe : FT} {es : List Expr} {fr : FTA}
def gDictO (a : PyData) : Option Cell := match a with
  | .tuple xs => (pairsK xs).map fun kvs => .dct (mergeD [] kvs)
  | _ => none
def fDict (fe : FT) : FT := fun ε => (fe ε).bind fun r ε1 => match (seeV r).bind gDictO with
  | some c => .ok (.own c) ε1
  | none => .no
def fIsi (T : String) (fe : FT) : FT := fUnV (fun d => some (.bool ((kitB (kindOf d) T).getD false))) fe
theorem f_isi {T : String} {xi xt : Str} {p pt : Pos} (hT : ∀ t ∈ ["NoneType", "bool", "int", "str", "list", "tuple", "dict"], (kitB t T).isSome = true) (hg : Gl X xi) (hm : X.mg xi = none) (hv : bootBuiltins xi = some (.builtin "isinstance"))
    (hgt : Gl X xt) (hmt : X.mg xt = none) (hvt : bootBuiltins xt = some (.type T)) (ha : FE X a fa) (hn : xi ≠ "__name__" := by decide) (hdb : (xi == ("__debug__" : Str)) = false := by decide) (hnt : xt ≠ "__name__" := by decide) (hdbt : (xt == ("__debug__" : Str)) = false := by decide)
    (he : starEach [a, .Name xt pt] X.env = (false, eval a X.env) :: starEach [.Name xt pt] X.env := by rfl) (hpl : (backTo pos (starEach [.Name xt pt] X.env)).any (·.1) = false := by rfl) (hs1 : starEach [.Name xt pt] X.env = (false, eval (.Name xt pt) X.env) :: starEach [] X.env := by rfl) :
    FE X (.Call (.Name xi p) [a, .Name xt pt] [] pos) (fIsi T fa) := d_imp (d_isi hT hg hm hv hgt hmt hvt ha hn hdb hnt hdbt he hpl hs1) fun δ μ Q ⟨ε, m, h⟩ => use1 m h fun r ε1 v μ1 e t rf h1 => by
  obtain ⟨z, ez, q⟩ := fit_ofO t h1
  simp only [Option.bind_eq_some_iff] at ez
  obtain ⟨a, e1, e2⟩ := ez
  cases r with
  | ref _ => cases e1
  | own _ => cases e1
  | val x =>
    cases e1
    cases (show v = .d a from rf)
    cases e2
    exact q
def gInK (ks : List Int) : PyData → Option PyData
  | .int i => some (.bool (decide (i ∈ ks)))
  | _ => none
theorem f_inK {x : Str} {p : Pos} {ks : List Int} (D : KName X.K X.mg x ks) (hg : Gl X x) (ha : FE X a fa) (hm : behindInMarks .In (.Name x p) = false := by rfl) (hdb : (x == ("__debug__" : Str)) = false := by decide) : FE X (.Compare a [.In] [.Name x p] pos) (fUnV (gInK ks) fa) :=
  d_imp (d_inK D hg ha hm hdb) fun δ μ Q ⟨ε, m, h⟩ => use1 m h fun r ε1 v μ1 e t rf h1 => by
    obtain ⟨z, ez, q⟩ := fit_ofO t h1
    simp only [Option.bind_eq_some_iff] at ez
    obtain ⟨a, e1, e2⟩ := ez
    cases r with
    | ref _ => cases e1
    | own _ => cases e1
    | val x =>
      cases e1
      cases (show v = .d a from rf)
      unfold gInK at e2
      split at e2
      · cases e2; exact q
      · cases e2
def gIxK (t : List (Int × List Int)) : PyData → Option PyData
  | .int k => (lkp t k).map fun ns => .tuple (ns.map .int)
  | _ => none
theorem f_ixK {i : Expr} {fi : FT} {x : Str} {p pos : Pos} {t : List (Int × List Int)} (D : KTup X.K X.mg x t) (hg : Gl X x) (hi : FE X i fi) (hs : NoSl i := by exact fun _ _ => rfl) (hdb : (x == ("__debug__" : Str)) = false := by decide) :
    FE X (.Subscript (.Name x p) i pos) (fUnV (gIxK t) fi) := d_imp (d_ixK D hg hi hs hdb) fun δ μ Q ⟨ε, m, h⟩ => use1 m h fun r ε1 v μ1 e t rf h1 => by
  obtain ⟨z, ez, q⟩ := fit_ofO t h1
  simp only [Option.bind_eq_some_iff] at ez
  obtain ⟨a, e1, e2⟩ := ez
  cases r with
  | ref _ => cases e1
  | own _ => cases e1
  | val x =>
    cases e1
    cases (show v = .d a from rf)
    unfold gIxK at e2
    split at e2
    · simp only [Option.map_eq_some_iff] at e2
      obtain ⟨ns, e3, rfl⟩ := e2
      simp only [e3]
      exact q
    · cases e2
noncomputable def gMul := gI Bits fun i j => PyData.int (i * j)
theorem f_mul (ha : FE X a fa) (hb : FE X b fb) : FE X (.BinOp a .Mult b pos) (fOp gMul fa fb) := d_imp (d_op op_mulB (upP_I fun _ _ _ => .int _) ha hb) up_fOp
/-- a list, written, so many times -/
def lstOf (ε : FSt) : FR → Option (List PyData)
  | .own (.lst xs) => some xs
  | .ref i => match getC ε i with
    | some (.lst xs) => some xs
    | _ => none
  | _ => none
noncomputable def repR (o : Option (List PyData)) (k : Option PyData) (ε : FSt) : R FR := match o, k with
  | some xs, some (.int k) => if -(2 ^ 63) ≤ k ∧ k < 2 ^ 63 ∧ xs.length * k.toNat ≤ 900000 then .ok (.own (.lst (List.replicate k.toNat xs).flatten)) ε else .no
  | _, _ => .no
noncomputable def fRep (fa fb : FT) : FT := fun ε => (fa ε).bind fun x ε1 => (fb ε1).bind fun y ε2 => repR (lstOf ε2 x) (see ε2 y) ε2
theorem f_rep (ha : FE X a fa) (hb : FE X b fb) : FE X (.BinOp a .Mult b pos) (fRep fa fb) := d_imp (d_repC ha hb) fun δ μ Q ⟨ε, m, h⟩ =>
  use1 m h fun r ε1 v μ1 e t rf h1 => use1 (P := fun r v μ' ε' => RF δ μ ε' μ' r v) t.mt (fit_step t h1 fun _ _ _ _ _ p => p) fun r2 ε2 v2 μ2 e2 t2 rf2 h2 => by
    have rfk := RF.keep t m t2 rf
    have h3 : fit (fun r v μ' ε' => RF δ μ ε' μ' r v) δ μ1 ε1 Q (repR (lstOf ε2 r) (see ε2 r2) ε2) := h2
    unfold repR at h3
    split at h3
    · next xs k g1 g2 =>
      split at h3
      · next hb =>
        cases look_int' (see_look t2.mt rf2 g2)
        have fin : ∀ q, μ2 q = none → Q (.cell q) (put μ2 q (.lst (List.replicate k.toNat xs).flatten)) := fun q hq => h3 _ _ (t2.new hq) ⟨q, rfl, put_same, (t.trans t2).fresh m hq⟩
        cases r with
        | val x => cases g1
        | own c =>
          cases c with
          | dct _ => cases g1
          | dtt _ => cases g1
          | dti _ => cases g1
          | lst ys =>
            cases g1
            obtain ⟨p, rfl, h5, h6⟩ := rfk
            exact ⟨_, h5, hb.1, hb.2.1, hb.2.2, fin⟩
        | ref i =>
          obtain ⟨hc, p, rfl, hp⟩ := rfk
          simp only [lstOf] at g1
          split at g1
          · next ys hys =>
            cases g1
            obtain ⟨p', h5, h6⟩ := t2.mt.cel i _ hys
            rw [hp] at h5; cases h5
            exact ⟨_, h6, hb.1, hb.2.1, hb.2.2, fin⟩
          · cases g1
      · exact h3.elim
    · exact h3.elim
noncomputable def fListO (fe : FT) : FT := fun ε => (fe ε).bind fun r ε1 => match (seeV r).bind itemsOf with
  | some xs => .ok (.own (.lst xs)) ε1
  | none => .no
theorem f_listO {p : Pos} (hg : Gl X "list") (hm : X.mg "list" = none) (he : FE X e fe) (h1 : starEach [e] X.env = (false, eval e X.env) :: starEach [] X.env := by rfl) (hpl : (backTo pos (starEach [] X.env)).any (·.1) = false := by rfl) :
    FE X (.Call (.Name "list" p) [e] [] pos) (fListO fe) := d_imp (d_callTy call_list_of u_listC hg hm (by decide +kernel) (a_cons he a_nil h1) (by decide) (by decide) h1 hpl) fun δ μ Q ⟨ε, m, h⟩ => by
  refine use1 m h fun r ε1 v μ1 e t rf h1 => ?_
  cases ho : (seeV r).bind itemsOf with
  | none => rw [ho] at h1; exact h1.elim
  | some xs =>
    rw [ho] at h1
    simp only [Option.bind_eq_some_iff] at ho
    obtain ⟨a, e1, e2⟩ := ho
    cases r with
    | ref _ => cases e1
    | own _ => cases e1
    | val x =>
      cases e1
      cases (show v = .d a from rf)
      have fin : ∀ p, μ1 p = none → Q (.cell p) (put μ1 p (.lst xs)) := fun p hp => h1 _ _ (t.new hp) ⟨p, rfl, put_same, t.fresh m hp⟩
      unfold itemsOf at e2
      split at e2
      · cases e2; exact fin
      · cases e2; exact fin
      · cases e2
def fsNever : FS := fun _ => .no
theorem fs_never {st : Stmt} : FSt1 X st fsNever := s_imp s_never fun D δ μ ⟨ε, m, h⟩ => h.elim
end
section
variable {δ : DSt} {μ μ1 : Mu} {ε ε1 : FSt} {D : DEnds}
theorem useSA {fr : FTA} {k : List FR → FSt → R Flow} {Q' : List DV → Mu → Prop} (m : Mt δ μ ε) (h : fitS D δ μ ε ((fr ε).bind k))
    (w : ∀ rs ε1 vs μ1, TrE δ μ ε μ1 ε1 → PySem.Paired (fun r v => RF δ μ ε1 μ1 r v) rs vs → fitS D δ μ ε (k rs ε1) → Q' vs μ1) : upFA fr δ μ Q' := by
  refine ⟨ε, m, ?_⟩
  cases e : fr ε with
  | no => rw [e] at h; exact h.elim
  | ex _ _ => rw [e] at h; exact h.elim
  | ok r ε1 => rw [e] at h; exact fun v μ1 t p => w r ε1 v μ1 t p h
/-- a further slot gets data -/
theorem Tr.setD2 (m : Mt δ μ ε) {δ1 : DSt} (t : Tr δ μ ε δ1 μ1 ε1) {i : Nat} {x : PyData} (hb : isBb ε1 i = false) : Tr δ μ ε (δ1.set i (some (.d x))) μ1 (ε1.set i (some (.d x))) := t.trans m (Tr.setD t.mt hb)
def setR2 (i j : Nat) (x y : FR) (ε : FSt) : R Flow := match x, y with
  | .val a, .val b => if isBb ε i = false ∧ isBb ε j = false then .ok .nx ((ε.set i (some (.d a))).set j (some (.d b))) else .no
  | .own c, .val b => if isBb ε i = false ∧ isBb ε j = false then .ok .nx ((ε.set i (some (.c c))).set j (some (.d b))) else .no
  | .val a, .own c => if isBb ε i = false ∧ isBb ε j = false then .ok .nx ((ε.set i (some (.d a))).set j (some (.c c))) else .no
  | _, _ => .no
theorem isBb_set {ε : FSt} {i j : Nat} {x : FV} (hb : isBb ε j = false) (hx : ∀ c, x ≠ .b c) : isBb (ε.set i (some x)) j = false := by
  unfold isBb at hb ⊢
  by_cases e : i = j
  · subst e
    by_cases hl : i < ε.length
    · rw [List.getElem?_set_self hl]
      cases x with
      | b c => exact (hx c rfl).elim
      | _ => rfl
    · rw [List.getElem?_eq_none (by simpa using hl)]
  · rw [List.getElem?_set_ne e]; exact hb
theorem setR2_fit {i j : Nat} (hij : i ≠ j) {x y : FR} {v u : DV} (m : Mt δ μ ε) (t : TrE δ μ ε μ1 ε1) (rx : RF δ μ ε1 μ1 x v) (ry : RF δ μ ε1 μ1 y u) (h : fitS D δ μ ε (setR2 i j x y ε1)) : D.nx ((δ.set i (some v)).set j (some u)) μ1 := by
  unfold setR2 at h
  split at h
  · next a b =>
    split at h
    · next hb =>
      cases (show v = .d a from rx)
      cases (show u = .d b from ry)
      exact h _ _ (Tr.setD2 m (t.setS m (r := .val a) rfl hb.1 rfl) (isBb_set hb.2 (fun c e => by cases e)))
    · exact h.elim
  · next c b =>
    split at h
    · next hb =>
      cases (show u = .d b from ry)
      exact h _ _ (Tr.setD2 m (t.setS m (r := .own c) rx hb.1 rfl) (isBb_set hb.2 (fun c e => by cases e)))
    · exact h.elim
  · next a c =>
    split at h
    · next hb =>
      cases (show v = .d a from rx)
      have t1 := Tr.setD2 m (t.setS m (r := .own c) ry hb.2 rfl) (i := i) (x := a) (isBb_set hb.1 (fun c e => by cases e))
      rw [List.set_comm _ _ (Ne.symm hij)] at t1
      rw [List.set_comm _ _ (Ne.symm hij)] at t1
      exact h _ _ t1
    · exact h.elim
  · exact h.elim
end
section
variable {X : Cx} {pos p : Pos} {a b e : Expr} {fa fb fe : FT} {es : List Expr} {fr : FTA}
/-- a, b = x, y -/
def fsPar (i j : Nat) (fr : FTA) : FS := fun ε => (fr ε).bind fun rs ε1 => match rs with
  | [x, y] => setR2 i j x y ε1
  | _ => .no
theorem fs_par {i j : Nat} {x y : Str} {px py pt : Pos} {kt k2 pt2} (hc : X.calm = true) (hN : X.N.Nodup) (hi : X.N[i]? = some x) (hj : X.N[j]? = some y) (hij : i ≠ j)
    (hx : X.env.scope.names.lookup x = some .local) (hy : X.env.scope.names.lookup y = some .local) (ha : FA X [a, b] fr)
    (hw : swappedStores [.Tuple [.Name x px, .Name y py] kt pt] (.Tuple [a, b] k2 pt2) X.env = pure (some [x, y]))
    (hs : swapsWithSole [.Tuple [.Name x px, .Name y py] kt pt] (.Tuple [a, b] k2 pt2) pos.line X.env = pure false := by rfl) :
    FSt1 X (.Assign [.Tuple [.Name x px, .Name y py] kt pt] (.Tuple [a, b] k2 pt2) pos) (fsPar i j fr) := s_imp (s_par hc hN hi hj hij hx hy ha hw hs) fun D δ μ ⟨ε, m, h⟩ => useSA m h fun rs ε1 vs μ1 t rf h1 => by
  split at h1
  · next x y =>
    cases rf with
    | cons r1 t1 => cases t1 with
      | cons r2 t2 =>
        cases t2
        exact setR2_fit hij m t r1 r2 h1
  · exact h1.elim
/-- a, b, .. = e, e data -/
def fsAsgT (is : List Nat) (fe : FT) : FS := fun ε => (fe ε).bind fun r ε1 => match (seeV r).bind fun d => tgT is d ε1 with
  | some ε2 => .ok .nx ε2
  | none => .no
theorem fs_asgT {tg : Expr} {is : List Nat} (he : FE X e fe) (hg : DG true X tg (gdTup is)) (hs : swapsWithSole [tg] e pos.line X.env = pure false := by rfl) (hw : swappedStores [tg] e X.env = pure none := by rfl)
    (h1 : (assignEach [tg] X.env).map (·.2) = [assign tg X.env] := by rfl) : FSt1 X (.Assign [tg] e pos) (fsAsgT is fe) := s_imp (s_asg he hg hs hw h1) fun D δ μ ⟨ε, m, h⟩ => useSE m h fun r ε1 v μ1 t p h1 => by
  cases r with
  | ref _ => exact h1.elim
  | own _ => exact h1.elim
  | val d =>
    cases (show v = .d d from p)
    cases ho : tgT is d ε1 with
    | none => simp only [seeV, Option.bind_some, ho] at h1; exact h1.elim
    | some ε2 =>
      simp only [seeV, Option.bind_some, ho] at h1
      unfold tgT at ho
      split at ho
      · next xs =>
        split at ho
        · next hl => exact ⟨hl, h1 _ _ (t.tr.trans m (setAllF_tr t.mt ho))⟩
        · cases ho
      · cases ho
end
end FL

namespace FL
open PySem PySem.Spec PyProof.Rows L2 DL
section
variable {X : Cx} {pos apos cpos : Pos} {e o : Expr} {fe fo : FT} {es : List Expr} {fr : FTA}
theorem f_append (ho : FE X o fo) (ha : FA X [e] fr)
    (hbase : attributeBase o "append" X.env (eval o X.env) = eval o X.env := by rfl)
    (hfew : ((backTo cpos (starEach [e] X.env)).all (fun x => !x.1) && (backToKw cpos (keywordEach [] X.env)).all (fun x => x.1.isSome)
      && decide ([e].length + ([] : List Keyword).length + (if ([] : List Keyword).isEmpty then 0 else 1) < 30)) = true := by rfl)
    (hline : (apos.endLine == cpos.line) = true := by rfl) (hs : starEach [e] X.env = (false, eval e X.env) :: starEach [] X.env := by rfl) (hplain : (backTo cpos (starEach [] X.env)).any (·.1) = false := by rfl) :
    FE X (.Call (.Attribute o "append" apos) [e] [] cpos) (fMut gAppend fo fr) := f_mut m_append PySem.F.plainAttrs_list PySem.F.slot_list_append PySem.F.type_list_append mt_append ho ha hbase hfew hline hs hplain
end
theorem call_tuple_of2 {X : Cx} : CallR X (.type "tuple") (fun xs H Q => ∃ p ys, xs = [.ref p] ∧ ((SqL X.K H p ys ∧ NewT H ys Q) ∨ (SqT X.K H p ys ∧ Q (.ref p) H))) := callT_tuple
theorem primes_mk {K : PySem.W.Frag} {h : Heap} {mg : Str → Option Value} {ad n : Nat} {h2 h3 h5 h6 h7 h10 h11 h13 h14 h15 : Int} {t2 t3 t5 t6 t7 t10 t11 t13 t14 t15 u20 u30 u50 u60 u61 u70 u100 u101 u110 u130 u140 u141 u150 u151 : Tok} {b2 b3 b5 b6 b7 b10 b11 b13 b14 b15 : Addr} {n2 n3 n5 n6 n7 n10 n11 n13 n14 n15 : Nat} {s2 s3 s5 s6 s7 s10 s11 s13 s14 s15 : Array (Option Value)} (X : K.In h) (G : h.Ns mainGlobals mg) (a : PySem.W.nsIn K mainGlobals "PRIMES" = some (some (.ref ad)))
    (l : K.lookup ad = some ⟨.type "dict", none, .dict #[⟨h2, .int 2 t2, .ref b2⟩, ⟨h3, .int 3 t3, .ref b3⟩, ⟨h5, .int 5 t5, .ref b5⟩, ⟨h6, .int 6 t6, .ref b6⟩, ⟨h7, .int 7 t7, .ref b7⟩, ⟨h10, .int 10 t10, .ref b10⟩, ⟨h11, .int 11 t11, .ref b11⟩, ⟨h13, .int 13 t13, .ref b13⟩, ⟨h14, .int 14 t14, .ref b14⟩, ⟨h15, .int 15 t15, .ref b15⟩] n, #[]⟩) (e : h2 = hashInt 2 ∧ h3 = hashInt 3 ∧ h5 = hashInt 5 ∧ h6 = hashInt 6 ∧ h7 = hashInt 7 ∧ h10 = hashInt 10 ∧ h11 = hashInt 11 ∧ h13 = hashInt 13 ∧ h14 = hashInt 14 ∧ h15 = hashInt 15 ∧ (ad == sysModules) = false)
    (l2 : K.lookup b2 = some ⟨.type "tuple", none, .seq #[.int 2 u20] n2, s2⟩) (l3 : K.lookup b3 = some ⟨.type "tuple", none, .seq #[.int 3 u30] n3, s3⟩) (l5 : K.lookup b5 = some ⟨.type "tuple", none, .seq #[.int 5 u50] n5, s5⟩) (l6 : K.lookup b6 = some ⟨.type "tuple", none, .seq #[.int 2 u60, .int 3 u61] n6, s6⟩) (l7 : K.lookup b7 = some ⟨.type "tuple", none, .seq #[.int 7 u70] n7, s7⟩) (l10 : K.lookup b10 = some ⟨.type "tuple", none, .seq #[.int 2 u100, .int 5 u101] n10, s10⟩) (l11 : K.lookup b11 = some ⟨.type "tuple", none, .seq #[.int 11 u110] n11, s11⟩) (l13 : K.lookup b13 = some ⟨.type "tuple", none, .seq #[.int 13 u130] n13, s13⟩) (l14 : K.lookup b14 = some ⟨.type "tuple", none, .seq #[.int 2 u140, .int 7 u141] n14, s14⟩) (l15 : K.lookup b15 = some ⟨.type "tuple", none, .seq #[.int 3 u150, .int 5 u151] n15, s15⟩) : KTup K mg "PRIMES" [(2, [2]), (3, [3]), (5, [5]), (6, [2, 3]), (7, [7]), (10, [2, 5]), (11, [11]), (13, [13]), (14, [2, 7]), (15, [3, 5])] := by
  obtain ⟨e2, e3, e5, e6, e7, e10, e11, e13, e14, e15, eo⟩ := e
  exact ⟨⟨ad, _, n, PySem.W.mg_of X G a, l, (.cons e2 l2 ⟨rfl, rfl⟩ rfl (by simp) (.cons _ _ .nil) (.cons e3 l3 ⟨rfl, rfl⟩ rfl (by simp) (.cons _ _ .nil) (.cons e5 l5 ⟨rfl, rfl⟩ rfl (by simp) (.cons _ _ .nil) (.cons e6 l6 ⟨rfl, rfl⟩ rfl (by simp) (.cons _ _ (.cons _ _ .nil)) (.cons e7 l7 ⟨rfl, rfl⟩ rfl (by simp) (.cons _ _ .nil) (.cons e10 l10 ⟨rfl, rfl⟩ rfl (by simp) (.cons _ _ (.cons _ _ .nil)) (.cons e11 l11 ⟨rfl, rfl⟩ rfl (by simp) (.cons _ _ .nil) (.cons e13 l13 ⟨rfl, rfl⟩ rfl (by simp) (.cons _ _ .nil) (.cons e14 l14 ⟨rfl, rfl⟩ rfl (by simp) (.cons _ _ (.cons _ _ .nil)) (.cons e15 l15 ⟨rfl, rfl⟩ rfl (by simp) (.cons _ _ (.cons _ _ .nil)) .nil)))))))))), by decide, eo⟩⟩
end FL

namespace DL
open PySem PySem.Spec PyProof.Rows L2
section
variable {X : Cx} {pos : Pos} {a b c : Expr}
def setV : List Nat → List DV → DSt → DSt
  | i :: is, v :: vs, δ => setV is vs (δ.set i (some v))
  | _, _, δ => δ
/-- a, b, .. = x, y, .. (plain locals) -/
def sParN (is : List Nat) (ta : DTA) : DTS := fun D δ μ => ta δ μ fun ds μ1 => ds.length = is.length ∧ D.nx (setV is ds δ) μ1
theorem gNames_useV {K : PySem.W.Frag} : ∀ {is : List Nat} {vs : List V} {ds : List DV} {μ : Mu} {H : Hp} {σ : L2.St} {δ : DSt} {Q : L2.St → Hp → Prop}, PySem.Paired (RV K μ H) vs ds → ds.length = is.length → RS K μ H σ δ → (∀ σ', RS K μ H σ' (setV is ds δ) → Q σ' H) → gNames is vs σ H Q
  | [], _, _, _, _, _, _, _, r, hl, rs, q => by
    cases r with
    | nil => exact ⟨rfl, q _ rs⟩
    | cons _ _ => simp at hl
  | i :: is, _, _, _, _, _, _, _, r, hl, rs, q => by
    cases r with
    | nil => simp at hl
    | @cons v d vs ds a t => exact ⟨v, vs, rfl, gNames_useV t (by simpa using hl) (rs.set a i) q⟩
/-- a, b, .. = x, y, .. by way of a tuple (any names) -/
theorem s_parT {es as : List Expr} {is : List Nat} {tA : DTA} {k : Nat} {k2 pt pt2} (hc : X.calm = true) (h : PGs X es (gNames is)) (ha : DA X as tA) (h8 : is.length ≤ 8 := by decide)
    (hn : (assignEach es X.env).length = is.length := by rfl) (hst : (assignEach es X.env).findIdx? (·.1) = none := by rfl)
    (hs : swapsWithSole [.Tuple es k pt] (.Tuple as k2 pt2) pos.line X.env = pure false := by rfl) (hw : swappedStores [.Tuple es k pt] (.Tuple as k2 pt2) X.env = pure none := by rfl)
    (h1 : (assignEach [.Tuple es k pt] X.env).map (·.2) = [assign (.Tuple es k pt) X.env] := by rfl) :
    DS X (.Assign [.Tuple es k pt] (.Tuple as k2 pt2) pos) (sParN is tA) := ps_imp (ps_asg (pt_tup ha) (pg_tup hc h hn hst) hs hw h1) fun D σ H ⟨δ, μ, Dd, rs, rm, q, w⟩ =>
  upA_use rs rm q fun ds μ1 vs H1 e1 m1 r1 ⟨hl, q1⟩ => by
    have hlen : vs.length = is.length := (PySem.Paired.length r1).trans hl
    refine ⟨small_line (by rw [hlen]; omega), fun t o ht ho => ⟨t, vs, rfl, .inl (.inr ⟨o, upd_same⟩), hlen, gNames_useV (L2.Paired.mapP r1 fun _ _ p => p.mono (ext_new ht)) hl ((rs.mono e1).mono (ext_new ht)) fun σ' rs' => w.nx _ μ1 _ _ (e1.trans (ext_new ht)) (m1.new ht) rs' q1⟩⟩
end
end DL
namespace FL
open PySem PySem.Spec PyProof.Rows L2 DL
section
variable {δ δ1 : DSt} {μ μ1 : Mu} {ε ε1 : FSt}
/-- a new container's slot -/
theorem Tr.setO (t : Tr δ μ ε δ1 μ1 ε1) {i : Nat} {q : Addr} {c : Cell} (h0 : μ q = none) (h1 : μ1 q = some c) (hn : ¬ Adr δ1 ε1 q) (hb : isBb ε1 i = false) : Tr δ μ ε (δ1.set i (some (.cell q))) μ1 (ε1.set i (some (.c c))) := by
  have hl := t.mt.len
  refine ⟨⟨by simp [hl], fun j y h => ?_, fun j d h => ?_, fun j k p hj hk g1 g2 => ?_⟩, t.fr, fun j d h => ?_, fun j d h => ?_, fun p h => ?_, by simp [t.ln]⟩
  · by_cases e : i = j
    · subst e
      obtain ⟨a, b⟩ := get_set h
      cases a
    · rw [List.getElem?_set_ne e] at h ⊢
      exact t.mt.dat j y h
  · by_cases e : i = j
    · subst e
      obtain ⟨a, b⟩ := getC_same h
      rcases a with a | a
      · cases a
        exact ⟨q, by rw [List.getElem?_set_self (by omega)], h1⟩
      · cases a
    · rw [getC_ne e] at h
      rw [List.getElem?_set_ne e]
      exact t.mt.cel j d h
  · by_cases e : i = j
    · subst e
      by_cases e2 : i = k
      · exact e2
      · obtain ⟨d, hc⟩ := isC_some hj
        obtain ⟨a, b⟩ := getC_same hc
        rw [List.getElem?_set_self (by omega)] at g1
        cases g1
        rw [List.getElem?_set_ne e2] at g2
        unfold isC at hk
        rw [getC_ne e2] at hk
        exact (hn ⟨k, hk, g2⟩).elim
    · by_cases e2 : i = k
      · subst e2
        obtain ⟨d, hc⟩ := isC_some hk
        obtain ⟨a, b⟩ := getC_same hc
        rw [List.getElem?_set_self (by omega)] at g2
        cases g2
        rw [List.getElem?_set_ne e] at g1
        unfold isC at hj
        rw [getC_ne e] at hj
        exact (hn ⟨j, hj, g1⟩).elim
      · unfold isC at hj hk
        rw [getC_ne e] at hj
        rw [getC_ne e2] at hk
        rw [List.getElem?_set_ne e] at g1
        rw [List.getElem?_set_ne e2] at g2
        exact t.mt.apart j k p hj hk g1 g2
  · obtain ⟨⟨c1, g1⟩, g2⟩ := t.bo j d h
    have e : i ≠ j := fun e => by subst e; exact isBb_false hb g1
    rw [List.getElem?_set_ne e, List.getElem?_set_ne e]
    exact ⟨⟨c1, g1⟩, g2⟩
  · by_cases e : i = j
    · subst e
      obtain ⟨a, b⟩ := get_set h
      cases a
    · rw [List.getElem?_set_ne e] at h
      exact t.bn j d h
  · obtain ⟨j, d, g1, g2⟩ := h
    by_cases e : i = j
    · subst e
      obtain ⟨a, b⟩ := get_set g1
      rw [List.getElem?_set_self (by omega)] at g2
      cases g2
      exact .inr h0
    · rw [List.getElem?_set_ne e] at g1 g2
      exact t.nw p ⟨j, d, g1, g2⟩
/-- new containers stand apart -/
def FarO (v : DV) : List FR → List DV → Prop
  | .own _ :: rs, u :: vs => v ≠ u ∧ FarO v rs vs
  | .val _ :: rs, _ :: vs => FarO v rs vs
  | .ref _ :: rs, _ :: vs => FarO v rs vs
  | _, _ => True
def SepO : List FR → List DV → Prop
  | .own _ :: rs, v :: vs => FarO v rs vs ∧ SepO rs vs
  | .val _ :: rs, _ :: vs => SepO rs vs
  | .ref _ :: rs, _ :: vs => SepO rs vs
  | _, _ => True
def upFB (f : FTA) : DTA := fun δ μ Q => ∃ ε, Mt δ μ ε ∧ fit (fun rs vs μ' ε' => PySem.Paired (fun r v => RF δ μ ε' μ' r v) rs vs ∧ SepO rs vs) δ μ ε Q (f ε)
abbrev FAB (X : Cx) (es : List Expr) (f : FTA) : Prop := DA X es (upFB f)
theorem far_of {p : Addr} {c : Cell} {μ2 : Mu} {ε2 : FSt} (hp : μ1 p = some c) : ∀ {rs : List FR} {vs : List DV}, PySem.Paired (fun r v => RF δ μ1 ε2 μ2 r v) rs vs → FarO (.cell p) rs vs
  | _, _, .nil => trivial
  | .own _ :: _, _ :: _, .cons h t => by
    refine ⟨fun e => ?_, far_of hp t⟩
    obtain ⟨q, e1, _, e3⟩ := h
    rw [← e] at e1
    cases e1
    rw [hp] at e3
    cases e3
  | .val _ :: rs, _ :: _, .cons h t => by
    have := far_of hp t
    exact this
  | .ref _ :: rs, _ :: _, .cons h t => by
    have := far_of hp t
    exact this
theorem useB {f : FTA} {α β : Type} {g : List FR → FSt → R α} {P : α → β → Mu → FSt → Prop} {Q : β → Mu → Prop} {Q' : List DV → Mu → Prop} (m : Mt δ μ ε) (h : fit P δ μ ε Q ((f ε).bind g))
    (k : ∀ rs ε1 vs μ1, f ε = .ok rs ε1 → TrE δ μ ε μ1 ε1 → PySem.Paired (fun r v => RF δ μ ε1 μ1 r v) rs vs → SepO rs vs → fit P δ μ ε Q (g rs ε1) → Q' vs μ1) : upFB f δ μ Q' := by
  refine ⟨ε, m, ?_⟩
  cases e : f ε with
  | no => rw [e] at h; exact h.elim
  | ex _ _ => rw [e] at h; exact h.elim
  | ok r ε1 =>
    rw [e] at h
    exact fun v μ1 t ⟨p, s⟩ => k r ε1 v μ1 e t p s h
end
section
variable {X : Cx} {pos : Pos} {a b c e : Expr} {fe fa : FT} {es : List Expr} {fr : FTA}
theorem fb_nil : FAB X [] faNil := a_imp a_nil fun δ μ Q ⟨ε, m, h⟩ => h _ _ (.refl m) ⟨.nil, trivial⟩
theorem fb_cons (ha : FE X e fe) (hr : FAB X es fr) (hs : starEach (e :: es) X.env = (false, eval e X.env) :: starEach es X.env := by rfl) : FAB X (e :: es) (faCons fe fr) := a_imp (a_cons ha hr hs) fun δ μ Q ⟨ε, m, h⟩ =>
  use1 m h fun r ε1 v μ1 e t rf h1 => useB (P := fun rs vs μ' ε' => PySem.Paired (fun r v => RF δ μ ε' μ' r v) rs vs ∧ SepO rs vs) t.mt (fit_step t h1 fun _ _ _ _ _ p => p) fun rs ε2 vs μ2 e2 t2 rf2 sp h2 => by
    refine h2 _ _ t2 ⟨.cons (RF.keep t m t2 rf) (L2.Paired.mapP rf2 fun _ _ p => RF.back m t t2 p), ?_⟩
    cases r with
    | val _ => exact sp
    | ref _ => exact sp
    | own c =>
      obtain ⟨p, rfl, h3, h4⟩ := rf
      exact ⟨far_of h3 rf2, sp⟩
def setAllR : List Nat → List FR → FSt → Option FSt
  | i :: is, r :: rs, ε => if isBb ε i = true then none else (frV r).bind fun x => setAllR is rs (ε.set i (some x))
  | _, _, ε => some ε
def fsParN (is : List Nat) (fr : FTA) : FS := fun ε => (fr ε).bind fun rs ε1 => if rs.length = is.length then match setAllR is rs ε1 with
  | some ε2 => .ok .nx ε2
  | none => .no else .no
theorem setAllR_tr {δ : DSt} {μ μ1 : Mu} {ε : FSt} (m : Mt δ μ ε) : ∀ {is : List Nat} {rs : List FR} {vs : List DV} {δ1 : DSt} {ε1 ε2 εr : FSt}, Tr δ μ ε δ1 μ1 ε1 → PySem.Paired (fun r v => RF δ μ εr μ1 r v) rs vs → SepO rs vs →
    (∀ p, Adr δ1 ε1 p → FarO (.cell p) rs vs) → setAllR is rs ε1 = some ε2 → Tr δ μ ε (setV is vs δ1) μ1 ε2
  | [], _, _, _, _, _, _, t, _, _, _, h => by cases h; exact t
  | _ :: _, [], _, _, _, _, _, t, rf, _, _, h => by cases rf; cases h; exact t
  | i :: is, r :: rs, v :: vs, δ1, ε1, ε2, εr, t, .cons r1 r2, sp, far, h => by
    unfold setAllR at h
    split at h
    · cases h
    · next hb =>
      have hb : isBb ε1 i = false := by simpa using hb
      cases r with
      | ref _ => cases h
      | val x =>
        cases (show v = .d x from r1)
        have t1 := t.trans m (Tr.setD t.mt (x := x) hb)
        show Tr δ μ ε (setV is vs (δ1.set i (some (.d x)))) μ1 ε2
        refine setAllR_tr m t1 r2 sp (fun p hp => far p ?_) h
        obtain ⟨j, g1, g2⟩ := hp
        by_cases e : i = j
        · subst e
          obtain ⟨d, hd⟩ := isC_some g1
          obtain ⟨a, b⟩ := getC_same hd
          rcases a with a | a <;> cases a
        · unfold isC at g1
          rw [getC_ne e] at g1
          rw [List.getElem?_set_ne e] at g2
          exact ⟨j, g1, g2⟩
      | own c =>
        obtain ⟨q, rfl, h1, h0⟩ := r1
        have hn : ¬ Adr δ1 ε1 q := fun z => (far q z).1 rfl
        show Tr δ μ ε (setV is vs (δ1.set i (some (.cell q)))) μ1 ε2
        refine setAllR_tr m (t.setO h0 h1 hn hb) r2 sp.2 (fun p hp => ?_) h
        obtain ⟨j, g1, g2⟩ := hp
        by_cases e : i = j
        · subst e
          have hl := t.mt.len
          obtain ⟨d, hd⟩ := isC_some g1
          obtain ⟨a, b⟩ := getC_same hd
          rw [List.getElem?_set_self (by omega)] at g2
          cases g2
          exact sp.1
        · unfold isC at g1
          rw [getC_ne e] at g1
          rw [List.getElem?_set_ne e] at g2
          exact (far p ⟨j, g1, g2⟩).2
theorem fsParN_use {is : List Nat} {D : DEnds} {δ : DSt} {μ : Mu} (h : ∃ ε, Mt δ μ ε ∧ fitS D δ μ ε (fsParN is fr ε)) : sParN is (upFB fr) D δ μ := by
  obtain ⟨ε, m, h⟩ := h
  refine ⟨ε, m, ?_⟩
  unfold fsParN at h
  cases e : fr ε with
  | no => rw [e] at h; exact h.elim
  | ex _ _ => rw [e] at h; exact h.elim
  | ok rs ε1 =>
    rw [e] at h
    refine fun vs μ1 t ⟨p, s⟩ => ?_
    simp only [R.bind_ok] at h
    split at h
    · next hl =>
      split at h
      · next ε2 e2 =>
        refine ⟨by rw [← hl]; exact (PySem.Paired.length p).symm, ?_⟩
        refine h _ _ (setAllR_tr m t.tr p s (fun a ha => ?_) e2)
        obtain ⟨d, hd⟩ := m.adr (t.kd.adr.mpr ha)
        exact far_of hd p
      · exact h.elim
    · exact h.elim
theorem fs_parT {es as : List Expr} {is : List Nat} {k : Nat} {k2 pt pt2} (hc : X.calm = true) (h : PGs X es (gNames is)) (ha : FAB X as fr) (h8 : is.length ≤ 8 := by decide)
    (hn : (assignEach es X.env).length = is.length := by rfl) (hst : (assignEach es X.env).findIdx? (·.1) = none := by rfl)
    (hs : swapsWithSole [.Tuple es k pt] (.Tuple as k2 pt2) pos.line X.env = pure false := by rfl) (hw : swappedStores [.Tuple es k pt] (.Tuple as k2 pt2) X.env = pure none := by rfl)
    (h1 : (assignEach [.Tuple es k pt] X.env).map (·.2) = [assign (.Tuple es k pt) X.env] := by rfl) :
    FSt1 X (.Assign [.Tuple es k pt] (.Tuple as k2 pt2) pos) (fsParN is fr) := s_imp (s_parT hc h ha h8 hn hst hs hw h1) fun D δ μ h => fsParN_use h
end
end FL

namespace FL
open PySem PySem.Spec PyProof.Rows L2 DL
section
variable {X : Cx} {pos : Pos} {tg a b c e : Expr} {fr : FTA}
def turnsC (i j c : Int) : Nat := (Builtin.Range.rangeSize i j c).toNat
end
def call1O (F : Fn) : FR → FSt → R FR
  | .own c, ε => match F [.b c] with
    | .ok (.val x) [_] => .ok (.val x) ε
    | .ok (.own c') [_] => .ok (.own c') ε
    | _ => .no
  | _, _ => .no
def fCall1O (F : Fn) (fa : FT) : FT := fun ε => (fa ε).bind (call1O F)
section
variable {X : Cx} {k : Nat} {ps : List Str} {F : Fn} {x : Str} {p pos : Pos} {e : Expr} {fa : FT} {st : Stmt}
end
end FL

namespace FL
open PySem PySem.Spec PyProof.Rows L2 DL
mutual
/-- no list and no dict within -/
def flatT : PyData → Bool
  | .none => true
  | .bool _ => true
  | .int _ => true
  | .str _ => true
  | .tuple xs => flatTs xs
  | _ => false
def flatTs : List PyData → Bool
  | [] => true
  | x :: xs => flatT x && flatTs xs
end
def frzV : Option FV → Option FV
  | some (.c c) => some (.d (cellD c))
  | some (.b c) => some (.d (cellD c))
  | v => v
def frzAll (ε : FSt) : FSt := ε.map frzV
def fView (f : FT) : FT := fun ε => match f (frzAll ε) with
  | .ok (.val x) _ => if flatT x = true then .ok (.val x) ε else .no
  | _ => .no
mutual
theorem Da.flat {K : PySem.W.Frag} {H H' : Hp} (hs : ∀ a o xs, H a = some (.frz o (.tup xs)) → H' a = some (.frz o (.tup xs))) : ∀ {v : V} {d : PyData}, Da K H v d → flatT d = true → Da K H' v d
  | _, _, .non, _ => .non
  | _, _, .bl b, _ => .bl b
  | _, _, .int i, _ => .int i
  | _, _, .str x, _ => .str x
  | _, _, .lst h a, f => by simp [flatT] at f
  | _, _, .tup h a, f => .tup (by
      rcases h with ⟨o, h1, h2⟩ | h
      · exact .inl ⟨o, hs _ _ _ h1, h2⟩
      · exact .inr h) (DaAll.flat hs a (by simpa [flatT] using f))
  | _, _, .dct h a, f => by simp [flatT] at f
  | _, _, .opq h _, f => by simp [flatT] at f
theorem DaAll.flat {K : PySem.W.Frag} {H H' : Hp} (hs : ∀ a o xs, H a = some (.frz o (.tup xs)) → H' a = some (.frz o (.tup xs))) : ∀ {vs : List V} {ds : List PyData}, DaAll K H vs ds → flatTs ds = true → DaAll K H' vs ds
  | _, _, .nil, _ => .nil
  | _, _, .cons h t, f => by
    simp only [flatTs, Bool.and_eq_true] at f
    exact .cons (Da.flat hs h f.1) (DaAll.flat hs t f.2)
end
end FL

namespace FL
open PySem PySem.Spec PyProof.Rows L2 DL
theorem tuple_mul1W (l : Addr) (items : Array Value) (n : Nat) (dd : Option Addr) (sl : Array (Option Value)) (u : Tok) (c1 : (items.isEmpty || (1 : Int) == 1) = true) :
    Meets (Builtin.«tuple.__mul__» ⟨[.ref l, .int 1 u], []⟩) (fun _ R s => s.heap.get? l = some { cls := .type "tuple", dict := dd, data := .seq items n, slots := sl } ∧ R (.ok (.ret (Value.ref l))) s) :=
  .of_wp fun prog w A R s h => by
    obtain ⟨hp, g, d, tk, os⟩ := s
    obtain ⟨hl, h⟩ := h
    have f1 := AutoSeq1.idx_int
    wp_walk using wpAny_loadPart' hl
    repeat (first
      | (refine wpAny_ite_false (decide_eq_false (by decide)) ?_; wp_walk using wpAny_loadPart' hl)
      | (refine wpAny_ite_true (decide_eq_true (by rw [c1])) ?_; wp_walk using wpAny_loadPart' hl))
    exact ⟨_, rfl, h⟩
theorem tuple_mul0W (l : Addr) (items : Array Value) (n : Nat) (dd : Option Addr) (sl : Array (Option Value)) (u : Tok) (c1 : (items.isEmpty || (0 : Int) == 1) = false) (hsz : (#[] : Array Value).size ≤ sizeLine) :
    Meets (Builtin.«tuple.__mul__» ⟨[.ref l, .int 0 u], []⟩) (fun _ R s => s.heap.get? l = some { cls := .type "tuple", dict := dd, data := .seq items n, slots := sl } ∧
      R (.ok (.ret (Value.ref s.heap.objs.size))) { s with heap := s.heap.push { cls := Value.type "tuple", data := Data.seq #[] }, toks := s.toks }) :=
  .of_wp fun prog w A R s h => by
    obtain ⟨hp, g, d, tk, os⟩ := s
    obtain ⟨hl, h⟩ := h
    have f1 := AutoSeq1.idx_int
    wp_walk using wpAny_loadPart' hl
    repeat (first
      | (refine wpAny_ite_false (decide_eq_false (by decide)) ?_; wp_walk using wpAny_loadPart' hl)
      | (refine wpAny_ite_false (decide_eq_false (by rw [c1]; exact Bool.false_ne_true)) ?_; wp_walk using wpAny_loadPart' hl)
      | (refine wpAny_ite_true (decide_eq_true (by rfl)) ?_; wp_walk using wpAny_loadPart' hl)
      | (refine wpAny_ite_false (decide_eq_false (Nat.not_lt.mpr hsz)) ?_; wp_walk using wpAny_loadPart' hl))
    exact ⟨_, rfl, h⟩
def rRepT1 (K : PySem.W.Frag) : R2 := fun x y H Q => ∃ l xs, x = .ref l ∧ SqT K H l xs ∧ ((y = .int 1 ∧ Q (.ref l) H) ∨ (y = .int 0 ∧ xs ≠ [] ∧ NewT H [] Q))
section
variable {X : Cx} {pos : Pos} {a b : Expr} {fa fb : FT}
theorem op_repT1 : OpR X (binaryOp .Mult) (rRepT1 X.K) := by
  intro pins s σ H x y v u Q I rx ry h
  obtain ⟨l, xs, rfl, hT, h⟩ := h
  cases rx
  obtain ⟨its, r, ⟨⟨cls, dd, data, sl⟩, ho, hc, n, hd⟩, hs⟩ := I.tuple hT
  simp only at hc hd
  subst hc hd
  rcases h with ⟨rfl, q⟩ | ⟨rfl, hne, q⟩
  · obtain ⟨t, rfl⟩ := ry
    refine wpAny_binaryOp_repeat_ref (T := "tuple") (U := "int") (by decide) ⟨_, ho, rfl⟩ (fun s' => typeIs_int s' 1 t) noFill_tuple_mul F.fills_int_mul F.slot_int_rmul repeat_tuple F.slot_int_index.lookup
      (call_meets F.slot_int_rmul (typeIs_int s 1 t) F.entry_int_rmul (F.args_int_rmul_2 _ _) (int_rmul_tuple 1 t l its.toArray n dd sl)
        ⟨ho, rfl, ⟨_, ho, rfl⟩, call_meets F.slot_tuple_mul ⟨_, ho, rfl⟩ F.entry_tuple_mul (F.args_tuple_mul_2 _ _) (tuple_mul1W l its.toArray n dd sl t (by rw [Bool.or_comm]; rfl)) ⟨ho, ?_⟩⟩)
    exact ⟨.ref l, H, I, rfl, q⟩
  · obtain ⟨t, rfl⟩ := ry
    have hn : its ≠ [] := fun e => hne (by
      have hle : its.length = xs.length := r.length.symm
      rw [e] at hle
      exact List.eq_nil_of_length_eq_zero hle.symm)
    have hi : its.toArray.isEmpty = false := by
      cases its with
      | nil => exact absurd rfl hn
      | cons a b => rfl
    refine wpAny_binaryOp_repeat_ref (T := "tuple") (U := "int") (by decide) ⟨_, ho, rfl⟩ (fun s' => typeIs_int s' 0 t) noFill_tuple_mul F.fills_int_mul F.slot_int_rmul repeat_tuple F.slot_int_index.lookup
      (call_meets F.slot_int_rmul (typeIs_int s 0 t) F.entry_int_rmul (F.args_int_rmul_2 _ _) (int_rmul_tuple 0 t l its.toArray n dd sl)
        ⟨ho, rfl, ⟨_, ho, rfl⟩, call_meets F.slot_tuple_mul ⟨_, ho, rfl⟩ F.entry_tuple_mul (F.args_tuple_mul_2 _ _) (tuple_mul0W l its.toArray n dd sl t (by rw [hi]; rfl) (by rw [sizeLine_eq]; decide)) ⟨ho, ?_⟩⟩)
    exact lay_tup (its := []) I (by decide) .nil q
def rRepT2 (K : PySem.W.Frag) : R2 := fun x y H Q => ∃ l k xs, x = .ref l ∧ y = .int k ∧ SqT K H l xs ∧ xs ≠ [] ∧ 2 ≤ k ∧ k ≤ 1000 ∧ xs.length ≤ 1000 ∧ xs.length * k.toNat ≤ 900000 ∧ NewT H (List.replicate k.toNat xs).flatten Q
theorem op_repT2 : OpR X (binaryOp .Mult) (rRepT2 X.K) := by
  intro pins s σ H x y v u Q I rx ry h
  obtain ⟨l, k, xs, rfl, rfl, hT, hne, h1, h2, hz, hz2, q⟩ := h
  cases rx
  obtain ⟨t, rfl⟩ := ry
  obtain ⟨its, r, ⟨⟨cls, dd, data, sl⟩, ho, hc, n, hd⟩, hs⟩ := I.tuple hT
  simp only at hc hd
  subst hc hd
  have hle : its.length = xs.length := r.length.symm
  have hn : its ≠ [] := fun e => hne (by
    rw [e] at hle
    exact List.eq_nil_of_length_eq_zero hle.symm)
  have hi : its.toArray.isEmpty = false := by
    cases its with
    | nil => exact absurd rfl hn
    | cons a b => rfl
  have hsz0 : its.toArray.size = xs.length := by rw [List.size_toArray, hle]
  have hm : ((its.toArray.size : Nat) : Int) * k ≤ 1000000 := by
    rw [hsz0]
    have a1 : ((xs.length : Nat) : Int) * k ≤ 1000 * k := Int.mul_le_mul_of_nonneg_right (by omega) (by omega)
    omega
  have flen : (List.replicate k.toNat its).flatten.length ≤ sizeLine := by
    rw [PyProof.Rows.lm_len_rep_flat, hle, sizeLine_eq]
    have a1 : k.toNat * xs.length ≤ 1000 * 1000 := Nat.mul_le_mul (by omega) hz
    omega
  have c0 : (decide (k < -(2 ^ 63)) || decide (k ≥ 2 ^ 63)) = false := by
    rw [decide_eq_false (by omega), decide_eq_false (by omega)] <;> rfl
  have c1 : (its.toArray.isEmpty || k == 1) = false := by
    rw [hi, Bool.false_or]
    exact beq_eq_false_iff_ne.mpr (by omega)
  have c2 : (decide (k ≤ 0) || its.toArray.isEmpty) = false := by
    rw [hi, Bool.or_false]
    exact decide_eq_false (by omega)
  have c4 : Builtin.Tuple.tupleTooMany (((its.toArray.size : Nat) : Int) * k) = false := by
    unfold Builtin.Tuple.tupleTooMany
    rw [sizeLine_eq]
    exact decide_eq_false (by omega)
  refine wpAny_binaryOp_repeat_ref (T := "tuple") (U := "int") (by decide) ⟨_, ho, rfl⟩ (fun s' => typeIs_int s' k t) noFill_tuple_mul F.fills_int_mul F.slot_int_rmul repeat_tuple F.slot_int_index.lookup
    (call_meets F.slot_int_rmul (typeIs_int s k t) F.entry_int_rmul (F.args_int_rmul_2 _ _) (int_rmul_tuple k t l its.toArray n dd sl)
      ⟨ho, rfl, ⟨_, ho, rfl⟩, call_meets F.slot_tuple_mul ⟨_, ho, rfl⟩ F.entry_tuple_mul (F.args_tuple_mul_2 _ _) (tuple_mulW l its.toArray n dd sl k t c0 c1 c2 (by omega) c4 (by rw [size_rep, List.size_toArray]; exact flen)) ⟨ho, ?_⟩⟩)
  rw [size_rep]
  exact lay_tup I (by rw [PyProof.Rows.lm_len_rep_flat, Nat.mul_comm]; exact Nat.le_trans hz2 (by decide)) (r.rep k.toNat) q
noncomputable def gMulT : PyData → PyData → Option PyData
  | .tuple xs, .int k => req (xs ≠ [] ∧ 0 ≤ k ∧ k ≤ 1000 ∧ xs.length ≤ 900) (some (.tuple (List.replicate k.toNat xs).flatten))
  | _, _ => none
theorem p_mulT {K : PySem.W.Frag} : Up2 K (rdP2 gMulT) (fun x y H Q => rRepT2 K x y H Q ∨ rRepT1 K x y H Q) := fun x y μ Qd v u H Q m rx ry ⟨a, b, z, ea, eb, ez, q⟩ w => by
  unfold gMulT at ez
  split at ez
  · next xs k =>
    obtain ⟨⟨hn, h1, h2, h3⟩, e⟩ := req_some ez
    cases e
    obtain ⟨rfl, p, vs, rfl, s, t⟩ := look_tup rx ea
    have l1 := t.length
    rw [look_int ry eb]
    by_cases hk : k = 1
    · subst hk
      refine .inr ⟨p, vs, rfl, same_seqT unhid s, .inl ⟨rfl, ?_⟩⟩
      have e1 : (List.replicate (1 : Int).toNat xs).flatten = xs := by simp
      rw [e1] at q
      exact w (.d (.tuple xs)) μ _ H (.refl _ _) m (.tup s t) q
    by_cases hk0 : k = 0
    · subst hk0
      refine .inr ⟨p, vs, rfl, same_seqT unhid s, .inr ⟨rfl, fun z => hn ?_, ?_⟩⟩
      · subst z
        cases t; rfl
      · have e1 : (List.replicate (0 : Int).toNat xs).flatten = [] := by simp
        rw [e1] at q
        exact wk_tup w m .nil q
    · refine .inl ⟨p, k, vs, rfl, rfl, same_seqT unhid s, fun z => hn ?_, by omega, h2, by omega, ?_, wk_tup w m (da_rep t _) q⟩
      · subst z
        cases t; rfl
      · have : vs.length * k.toNat ≤ 900 * 1000 := Nat.mul_le_mul (by omega) (by omega)
        omega
  · cases ez
theorem f_mulT (ha : FE X a fa) (hb : FE X b fb) : FE X (.BinOp a .Mult b pos) (fOp gMulT fa fb) := d_imp (d_op (op_repT2.or op_repT1) p_mulT ha hb) up_fOp
end
end FL
namespace FL
open PySem PySem.Spec PyProof.Rows L2 DL
section
variable {X : Cx}
end
end FL

namespace FL
open PySem PySem.Spec PyProof.Rows L2 DL
section
variable {X : Cx} {pos : Pos} {e : Expr} {fe : FT}
end
end FL

namespace FL
open PySem PySem.Spec PyProof.Rows L2 DL
section
variable {X : Cx} {pos : Pos} {e : Expr} {te : DT} {fe : FT}
end
end FL
namespace FL
open PySem PySem.Spec PyProof.Rows L2 DL
section
variable {X : Cx} {pos : Pos} {a b : Expr} {fa fb : FT}
end
section
variable {X : Cx}
end
end FL
namespace FL
open PySem PySem.Spec PyProof.Rows L2 DL
section
variable {X : Cx} {pos apos cpos : Pos} {e o : Expr} {es : List Expr} {fo : FT} {fr : FTA}
end
end FL

namespace FL
open PySem PySem.Spec PyProof.Rows L2 DL
section
variable {X : Cx} {tg e : Expr} {td : TE} {te : DT} {fe : FT} {K : PySem.W.Frag}
theorem da_key {H : Hp} : ∀ k : Key, Da K H (kV k) (kD k)
  | .inl i => .int i
  | .inr x => .str x
theorem ext_lock {μ : Mu} {H : Hp} {d : Addr} {o : Obj} {kvs : List (Key × V)} (h : hid μ H d = some (.dK kvs)) : Ext μ H μ (upd H d (.frz o (.dK kvs))) := fun b u e => by
  obtain ⟨e1, e2⟩ := hid_some e
  by_cases hb : b = d
  · subst hb
    rw [h] at e
    cases e
    exact .inr ⟨o, kvs, rfl, by rw [hid_of e2, upd_same]⟩
  · exact .inl (by rw [hid_of e2, upd_ne hb]; exact e1)
theorem RM.lock {μ : Mu} {H : Hp} {d : Addr} {o : Obj} {kvs : List (Key × V)} (m : RM K μ H) (h : hid μ H d = some (.dK kvs)) : RM K μ (upd H d (.frz o (.dK kvs))) := fun a c e => by
  have hne : a ≠ d := fun z => by subst z; rw [(hid_some h).2] at e; cases e
  exact (m a c e).mono (ext_lock h) (upd_ne hne)
end
end FL

namespace FL
open PySem PySem.Spec PyProof.Rows L2 DL
abbrev Tg2 := List (Nat ⊕ List Nat)
def ix2 : Tg2 → List Nat
  | [] => []
  | .inl i :: l => i :: ix2 l
  | .inr is :: l => is ++ ix2 l
section
variable {X : Cx} {pos : Pos}
end
end FL

namespace FL
open PySem PySem.Spec PyProof.Rows L2 DL
section
variable {X : Cx} {pos : Pos} {elt tg iter e : Expr} {ifs : List Expr} {scope : Scope} {own : List (Str × Nat)} {g : TG} {gd : DTG} {tt : DTT} {te : DT} {vs : List Nat}
end
section
variable {X : Cx} {pos : Pos} {elt e : Expr} {ifs : List Expr} {scope : Scope} {own : List (Str × Nat)} {g : TG} {gd : DTG} {gf : GF} {tt : FTT} {fe : FT} {fr : FTA} {vs : List Nat}
end
end FL

namespace FL
open PySem PySem.Spec PyProof.Rows L2 DL
section
variable {ε : FSt} {fa fb fc fe fo fi ff : FT} {fr : FTA} {t u : FTT} {f g : FS} {wi : FTI} {gf : GF}
theorem ap_var {i : Nat} : fVar i ε = match ε[i]? with
  | some (some (.d x)) => .ok (.val x) ε
  | some (some (.c _)) => .ok (.ref i) ε
  | some (some (.b _)) => .ok (.ref i) ε
  | _ => .no := rfl
theorem ap_c {x : PyData} : fC x ε = .ok (.val x) ε := rfl
theorem ap_un {g} : fUn g fa ε = (fa ε).bind fun x ε1 => ofO ε1 ((see ε1 x).bind g) := rfl
theorem ap_unV {g} : fUnV g fa ε = (fa ε).bind fun x ε1 => ofO ε1 ((seeV x).bind g) := rfl
theorem ap_op {g} : fOp g fa fb ε = (fa ε).bind fun x ε1 => (fb ε1).bind fun y ε2 => ofO ε2 ((see ε2 x).bind fun a => (see ε2 y).bind fun b => g a b) := rfl
theorem ap_opO {g} : fOpO g fa fb ε = (fa ε).bind fun x ε1 => (fb ε1).bind fun y ε2 => ofOL ε2 ((see ε2 x).bind fun a => (see ε2 y).bind fun b => g a b) := rfl
theorem ap_fn {g} : fFn g fr ε = (fr ε).bind fun xs ε1 => ofO ε1 ((sees ε1 xs).bind g) := rfl
theorem ap_nil : faNil ε = .ok [] ε := rfl
theorem ap_cons : faCons fa fr ε = (fa ε).bind fun x ε1 => (fr ε1).bind fun xs ε2 => .ok (x :: xs) ε2 := rfl
theorem ap_tr : fTr fe ε = (fe ε).bind fun x ε1 => ofB ε1 ((see ε1 x).bind gT) := rfl
theorem ap_b : fB fe ε = (fe ε).bind fun x ε1 => match x with
  | .val (.bool b) => .ok b ε1
  | _ => .no := rfl
theorem ap_tand : ftAnd t u ε = (t ε).bind fun b ε1 => if b = true then u ε1 else .ok false ε1 := rfl
theorem ap_tor : ftOr t u ε = (t ε).bind fun b ε1 => if b = true then .ok true ε1 else u ε1 := rfl
theorem ap_tnot : ftNot t ε = (t ε).bind fun b ε1 => .ok (!b) ε1 := rfl
theorem ap_and : fAndV fa fb ε = (fa ε).bind fun x ε1 => match (see ε1 x).bind gT with
  | some true => fb ε1
  | some false => .ok x ε1
  | none => .no := rfl
theorem ap_or : fOrV fa fb ε = (fa ε).bind fun x ε1 => match (see ε1 x).bind gT with
  | some true => .ok x ε1
  | some false => fb ε1
  | none => .no := rfl
theorem ap_not : fNotV fa ε = (fa ε).bind fun x ε1 => match (see ε1 x).bind gT with
  | some k => .ok (.val (.bool (!k))) ε1
  | none => .no := rfl
theorem ap_if : fIf t fa fb ε = (t ε).bind fun b ε1 => if b = true then fa ε1 else fb ε1 := rfl
theorem ap_chain {g g'} : fChain g g' fa fb fc ε = (fa ε).bind fun x ε1 => (fb ε1).bind fun y ε2 => match (see ε2 x).bind fun a => (see ε2 y).bind fun b => g a b with
  | some (.bool true) => (fc ε2).bind fun w ε3 => ofO ε3 ((see ε3 y).bind fun a => (see ε3 w).bind fun b => g' a b)
  | some (.bool false) => .ok (.val (.bool false)) ε2
  | _ => .no := rfl
theorem ap_tup : fTup fr ε = (fr ε).bind fun rs ε1 => ofO ε1 ((vals rs).bind fun xs => req (xs.length ≤ 1000) (some (.tuple xs))) := rfl
theorem ap_lst : fLst fr ε = (fr ε).bind fun rs ε1 => ofO ε1 ((vals rs).bind fun xs => req (xs.length ≤ 1000) (some (.list xs))) := rfl
theorem ap_lstO : fLstO fr ε = (fr ε).bind fun rs ε1 => ofOL ε1 ((vals rs).bind fun xs => req (xs.length ≤ 1000) (some (.list xs))) := rfl
theorem ap_dictO : fDictO ε = .ok (.own (.dct [])) ε := rfl
theorem ap_frz : frz fa ε = (fa ε).bind fun r ε1 => match r with
  | .own c => .ok (.val (cellD c)) ε1
  | .val x => .ok (.val x) ε1
  | .ref _ => .no := rfl
theorem ap_sl {fl fh} : fSl fe fl fh ε = (fe ε).bind fun x ε1 => (fl ε1).bind fun l ε2 => (fh ε2).bind fun u ε3 => ofO ε3 ((see ε3 x).bind (gCut l u)) := rfl
theorem ap_no : fNo ε = .ok none ε := rfl
theorem ap_part : fPart fe ε = (fe ε).bind fun x ε1 => match see ε1 x with
  | some (.int i) => .ok (some i) ε1
  | _ => .no := rfl
theorem ap_mut {g : GM} : fMut g fo fr ε = (fo ε).bind fun o ε1 => match o with
  | .ref i => (fr ε1).bind fun as ε2 => match getC ε1 i, getC ε2 i, vals as with
    | some (.lst _), some (.lst xs), some ys => match g xs ys with
      | some (z, xs') => .ok (.val z) (setC ε2 i (.lst xs'))
      | none => .no
    | _, _, _ => .no
  | _ => .no := rfl
theorem ap_call {F : Fn} : fCall F fr ε = (fr ε).bind (callR F) := rfl
theorem ap_callK {F : Fn} {p : {α : Type} → List α → List α} : fCallK F p fr ε = (fr ε).bind fun rs ε1 => callR F (p rs) ε1 := rfl
theorem ap_get : fGet fo fi ff ε = (fo ε).bind fun x ε1 => match (see ε1 x).bind kvsOf with
  | none => .no
  | some _ => (fi ε1).bind fun y ε2 => (ff ε2).bind fun z ε3 => match (see ε3 x).bind kvsOf, (see ε3 y).bind keyOf, seeV z with
    | some kvs, some k, some c => .ok (.val ((valD kvs k).getD c)) ε3
    | _, _, _ => .no := rfl
theorem ap_dict : fDict fe ε = (fe ε).bind fun r ε1 => match (seeV r).bind gDictO with
  | some c => .ok (.own c) ε1
  | none => .no := rfl
theorem ap_isi {T} : fIsi T fe ε = (fe ε).bind fun x ε1 => ofO ε1 ((seeV x).bind fun d => some (.bool ((kitB (kindOf d) T).getD false))) := rfl
theorem ap_rep : fRep fa fb ε = (fa ε).bind fun x ε1 => (fb ε1).bind fun y ε2 => repR (lstOf ε2 x) (see ε2 y) ε2 := rfl
theorem ap_listO : fListO fe ε = (fe ε).bind fun r ε1 => match (seeV r).bind itemsOf with
  | some xs => .ok (.own (.lst xs)) ε1
  | none => .no := rfl
theorem ap_seq : fiSeq fe ε = (fe ε).bind fun r ε1 => match (seeV r).bind itemsOf with
  | some xs => .ok xs ε1
  | none => .no := rfl
theorem ap_iargs {g} : fiArgs g fr ε = (fr ε).bind fun as ε1 => match (vals as).bind g with
  | some xs => .ok xs ε1
  | none => .no := rfl
theorem ap_lc {vs} : fLc wi gf t fe vs ε = (wi ε).bind fun ds ε1 => (fLcGo gf t fe vs ds [] ε1).bind fun acc ε2 => .ok (.val (.list acc)) ε2 := rfl
theorem ap_lcO {vs} : fLcO wi gf t fe vs ε = (wi ε).bind fun ds ε1 => (fLcGo gf t fe vs ds [] ε1).bind fun acc ε2 => .ok (.own (.lst acc)) ε2 := rfl
theorem ap_yes : fYes ε = .ok true ε := rfl
theorem ap_sq : fsSeq f g ε = (f ε).bind fun fl ε1 => match fl with
  | .nx => g ε1
  | fl => .ok fl ε1 := rfl
theorem ap_ret : fsRet fe ε = (fe ε).bind fun r ε1 => .ok (.rt r) ε1 := rfl
theorem ap_drop : fsDrop fe ε = (fe ε).bind fun _ ε1 => .ok .nx ε1 := rfl
theorem ap_sif : fsIf t f g ε = (t ε).bind fun b ε1 => if b = true then f ε1 else g ε1 := rfl
theorem ap_nx : fsNext ε = .ok .nx ε := rfl
theorem ap_bk : fsBrk ε = .ok .bk ε := rfl
theorem ap_ct : fsCnt ε = .ok .ct ε := rfl
theorem ap_asg {i} : fsAsg i fe ε = (fe ε).bind (setR i) := rfl
theorem ap_setR {i : Nat} {r : FR} : setR i r ε = match isBb ε i, frV r with
  | false, some x => .ok .nx (ε.set i (some x))
  | _, _ => .no := rfl
theorem ap_sfrz {i : Nat} : fsFrz i ε = match ε[i]? with
  | some (some (.c c)) => .ok .nx (ε.set i (some (.d (cellD c))))
  | some (some (.d _)) => .ok .nx ε
  | _ => .no := rfl
theorem ap_setI : fsSetI fo fi fe ε = (fe ε).bind fun r ε1 => (fo ε1).bind fun o ε2 => (fi ε2).bind fun k ε3 => setI o (see ε3 k) r ε3 := rfl
theorem ap_setK : fsSetK fo fi fe ε = (fe ε).bind fun r ε1 => (fo ε1).bind fun o ε2 => (fi ε2).bind fun k ε3 => setK o (see ε3 k) r ε3 := rfl
theorem ap_for : fsFor wi gf f ε = (wi ε).bind fun ds ε1 => fsGo gf f ds ε1 := rfl
theorem ap_par {i j} : fsPar i j fr ε = (fr ε).bind fun rs ε1 => match rs with
  | [x, y] => setR2 i j x y ε1
  | _ => .no := rfl
theorem ap_asgT {is} : fsAsgT is fe ε = (fe ε).bind fun r ε1 => match (seeV r).bind fun d => tgT is d ε1 with
  | some ε2 => .ok .nx ε2
  | none => .no := rfl
theorem ap_run {n : Nat} {vs : List FV} : runF n f vs = fin vs (f (startF n vs)) := rfl
theorem ap_see {x} : see ε (.val x) = some x := rfl
theorem ap_seeo {c} : see ε (.own c) = some (cellD c) := rfl
theorem ap_seer {i} : see ε (.ref i) = (getC ε i).map cellD := rfl
theorem ap_getC {i : Nat} : getC ε i = match ε[i]? with
  | some (some (.c c)) => some c
  | some (some (.b c)) => some c
  | _ => none := rfl
theorem ap_setC {i : Nat} {c : Cell} : setC ε i c = match ε[i]? with
  | some (some (.c _)) => ε.set i (some (.c c))
  | some (some (.b _)) => ε.set i (some (.b c))
  | _ => ε := rfl
theorem ap_sees0 : sees ε [] = some [] := rfl
theorem ap_sees1 {x : FR} {r : List FR} : sees ε (x :: r) = (see ε x).bind fun a => (sees ε r).map (a :: ·) := rfl
theorem ap_tgN {i d} : tgN i d ε = if isBb ε i = true then none else some (ε.set i (some (.d d))) := rfl
theorem ap_tgT {is d} : tgT is d ε = match d with
  | .tuple xs => if xs.length = is.length then setAllF is xs ε else none
  | _ => none := rfl
end
/-- borrowed -/
def bb : Option FV → Bool
  | some (.b _) => true
  | _ => false
theorem ap_bb0 {x : Option FV} {ε : FSt} : isBb (x :: ε) 0 = bb x := by
  cases x with
  | none => rfl
  | some v => cases v <;> rfl
theorem ap_bbs {x : Option FV} {ε : FSt} {i : Nat} : isBb (x :: ε) (i + 1) = isBb ε i := by
  unfold isBb; rw [List.getElem?_cons_succ]
theorem ap_bbn : bb none = false := rfl
theorem ap_bbd {x : PyData} : bb (some (.d x)) = false := rfl
theorem ap_bbc {x : Cell} : bb (some (.c x)) = false := rfl
theorem ap_bbb {x : Cell} : bb (some (.b x)) = true := rfl
theorem fin_val {vs : List FV} {x : PyData} {ε : FSt} : fin vs (.ok (.rt (.val x)) ε) = match bors vs ε with
    | some bs => .ok (.val x) bs
    | none => .no := rfl
theorem fin_own {vs : List FV} {c : Cell} {ε : FSt} : fin vs (.ok (.rt (.own c)) ε) = match bors vs ε with
    | some bs => .ok (.own c) bs
    | none => .no := rfl
theorem fin_ref {vs : List FV} {i : Nat} {ε : FSt} : fin vs (.ok (.rt (.ref i)) ε) = match ε[i]?, bors vs ε with
    | some (some (.c c)), some bs => .ok (.own c) bs
    | _, _ => .no := rfl
theorem fin_nx {vs : List FV} {ε : FSt} : fin vs (.ok .nx ε) = match bors vs ε with
    | some bs => .ok (.val .none) bs
    | none => .no := rfl
theorem bors_nil {ε : FSt} : bors [] ε = some [] := rfl
theorem bors_d {x : PyData} {vs : List FV} {o} {ε : FSt} : bors (.d x :: vs) (o :: ε) = bors vs ε := rfl
theorem bors_b {x c : Cell} {vs : List FV} {ε : FSt} : bors (.b x :: vs) (some (.b c) :: ε) = (bors vs ε).map (c :: ·) := rfl
/-- a def's answer: data, nothing borrowed -/
abbrev tell (x : PyData) : FO := .ok (.val x) []
section
variable {i j : Int} {a b : PyData} {xs ys : List PyData} {l u : Option Int}
theorem ap_glt : gLt (.int i) (.int j) = some (.bool (decide (i < j))) := rfl
theorem ap_gle : gLe (.int i) (.int j) = some (.bool (decide (i ≤ j))) := rfl
theorem ap_ggt : gGt (.int i) (.int j) = some (.bool (decide (j < i))) := rfl
theorem ap_gge : gGe (.int i) (.int j) = some (.bool (decide (j ≤ i))) := rfl
theorem ap_gsub : FL.gSub (.int i) (.int j) = some (.int (i - j)) := rfl
theorem ap_gadd : FL.gAdd (.int i) (.int j) = some (.int (i + j)) := rfl
theorem ap_gneg : gNeg (.int i) = some (.int (-i)) := rfl
theorem ap_gix : gIx a (.int i) = (itemsOf a).bind fun xs => atI xs i := rfl
theorem ap_cutl : gCut l u (.list xs) = some (.list (DL.cutD xs l u)) := rfl
theorem ap_cutt : gCut l u (.tuple xs) = some (.tuple (DL.cutD xs l u)) := rfl
theorem ap_gtup : gTuple [a] = (itemsOf a).map .tuple := rfl
theorem ap_glist : gList [a] = (itemsOf a).map .list := rfl
theorem ap_glen : gLen [a] = (itemsOf a).map fun xs => .int xs.length := rfl
theorem ap_gint : gInt [.int i] = some (.int i) := rfl
theorem ap_gintb {k : Bool} : gInt [.bool k] = some (.int (if k then 1 else 0)) := rfl
theorem ap_gabs : gAbs [.int i] = some (.int (if i < 0 then -i else i)) := rfl
theorem ap_gmax : gMax2 [.int i, .int j] = some (.int (if j > i then j else i)) := rfl
theorem ap_gmin : gMin2 [.int i, .int j] = some (.int (if j < i then j else i)) := rfl
theorem ap_isN : gIsN a .none = some (.bool (isNone a)) := rfl
theorem ap_notN : gNotN a .none = some (.bool (!isNone a)) := rfl
theorem ap_geq : gEq a b = (eqP a b).map .bool := rfl
theorem ap_gne : gNe a b = (eqP a b).map fun z => .bool (!z) := rfl
theorem ap_eqi : eqP (.int i) (.int j) = some (decide (i = j)) := rfl
theorem ap_eqb {i j : Bool} : eqP (.bool i) (.bool j) = some (decide (i = j)) := rfl
theorem ap_eqs {i j : Str} : eqP (.str i) (.str j) = some (decide (i = j)) := rfl
theorem ap_iol : itemsOf (.list xs) = some xs := rfl
theorem ap_iot : itemsOf (.tuple xs) = some xs := rfl
theorem ap_gtn : gT .none = some false := rfl
theorem ap_gtb {k : Bool} : gT (.bool k) = some k := rfl
theorem ap_gti : gT (.int i) = some (i != 0) := rfl
theorem ap_gtl : gT (.list xs) = some (!xs.isEmpty) := rfl
theorem ap_gtt : gT (.tuple xs) = some (!xs.isEmpty) := rfl
theorem ap_isn0 : isNone .none = true := rfl
theorem ap_isni : isNone (.int i) = false := rfl
theorem ap_isnl : isNone (.list xs) = false := rfl
theorem ap_isnt : isNone (.tuple xs) = false := rfl
theorem ap_cellL : cellD (.lst xs) = .list xs := rfl
theorem ap_revl : gRev (.list xs) = some (.list xs.reverse) := rfl
theorem ap_revt : gRev (.tuple xs) = some (.tuple xs.reverse) := rfl
theorem ap_enum : gEnum [.list xs] = some (enumD 0 xs) := rfl
theorem ap_zipl : gZip [.list xs, .list ys] = some (zipD xs ys) := rfl
theorem ap_zipt : gZip [.tuple xs, .tuple ys] = some (zipD xs ys) := rfl
end
def runT (gf : GF) (fB : FS) (d : PyData) : FS := fun ε => match gf d ε with
  | none => .no
  | some ε1 => fB ε1
theorem go_nx {gf : GF} {fB : FS} {d : PyData} {ds : List PyData} {ε ε2 : FSt} (h : runT gf fB d ε = .ok .nx ε2) : fsGo gf fB (d :: ds) ε = fsGo gf fB ds ε2 := by
  unfold runT at h
  rw [fsGo]
  cases e : gf d ε with
  | none => simp only [e] at h; cases h
  | some ε1 => simp only [e] at h ⊢; simp only [h, R.bind_ok]
theorem go_rt {gf : GF} {fB : FS} {d : PyData} {ds : List PyData} {ε ε2 : FSt} {r : FR} (h : runT gf fB d ε = .ok (.rt r) ε2) : fsGo gf fB (d :: ds) ε = .ok (.rt r) ε2 := by
  unfold runT at h
  rw [fsGo]
  cases e : gf d ε with
  | none => simp only [e] at h; cases h
  | some ε1 => simp only [e] at h ⊢; simp only [h, R.bind_ok]
theorem ap_runT {gf : GF} {fB : FS} {d : PyData} {ε : FSt} : runT gf fB d ε = match gf d ε with
  | none => .no
  | some ε1 => fB ε1 := rfl
theorem lc_pure {gf : GF} {tt : FTT} {fe : FT} {vs : List Nat} {ε : FSt} {f : PyData → PyData} {p : PyData → Bool} : ∀ (ds acc : List PyData), acc.length + ds.length ≤ 1000000 →
    (∀ d ∈ ds, ∃ ε1, gf d (wipeF ε vs) = some ε1 ∧ restF ε ε1 vs = ε ∧ tt ε1 = .ok (p d) ε1 ∧ (p d = true → fe ε1 = .ok (.val (f d)) ε1)) → fLcGo gf tt fe vs ds acc ε = .ok (acc ++ (ds.filter p).map f) ε
  | [], acc, hl, h => by simp [fLcGo]
  | d :: ds, acc, hl, h => by
    obtain ⟨ε1, h1, h2, h3, h4⟩ := h d List.mem_cons_self
    have ih := fun acc hl => lc_pure ds acc hl fun e he => h e (List.mem_cons_of_mem _ he)
    unfold fLcGo
    simp only [List.length_cons] at hl
    simp only [h1, h3, R.bind_ok]
    cases hp : p d with
    | false => simp only [hp, Bool.false_eq_true, if_false, h2, List.filter_cons_of_neg, not_false_eq_true]; exact ih acc (by omega)
    | true =>
      simp only [hp, if_true, h4 hp, R.bind_ok, h2, List.filter_cons_of_pos, List.map_cons]
      rw [if_pos (by omega), ih (acc ++ [f d]) (by simp; omega)]
      simp
theorem lc_all {gf : GF} {fe : FT} {vs : List Nat} {ε : FSt} (f : PyData → PyData) {ds : List PyData} (hl : ds.length ≤ 1000000)
    (h : ∀ d ∈ ds, ∃ ε1, gf d (wipeF ε vs) = some ε1 ∧ restF ε ε1 vs = ε ∧ fe ε1 = .ok (.val (f d)) ε1) : fLcGo gf fYes fe vs ds [] ε = .ok (ds.map f) ε := by
  rw [lc_pure (f := f) (p := fun _ => true) ds [] (by simpa using hl) (fun d hd => by obtain ⟨ε1, a, b, c⟩ := h d hd; exact ⟨ε1, a, b, rfl, fun _ => c⟩), List.filter_eq_self.mpr (by simp)]
  rfl
theorem lc_some {gf : GF} {tt : FTT} {fe : FT} {vs : List Nat} {ε : FSt} (f : PyData → PyData) (p : PyData → Bool) {ds : List PyData} (hl : ds.length ≤ 1000000)
    (h : ∀ d ∈ ds, ∃ ε1, gf d (wipeF ε vs) = some ε1 ∧ restF ε ε1 vs = ε ∧ tt ε1 = .ok (p d) ε1 ∧ (p d = true → fe ε1 = .ok (.val (f d)) ε1)) : fLcGo gf tt fe vs ds [] ε = .ok ((ds.filter p).map f) ε := by
  rw [lc_pure (f := f) (p := p) ds [] (by simpa using hl) h]; simp
end FL

namespace FL
open PySem PySem.Spec PyProof.Rows L2 DL
section
variable {ε : FSt} {fr : FTA} {r : FR} {rs : List FR}
theorem ap_parN {is} : fsParN is fr ε = (fr ε).bind fun rs ε1 => if rs.length = is.length then match setAllR is rs ε1 with
  | some ε2 => .ok .nx ε2
  | none => .no else .no := rfl
theorem ap_sar0 : setAllR [] [] ε = some ε := rfl
theorem ap_sar1 {i : Nat} {is : List Nat} : setAllR (i :: is) (r :: rs) ε = if isBb ε i = true then none else (frV r).bind fun x => setAllR is rs (ε.set i (some x)) := rfl
theorem ap_frv {d : PyData} : frV (.val d) = some (.d d) := rfl
theorem ap_fro {c : Cell} : frV (.own c) = some (.c c) := rfl
theorem ap_call1 {F : Fn} {fa : FT} : fCall1O F fa ε = (fa ε).bind (call1O F) := rfl
theorem ap_c1o {F : Fn} {c : Cell} : call1O F (.own c) ε = match F [.b c] with
  | .ok (.val x) [_] => .ok (.val x) ε
  | .ok (.own c') [_] => .ok (.own c') ε
  | _ => .no := rfl
theorem ap_view {f : FT} : fView f ε = match f (frzAll ε) with
  | .ok (.val x) _ => if flatT x = true then .ok (.val x) ε else .no
  | _ => .no := rfl
theorem ap_frza0 : frzAll [] = [] := rfl
theorem ap_frza {v : Option FV} : frzAll (v :: ε) = frzV v :: frzAll ε := rfl
theorem ap_frzc {c : Cell} : frzV (some (.c c)) = some (.d (cellD c)) := rfl
theorem ap_frzb {c : Cell} : frzV (some (.b c)) = some (.d (cellD c)) := rfl
theorem ap_frzd {d : PyData} : frzV (some (.d d)) = some (.d d) := rfl
theorem ap_frzn : frzV none = none := rfl
end
end FL

namespace FL
open PySem PySem.Spec PyProof.Rows L2 DL
section
variable {X : Cx} {pos : Pos} {a b : Expr} {fa fb : FT}
end
end FL

namespace FL
open PySem PySem.Spec PyProof.Rows L2 DL
section
variable {P : Program} {w : World}
end
section
variable {X : Cx} {e : Expr} {fr : FTA}
end
end FL

namespace FL
open PySem PySem.Spec PyProof.Rows L2 DL
section
variable {P : Program} {w : World} {A : Around}
end
section
variable {X : Cx} {e e2 : Expr} {fr : FTA}
end
end FL

namespace FL
open PySem PySem.Spec PyProof.Rows L2 DL
section
variable {X : Cx}
variable {pos apos cpos : Pos} {e o : Expr} {fe fo : FT} {es : List Expr} {fr : FTA}
end
end FL

namespace FL
open PySem PySem.Spec PyProof.Rows L2 DL
section
variable {X : Cx} {a b : Expr} {fr : FTA}
end
end FL

namespace FL
open PySem PySem.Spec PyProof.Rows L2 DL
section
variable {X : Cx} {pos : Pos} {e : Expr} {te : DT} {fe : FT}
def sAugI (f : Int → Int → Int) (i : Nat) (te : DT) : DTS := fun D δ μ => ∃ x, δ[i]? = some (some (.d (.int x))) ∧ te δ μ fun y μ1 => ∃ j, y = .d (.int j) ∧ D.nx (δ.set i (some (.d (.int (f x j))))) μ1
theorem s_augI {f : Int → Int → Int} {op : Operator} {i : Nat} {x : Str} {pos' : Pos} (hp : PIp X op (ipI f)) (hN : X.N.Nodup) (hi : X.N[i]? = some x) (hx : Loc X.env.scope x) (he : DE X e te) (hf : X.fn x = true ∨ X.env.scope.names.lookup x = some .local) :
    DS X (.AugAssign (.Name x pos') op e pos) (sAugI f i te) := ps_imp (ps_aug hN hi hx he hp hf) fun D σ H ⟨δ, μ, Dd, rs, rm, ⟨n, hn, q⟩, w⟩ => by
  obtain ⟨v, h1, h2⟩ := rs.2 i _ hn
  cases (show Da X.K (hid μ H) v (.int n) from h2)
  refine ⟨_, h1, up_use rs rm q fun y μ1 v H1 e1 m1 r1 ⟨j, hj, q1⟩ => ?_⟩
  subst hj
  cases (show Da X.K (hid μ1 H1) v (.int j) from r1)
  refine ⟨n, j, rfl, rfl, w.nx _ μ1 _ H1 e1 m1 ((rs.mono e1).set (show RV X.K μ1 H1 (.int (f n j)) (.d (.int (f n j))) from .int _) i) q1⟩
def fsAugI (f : Int → Int → Int) (i : Nat) (fe : FT) : FS := fun ε => match ε[i]? with
  | some (some (.d (.int x))) => (fe ε).bind fun r ε1 => match r with
    | .val (.int y) => setR i (.val (.int (f x y))) ε1
    | _ => .no
  | _ => .no
theorem fs_augI {f : Int → Int → Int} {op : Operator} {i : Nat} {x : Str} {pos' : Pos} (hp : PIp X op (ipI f)) (hN : X.N.Nodup) (hi : X.N[i]? = some x) (hx : Loc X.env.scope x) (he : FE X e fe) (hf : X.fn x = true ∨ X.env.scope.names.lookup x = some .local) :
    FSt1 X (.AugAssign (.Name x pos') op e pos) (fsAugI f i fe) := s_imp (s_augI hp hN hi hx he hf) fun D δ μ ⟨ε, m, h⟩ => by
  unfold fsAugI at h
  split at h
  · next n e0 =>
    refine ⟨n, m.dat i _ e0, useSE m h fun r ε1 v μ1 t p h1 => ?_⟩
    split at h1
    · next y =>
      exact ⟨y, p, setR_fit (r := .val (.int (f n y))) m t rfl h1⟩
    · exact h1.elim
  · exact h.elim
abbrev fsAugSub := fsAugI fun i j => i - j
abbrev fsAugAdd := fsAugI fun i j => i + j
theorem fs_aug_add {i : Nat} {x : Str} {pos' : Pos} (hN : X.N.Nodup) (hi : X.N[i]? = some x) (hx : Loc X.env.scope x) (he : FE X e fe) (hf : X.fn x = true ∨ X.env.scope.names.lookup x = some .local := by first | exact .inl rfl | exact .inr rfl | assumption) :
    FSt1 X (.AugAssign (.Name x pos') .Add e pos) (fsAugAdd i fe) := fs_augI ip_add hN hi hx he hf
end
section
variable {X : Cx} {e : Expr}
end
end FL

namespace FL
open PySem PySem.Spec PyProof.Rows L2 DL
section
variable {X : Cx} {tg : Expr}
end
section
variable {X : Cx} {tg a b : Expr} {fr : FTA} {pos : Pos}
end
end FL

namespace FL
open PySem PySem.Spec PyProof.Rows L2 DL
inductive PDT (K : PySem.W.Frag) (H : Hp) : List (List Key × V) → List (List Key × PyData) → Prop
  | nil : PDT K H [] []
  | cons {k : List Key} {v : V} {d : PyData} {ks : List (List Key × V)} {kvs : List (List Key × PyData)} : Da K H v d → PDT K H ks kvs → PDT K H ((k, v) :: ks) ((k, d) :: kvs)
abbrev KVsT := List (List Key × PyData)
def putT (kvs : KVsT) (k : List Key) (d : PyData) : KVsT := if (kvs.any fun kv => decide (kv.1 = k)) = true then kvs.map (fun kv => if kv.1 = k then (kv.1, d) else kv) else kvs ++ [(k, d)]
section
variable {K : PySem.W.Frag} {H : Hp}
theorem PDT.keys : ∀ {ks : List (List Key × V)} {kvs : KVsT}, PDT K H ks kvs → ks.map (·.1) = kvs.map (·.1)
  | _, _, .nil => rfl
  | _, _, .cons _ t => by rw [List.map_cons, List.map_cons, t.keys]
theorem PDT.das : ∀ {ks : List (List Key × V)} {kvs : KVsT}, PDT K H ks kvs → DaAll K H (ks.map (·.2)) (kvs.map (·.2))
  | _, _, .nil => .nil
  | _, _, .cons a t => .cons a t.das
theorem PDT.len : ∀ {ks : List (List Key × V)} {kvs : KVsT}, PDT K H ks kvs → ks.length = kvs.length
  | _, _, .nil => rfl
  | _, _, .cons _ t => by rw [List.length_cons, List.length_cons, t.len]
theorem PDT.mono {H' : Hp} (e : Sm H H') : ∀ {ks : List (List Key × V)} {kvs : KVsT}, PDT K H ks kvs → PDT K H' ks kvs
  | _, _, .nil => .nil
  | _, _, .cons a t => .cons (a.mono e) (t.mono e)
theorem PDT.anyk (k : List Key) : ∀ {ks : List (List Key × V)} {kvs : KVsT}, PDT K H ks kvs → (ks.any fun kv => decide (kv.1 = k)) = kvs.any fun kv => decide (kv.1 = k)
  | _, _, .nil => rfl
  | _, _, .cons _ t => by rw [List.any_cons, List.any_cons, t.anyk k]
theorem PDT.mapk {k : List Key} {v : V} {d : PyData} (h : Da K H v d) : ∀ {ks : List (List Key × V)} {kvs : KVsT}, PDT K H ks kvs → PDT K H (ks.map fun kv => if kv.1 = k then (kv.1, v) else kv) (kvs.map fun kv => if kv.1 = k then (kv.1, d) else kv)
  | _, _, .nil => .nil
  | _, _, .cons (k := k') a t => by
    rw [List.map_cons, List.map_cons]
    by_cases e : k' = k
    · simp only [e, if_true]; exact .cons h (by simpa using t.mapk h)
    · simp only [e, if_false]; exact .cons a (by simpa using t.mapk h)
theorem PDT.app : ∀ {ks ls : List (List Key × V)} {kvs lvs : KVsT}, PDT K H ks kvs → PDT K H ls lvs → PDT K H (ks ++ ls) (kvs ++ lvs)
  | _, _, _, _, .nil, h => h
  | _, _, _, _, .cons a t, h => .cons a (t.app h)
theorem PDT.put {ks : List (List Key × V)} {kvs : KVsT} (p : PDT K H ks kvs) {k : List Key} {v : V} {d : PyData} (h : Da K H v d) : PDT K H (putK ks k v) (putT kvs k d) := by
  unfold putK putT
  rw [p.anyk k]
  split
  · exact p.mapk h
  · exact p.app (.cons h .nil)
end

section
variable {X : Cx} {pins : List (Addr × Obj)} {σ : L2.St} {H : Hp} {s : Shared} {Q : VK}
end
section
variable {X : Cx} {pos : Pos}
end

section
variable {X : Cx} {pos tpos cpos p : Pos} {o b e : Expr} {to ti : DT} {fo fi fe : FT} {xt : Str}
end

section
variable {X : Cx} {pos p : Pos} {x : Str} {e : Expr} {fo : FT}
end
end FL

namespace FL
open PySem PySem.Spec PyProof.Rows L2 DL
section
variable {X : Cx} {e : Expr} {f : FT}
end
end FL

namespace FL
open PySem PySem.Spec PyProof.Rows L2 DL
section
variable {X : Cx} {pos tpos cpos p : Pos} {o b e : Expr} {to : DT} {fo fi fe : FT} {xt : Str}
end
end FL

namespace FL
open PySem PySem.Spec PyProof.Rows L2 DL
section
variable {X : Cx} {pos : Pos} {a b c e : Expr} {fa fb fc fe : FT}
end
section
variable {X : Cx} {pos p p2 pos2 : Pos} {a : Expr} {ta : DT} {fa : FT}
end
theorem _root_.L2.Room.un65 {k : Nat} {A : Around} (r : Room k A) : A.units + 65 < cLine := by have := r.un; omega
end FL

namespace FL
open PySem PySem.Spec PyProof.Rows L2 DL
abbrev XS := List (List Int × Addr × V)
abbrev KVsI := List (List Int × PyData)
def zx : XS → List Value → List (List Int × Addr × Value) := List.zipWith fun x v => (x.1, x.2.1, v)
def valX (xs : XS) (k : List Int) : Option V := (xs.find? fun x => decide (x.1 = k)).map (·.2.2)
def valI (kvs : KVsI) (k : List Int) : Option PyData := (kvs.find? fun x => decide (x.1 = k)).map (·.2)
def putX (xs : XS) (k : List Int) (b : Addr) (v : V) : XS := if (xs.any fun x => decide (x.1 = k)) = true then xs.map (fun x => if x.1 = k then (x.1, x.2.1, v) else x) else xs ++ [(k, b, v)]
def putI (kvs : KVsI) (k : List Int) (d : PyData) : KVsI := if (kvs.any fun x => decide (x.1 = k)) = true then kvs.map (fun x => if x.1 = k then (x.1, d) else x) else kvs ++ [(k, d)]
theorem items_int {P : Program} {w : World} : ∀ {ks : List Int} {us : List Value}, Vals (ks.map V.int) us → ItemsAre (intKind P w) ks us
  | [], _, r => by rw [List.map_nil] at r; cases r; exact .nil
  | k :: ks, _, r => by
    rw [List.map_cons] at r
    cases r with
    | cons h t =>
      obtain ⟨t0, rfl⟩ := h
      exact .cons (by show Value.isInt k (.int k t0) = true; simp [Value.isInt]) (items_int t)
theorem zx_keys : ∀ {xs : XS} {vs : List Value}, Vals (xs.map (·.2.2)) vs → (zx xs vs).map (·.1) = xs.map (·.1)
  | [], _, r => by cases r; rfl
  | x :: xs, _, r => by
    rw [List.map_cons] at r
    cases r with
    | cons h t =>
      have ih := zx_keys t
      unfold zx at ih ⊢
      rw [List.zipWith_cons_cons, List.map_cons, ih, List.map_cons]
theorem zx_len {xs : XS} {vs : List Value} (r : Vals (xs.map (·.2.2)) vs) : (zx xs vs).length = xs.length := by
  have := congrArg List.length (zx_keys r)
  simpa using this
theorem zx_mem : ∀ {xs : XS} {vs : List Value}, ∀ z ∈ zx xs vs, ∃ x ∈ xs, z.1 = x.1 ∧ z.2.1 = x.2.1
  | [], _, z, h => by simp [zx] at h
  | _ :: _, [], z, h => by simp [zx] at h
  | x :: xs, v :: vs, z, h => by
    unfold zx at h
    rw [List.zipWith_cons_cons] at h
    rcases List.mem_cons.mp h with rfl | h
    · exact ⟨x, List.mem_cons_self, rfl, rfl⟩
    · obtain ⟨y, hy, e⟩ := zx_mem z h
      exact ⟨y, List.mem_cons_of_mem _ hy, e⟩
theorem zx_val (k : List Int) : ∀ {xs : XS} {vs : List Value}, Vals (xs.map (·.2.2)) vs → RelO (valX xs k) ((atKey (zx xs vs) k).map (·.2))
  | [], _, r => by cases r; exact True.intro
  | x :: xs, _, r => by
    rw [List.map_cons] at r
    cases r with
    | @cons _ u _ us h t =>
      have ih := zx_val k t
      unfold valX atKey zx at ih ⊢
      rw [List.zipWith_cons_cons, List.find?_cons, List.find?_cons]
      by_cases e : x.1 = k
      · simp only [e, decide_true, Option.map_some]
        exact h
      · simp only [e, decide_false]
        exact ih
theorem zx_any (k : List Int) : ∀ {xs : XS} {vs : List Value}, Vals (xs.map (·.2.2)) vs → (atKey (zx xs vs) k).isSome = xs.any fun x => decide (x.1 = k)
  | [], _, r => by cases r; rfl
  | x :: xs, _, r => by
    rw [List.map_cons] at r
    cases r with
    | cons h t =>
      have ih := zx_any k t
      unfold atKey zx at ih ⊢
      rw [List.zipWith_cons_cons, List.find?_cons, List.any_cons]
      by_cases e : x.1 = k
      · simp [e]
      · simp only [e, decide_false, Bool.false_or]
        exact ih
theorem zx_repl (k : List Int) {y : V} {u : Value} (ru : RelV y u) : ∀ {xs : XS} {vs : List Value}, Vals (xs.map (·.2.2)) vs → ∃ vs', Vals ((xs.map fun x => if x.1 = k then (x.1, x.2.1, y) else x).map (·.2.2)) vs' ∧ (zx xs vs).map (putAt k u) = zx (xs.map fun x => if x.1 = k then (x.1, x.2.1, y) else x) vs'
  | [], _, r => by cases r; exact ⟨[], .nil, rfl⟩
  | x :: xs, _, r => by
    rw [List.map_cons] at r
    cases r with
    | @cons _ w _ ws h t =>
      obtain ⟨vs', r', e'⟩ := zx_repl k ru t
      by_cases e : x.1 = k
      · refine ⟨u :: vs', ?_, ?_⟩
        · rw [List.map_cons, List.map_cons, if_pos e]
          exact .cons ru r'
        · unfold zx at e' ⊢
          rw [List.zipWith_cons_cons, List.map_cons, e', List.map_cons, if_pos e, List.zipWith_cons_cons]
          congr 1
          simp [putAt, e]
      · refine ⟨w :: vs', ?_, ?_⟩
        · rw [List.map_cons, List.map_cons, if_neg e]
          exact .cons h r'
        · unfold zx at e' ⊢
          rw [List.zipWith_cons_cons, List.map_cons, e', List.map_cons, if_neg e, List.zipWith_cons_cons]
          congr 1
          simp [putAt, e]
theorem vals_snoc {xs : List V} {us : List Value} {y : V} {u : Value} (r : Vals xs us) (h : RelV y u) : Vals (xs ++ [y]) (us ++ [u]) := r.append (.cons h .nil)
theorem zx_put (k : List Int) (b : Addr) {y : V} {u : Value} (ru : RelV y u) {xs : XS} {vs : List Value} (r : Vals (xs.map (·.2.2)) vs) : ∃ vs', Vals ((putX xs k b y).map (·.2.2)) vs' ∧ storedH (zx xs vs) k b u = zx (putX xs k b y) vs' := by
  have hk := zx_any k r
  unfold putX storedH
  rw [hk]
  by_cases c : (xs.any fun x => decide (x.1 = k)) = true
  · rw [if_pos c, if_pos c]
    exact zx_repl k ru r
  · rw [if_neg c, if_neg c]
    refine ⟨vs ++ [u], by rw [List.map_append]; exact vals_snoc r ru, ?_⟩
    unfold zx
    rw [List.zipWith_append (by have := r.length; simpa using this)]
    rfl
section
variable {X : Cx} {pins : List (Addr × Obj)} {σ : L2.St} {H : Hp} {s : Shared} {a b : Addr} {xs : XS} {k : List Int}
theorem key_it (I : Inv X pins σ H s) (h : SqT X.K H b (k.map V.int)) : (tupleKind (intKind X.prog X.w)).is s.heap k b := by
  obtain ⟨its, rv, ⟨o, ho, hc, n, hd⟩, _⟩ := I.tuple h
  exact ⟨o, its.toArray, n, ho, hc, hd, by simpa using items_int rv⟩
theorem dti_of (I : Inv X pins σ H s) (e : H a = some (dtiO a xs)) (hk : ∀ x ∈ xs, SqT X.K H x.2.1 (x.1.map V.int)) :
    xs.length ≤ sizeLine ∧ (a == sysModules) = false ∧ ∃ vs, Vals (xs.map (·.2.2)) vs ∧ s.heap.DictOfH (tupleKind (intKind X.prog X.w)) a (zx xs vs) := by
  obtain ⟨⟨z, y, nd, vs, o, es, ep, rv, h1, h2, h3, h4⟩, _⟩ := (show ObjOk X.prog X.w H s.heap a (dtiO a xs) from I.hok a _ e)
  refine ⟨z, y, vs, rv, o, es, ep, h1, h2, h3, ?_, fun q hq => ?_, by rw [zx_keys rv]; exact nd⟩
  · rw [h4]
    unfold zx
    rw [List.map_zipWith]
    rfl
  · obtain ⟨x, hx, e1, e2⟩ := zx_mem q hq
    rw [e1, e2]
    exact key_it I (hk x hx)
theorem dti_ok {P : Program} {w : World} {H' : Hp} {h' : Heap} {vs : List Value} (z : xs.length ≤ sizeLine) (hd : (a == sysModules) = false) (rv : Vals (xs.map (·.2.2)) vs) (dd : h'.DictOfH (tupleKind (intKind P w)) a (zx xs vs)) : ObjOk P w H' h' a (dtiO a xs) := by
  obtain ⟨o, es, ep, h1, h2, h3, h4, _, h5⟩ := dd
  refine ⟨⟨z, hd, by rw [← zx_keys rv]; exact h5, vs, o, es, ep, rv, h1, h2, h3, ?_⟩, ⟨o, h1⟩, fun g1 g2 ⟨k1, k2, k3, vs', o', es', ep', k4, k5, k6⟩ hg => ⟨k1, k2, k3, vs', o', es', ep', k4, hg _ k5, k6⟩⟩
  rw [h4]
  unfold zx
  rw [List.map_zipWith]
  rfl
theorem putX_len (y : V) : (putX xs k b y).length ≤ xs.length + 1 := by
  unfold putX
  split
  · rw [List.length_map]; omega
  · rw [List.length_append]; exact Nat.le_refl _
end
def KeysI (K : PySem.W.Frag) (H : Hp) (xs : XS) : Prop := ∀ x ∈ xs, SqT K H x.2.1 (x.1.map V.int)
def rInI (K : PySem.W.Frag) : R2 := fun x y H Q => ∃ a b xs k, x = .ref b ∧ y = .ref a ∧ H a = some (dtiO a xs) ∧ KeysI K H xs ∧ SqT K H b (k.map V.int) ∧ Q (.bl (valX xs k).isSome) H
theorem op_inI {X : Cx} (hu : X.A.units + 1 < cLine) : OpR X (compareOp .In) (rInI X.K) := by
  intro pins s σ H x y v u Q I rx ry h
  obtain ⟨a, b, xs, k, rfl, rfl, e, hk, hb, q⟩ := h
  cases rx
  cases ry
  obtain ⟨_, hd, vs, rv, dd⟩ := dti_of I e hk
  refine wpAny_in_heap (tupleKind_room_in1 hu) (key_it I hb) hd dd ?_
  have h1 := (zx_val k rv).isSome_eq
  rw [Option.isSome_map] at h1
  rw [← h1]
  exact ⟨.bl _, H, I.tok _, rfl, q⟩
def rSetI (K : PySem.W.Frag) : TSet := fun o i v H Q => ∃ a b xs k, o = .ref a ∧ i = .ref b ∧ H a = some (dtiO a xs) ∧ KeysI K H xs ∧ SqT K H b (k.map V.int) ∧ xs.length < sizeLine ∧ Q (upd H a (dtiO a (putX xs k b v)))
theorem set_dictI {X : Cx} (hu : X.A.units + 1 < cLine) : PSet X (rSetI X.K) := by
  intro pins s σ H o i v ov iv u Q I ro ri rv h
  obtain ⟨a, b, xs, k, rfl, rfl, e, hk, hb, hl, q⟩ := h
  cases ro
  cases ri
  obtain ⟨z, hd, vs, rl, dd⟩ := dti_of I e hk
  have hz : (zx xs vs).length ≤ sizeLine := by rw [zx_len rl]; exact z
  refine wpAny_setItem_heap (hsz := hz) (tupleKind_room_in1 hu) (key_it I hb) dd fun h' dd' hs => ?_
  obtain ⟨vs', rl', e'⟩ := zx_put k b rv rl
  rw [e'] at dd'
  have he : ∃ q, h'.get? a = some q := let ⟨q, _, _, hq, _⟩ := dd'; ⟨q, hq⟩
  exact ⟨_, d_write I (by rw [e]; exact True.intro) hs he (dti_ok (by have := putX_len (xs := xs) (k := k) (b := b) v; omega) hd rl' dd'), q⟩
section
variable {X : Cx} {o i : Expr} {pos : Pos} {td ty : TE}
def tDGetI (K : PySem.W.Frag) (td ty : TE) : TE := fun σ H Q => td σ H fun x H1 => ty σ H1 fun y H2 => ∃ a b xs k v, x = .ref a ∧ y = .ref b ∧ H2 a = some (dtiO a xs) ∧ KeysI K H2 xs ∧ SqT K H2 b (k.map V.int) ∧ valX xs k = some v ∧ Q v H2
theorem pe_dgetI (hu : X.A.units + 1 < cLine) (ho : PE X o td) (hi : PE X i ty) (hs : NoSl i) : PE X (.Subscript o i pos) (tDGetI X.K td ty) := by
  refine ⟨fun pins s σ H Q I h => ?_⟩
  refine subD_of PySem.F.slot_dict_getitem.lookup hs (thn (ho.run pins s σ H _ I h) fun u s1 ⟨x, H1, I1, rx, q1⟩ => thn (hi.run pins s1 σ H1 _ I1 q1) fun iv s2 ⟨y, H2, I2, ry, a, b, xs, k, v, ex, ey, e, hk, hb, hv, q2⟩ => ?_)
  subst ex ey
  obtain rfl : u = Value.ref a := rx
  obtain rfl : iv = Value.ref b := ry
  obtain ⟨_, hd, vs, rl, dd⟩ := dti_of I2 e hk
  obtain ⟨w', hw, rw'⟩ := RelO.some_of (v := v) (o := (atKey (zx xs vs) k).map (·.2)) (by rw [← hv]; exact zx_val k rl)
  obtain ⟨p, hp, hp2⟩ := Option.map_eq_some_iff.mp hw
  refine ⟨dd.typeIs, wpAny_getItem_heap (tupleKind_room_in1 hu) (key_it I2 hb) dd hp ?_⟩
  rw [hp2]
  exact ⟨v, H2, I2.tok _, rw', q2⟩
def tDNewI : TE := fun _ H Q => ∀ p, H p = none → Q (.ref p) (upd H p (dtiO p []))
theorem pe_dnewI : PE X (.Dict [] [] pos) tDNewI := ⟨fun pins s σ H Q I h =>
  wpAny_Dict_empty ⟨.ref s.heap.objs.size, _, I.laid (a := s.heap.objs.size) (o := dtiO s.heap.objs.size []) (t' := s.toks) (fun _ _ q => Heap.get?_push_of_some _ q) (Nat.le_refl _)
    (dti_ok (P := X.prog) (w := X.w) (vs := []) (Nat.zero_le _) (beq_eq_false_iff_ne.mpr (Ne.symm (Nat.ne_of_lt I.big))) .nil (Heap.DictOfH.new s.heap)), rfl, h _ (I.hok.fresh (Nat.le_refl _))⟩⟩
end
section
variable {K : PySem.W.Frag} {H : Hp}
theorem da_val (k : List Int) : ∀ {xs : XS} {kvs : KVsI}, xs.map (·.1) = kvs.map (·.1) → DaAll K H (xs.map (·.2.2)) (kvs.map (·.2)) → (valX xs k = none ∧ valI kvs k = none) ∨ ∃ v d, valX xs k = some v ∧ valI kvs k = some d ∧ Da K H v d
  | [], [], _, _ => .inl ⟨rfl, rfl⟩
  | [], _ :: _, e, _ => by cases e
  | _ :: _, [], e, _ => by cases e
  | x :: xs, y :: kvs, e, h => by
    simp only [List.map_cons, List.cons.injEq] at e h
    obtain ⟨e1, e2⟩ := e
    cases h with
    | cons a t =>
      have ih := da_val k e2 t
      unfold valX valI at ih ⊢
      rw [List.find?_cons, List.find?_cons, ← e1]
      by_cases c : x.1 = k
      · simp only [c, decide_true, Option.map_some]
        exact .inr ⟨_, _, rfl, rfl, a⟩
      · simp only [c, decide_false]
        exact ih
theorem any_keys (k : List Int) : ∀ {xs : XS} {kvs : KVsI}, xs.map (·.1) = kvs.map (·.1) → (xs.any fun x => decide (x.1 = k)) = kvs.any fun x => decide (x.1 = k)
  | [], [], _ => rfl
  | [], _ :: _, e => by cases e
  | _ :: _, [], e => by cases e
  | x :: xs, y :: kvs, e => by
    simp only [List.map_cons, List.cons.injEq] at e
    rw [List.any_cons, List.any_cons, any_keys k e.2, e.1]
theorem da_repl (k : List Int) {v : V} {d : PyData} (hv : Da K H v d) : ∀ {xs : XS} {kvs : KVsI}, xs.map (·.1) = kvs.map (·.1) → DaAll K H (xs.map (·.2.2)) (kvs.map (·.2)) →
    (xs.map fun x => if x.1 = k then (x.1, x.2.1, v) else x).map (·.1) = (kvs.map fun x => if x.1 = k then (x.1, d) else x).map (·.1) ∧ DaAll K H ((xs.map fun x => if x.1 = k then (x.1, x.2.1, v) else x).map (·.2.2)) ((kvs.map fun x => if x.1 = k then (x.1, d) else x).map (·.2))
  | [], [], _, _ => ⟨rfl, .nil⟩
  | [], _ :: _, e, _ => by cases e
  | _ :: _, [], e, _ => by cases e
  | x :: xs, y :: kvs, e, h => by
    simp only [List.map_cons, List.cons.injEq] at e h
    obtain ⟨e1, e2⟩ := e
    cases h with
    | cons a t =>
      obtain ⟨i1, i2⟩ := da_repl k hv e2 t
      simp only [List.map_cons]
      by_cases c : x.1 = k
      · rw [if_pos c, if_pos (e1 ▸ c)]
        exact ⟨by rw [i1, e1], .cons hv i2⟩
      · rw [if_neg c, if_neg (e1 ▸ c)]
        exact ⟨by rw [i1, e1], .cons a i2⟩
theorem da_put (k : List Int) (b : Addr) {v : V} {d : PyData} (hv : Da K H v d) {xs : XS} {kvs : KVsI} (e : xs.map (·.1) = kvs.map (·.1)) (h : DaAll K H (xs.map (·.2.2)) (kvs.map (·.2))) :
    (putX xs k b v).map (·.1) = (putI kvs k d).map (·.1) ∧ DaAll K H ((putX xs k b v).map (·.2.2)) ((putI kvs k d).map (·.2)) := by
  unfold putX putI
  rw [any_keys k e]
  split
  · exact da_repl k hv e h
  · rw [List.map_append, List.map_append, List.map_append, List.map_append, e]
    refine ⟨rfl, ?_⟩
    have app : ∀ {vs us : List V} {ds es : List PyData}, DaAll K H vs ds → DaAll K H us es → DaAll K H (vs ++ us) (ds ++ es) := fun {vs us ds es} a b => by
      induction vs generalizing ds with
      | nil => cases a; exact b
      | cons x vs ih => cases a with | cons h t => exact .cons h (ih t)
    exact app h (.cons hv .nil)
theorem keys_put (k : List Int) (b : Addr) {v : V} {xs : XS} (hk : KeysI K H xs) (hb : SqT K H b (k.map V.int)) : KeysI K H (putX xs k b v) := fun x hx => by
  unfold putX at hx
  split at hx
  · obtain ⟨y, hy, rfl⟩ := List.mem_map.mp hx
    split <;> exact hk y hy
  · rcases List.mem_append.mp hx with hx | hx
    · exact hk x hx
    · rw [List.mem_singleton.mp hx]; exact hb
end
/-- a key told as data -/
def keyI : PyData → Option (List Int)
  | .tuple xs => intsOf xs
  | _ => none
theorem look_keyI {K : PySem.W.Frag} {μ : Mu} {H : Hp} {x : DV} {v : V} {a : PyData} {k : List Int} (r : RV K μ H v x) (h : look μ x = some a) (e : keyI a = some k) : ∃ b, v = .ref b ∧ SqT K H b (k.map V.int) := by
  unfold keyI at e
  split at e
  · next xs =>
    have e2 := intsOf_some e
    subst e2
    obtain ⟨_, p, vs, rfl, s, t⟩ := look_tup r h
    have e3 := t.ints_inv
    subst e3
    exact ⟨p, rfl, same_seqT unhid s⟩
  · cases e
section
variable {X : Cx} {pos apos cpos tpos : Pos} {o e f b i : Expr} {fo fe ff fi : FT} {to te tf ti : DT}
def dDictIC : DT := fun _ μ Q => ∀ p, μ p = none → Q (.cell p) (put μ p (.dti []))
theorem d_dictIC : DE X (.Dict [] [] pos) dDictIC := pe_imp pe_dnewI fun σ H Q ⟨δ, μ, Qd, rs, rm, q, w⟩ p hp =>
  w (.cell p) _ _ _ (ext_cell hp) (rm.cell (c := .dti []) hp ⟨[], upd_same, rfl, (fun x h => by cases h), .nil⟩) rfl (q p (rm.free hp))
def fDictIO : FT := fun ε => .ok (.own (.dti [])) ε
theorem f_dictIO : FE X (.Dict [] [] pos) fDictIO := d_imp d_dictIC fun δ μ Q ⟨ε, m, h⟩ p hp => h _ _ ((TrE.refl m).new hp) ⟨p, rfl, put_same, hp⟩
def rdInI : DR2 := fun x y μ Q => ∃ p kvs a k, y = .cell p ∧ μ p = some (.dti kvs) ∧ look μ x = some a ∧ keyI a = some k ∧ Q (.d (.bool (valI kvs k).isSome)) μ
theorem p_inI {K : PySem.W.Frag} : Up2 K rdInI (rInI K) := fun x y μ Qd v u H Q m rx ry ⟨p, kvs, a, k, ey, hm, ha, hk, q⟩ w => by
  subst ey
  cases (show u = .ref p from ry)
  obtain ⟨b, rfl, hb⟩ := look_keyI rx ha hk
  obtain ⟨xs, h1, h2, h3, h4⟩ := m p _ hm
  refine ⟨p, b, xs, k, rfl, rfl, h1, fun x hx => same_seqW unhid (h3 x hx), hb, ?_⟩
  have e : (valX xs k).isSome = (valI kvs k).isSome := by
    rcases da_val k h2 h4 with ⟨k1, k2⟩ | ⟨v', d', k1, k2, _⟩ <;> rw [k1, k2] <;> rfl
  rw [e]
  exact w (.d (.bool _)) μ _ H (.refl _ _) m (Da.bl _) q
noncomputable def fInI (fk fo : FT) : FT := fun ε => (fk ε).bind fun r ε1 => (fo ε1).bind fun o ε2 => match (see ε2 r).bind keyI, o with
  | some k, .ref i => match getC ε2 i with
    | some (.dti kvs) => .ok (.val (.bool (valI kvs k).isSome)) ε2
    | _ => .no
  | _, _ => .no
def dIxI (to ti : DT) : DT := fun δ μ Q => to δ μ fun x μ1 => ti δ μ1 fun y μ2 => ∃ p kvs a k d, x = .cell p ∧ μ2 p = some (.dti kvs) ∧ look μ2 y = some a ∧ keyI a = some k ∧ valI kvs k = some d ∧ Q (.d d) μ2
theorem d_ixI (hu : X.A.units + 64 < cLine) (ho : DE X o to) (hi : DE X i ti) (hs : NoSl i := by exact fun _ _ => rfl) : DE X (.Subscript o i pos) (dIxI to ti) :=
  pe_imp (pe_dgetI (by omega) ho hi hs) fun σ H Q ⟨δ, μ, Qd, rs, rm, q, w⟩ => up_use rs rm q fun x μ1 v H1 e1 m1 r1 q1 => up_use (rs.mono e1) m1 q1 fun y μ2 u H2 e2 m2 r2 ⟨p, kvs, a, k, d, ex, hm, ha, hk, hv, q2⟩ => by
    subst ex
    cases (show v = .ref p from r1)
    obtain ⟨b, rfl, hb⟩ := look_keyI r2 ha hk
    obtain ⟨xs, h1, h2, h3, h4⟩ := m2 p _ hm
    rcases da_val k h2 h4 with ⟨k1, k2⟩ | ⟨v', d', k1, k2, k3⟩
    · rw [k2] at hv; cases hv
    · rw [k2] at hv; cases hv
      exact ⟨p, b, xs, k, v', rfl, rfl, h1, fun x hx => same_seqW unhid (h3 x hx), hb, k1, w (.d d) μ2 _ H2 (e1.trans e2) m2 k3 q2⟩
noncomputable def fIxI (fo fk : FT) : FT := fun ε => (fo ε).bind fun o ε1 => (fk ε1).bind fun r ε2 => match (see ε2 r).bind keyI, o with
  | some k, .ref i => match getC ε2 i with
    | some (.dti kvs) => match valI kvs k with
      | some d => .ok (.val d) ε2
      | none => .no
    | _ => .no
  | _, _ => .no
theorem f_ixDI (hu : X.A.units + 64 < cLine) (ho : FE X o fo) (hi : FE X i fi) (hs : NoSl i := by exact fun _ _ => rfl) : FE X (.Subscript o i pos) (fIxI fo fi) :=
  d_imp (d_ixI hu ho hi hs) fun δ μ Q ⟨ε, m, h⟩ => use1 m h fun r ε1 v μ1 e t rf h1 => use1 (P := fun r v μ' ε' => RF δ μ ε' μ' r v) t.mt (fit_step t h1 fun _ _ _ _ _ p => p) fun r2 ε2 v2 μ2 e2 t2 rf2 h2 => by
    have rfo := RF.keep t m t2 rf
    split at h2
    · next k i g1 =>
      simp only [Option.bind_eq_some_iff] at g1
      obtain ⟨a, g2, g3⟩ := g1
      obtain ⟨_, q, rfl, hq⟩ := rfo
      split at h2
      · next kvs ec =>
        split at h2
        · next d hd =>
          obtain ⟨q', k1, k2⟩ := t2.mt.cel i _ ec
          rw [hq] at k1; cases k1
          exact ⟨q, kvs, a, k, d, rfl, k2, see_look t2.mt rf2 g2, g3, hd, h2 _ _ t2 rfl⟩
        · exact h2.elim
      · exact h2.elim
    · exact h2.elim
def rdSetI : DV → DV → DV → Mu → (Mu → Prop) → Prop := fun o i v μ Q => ∃ p kvs k x, o = .cell p ∧ μ p = some (.dti kvs) ∧ (∃ b, look μ i = some b ∧ keyI b = some k) ∧ v = .d x ∧ kvs.length < 900000 ∧ Q (put μ p (.dti (putI kvs k x)))
theorem g_subI (hu : X.A.units + 64 < cLine) (ho : DE X o to) (hi : DE X b ti)
    (ha : ∀ v, assign (.Subscript o b pos) X.env v = (do
      let ov ← holding [v] (eval o X.env)
      let iv ← holding [v, ov] (eval b X.env)
      standAt pos
      holding [v, ov, iv] (setItem ov iv v)
      release [v, ov, iv] []) := by intro _; rfl) : DG true X (.Subscript o b pos) (gdSub to ti rdSetI) :=
  pg_imp (pg_sub ho hi (set_dictI (by omega)) ha) fun v σ H Q ⟨δ, μ, d, Qd, rs, rm, r, q, w⟩ =>
    up_use rs rm q fun x μ1 ov H1 e1 m1 r1 q1 => up_use (rs.mono e1) m1 q1 fun y μ2 iv H2 e2 m2 r2 ⟨p, kvs, k, z, ex, hm, ⟨c, hc, hk⟩, ev, hl, q2⟩ => by
      subst ex ev
      cases (show ov = .ref p from r1)
      obtain ⟨bb, rfl, hb⟩ := look_keyI r2 hc hk
      obtain ⟨xs, h1, h2, h3, h4⟩ := m2 p _ hm
      have hlen : xs.length = kvs.length := by
        have := congrArg List.length h2
        simpa using this
      refine ⟨p, bb, xs, k, rfl, rfl, h1, fun x hx => same_seqW unhid (h3 x hx), hb, by rw [hlen]; exact Nat.lt_of_lt_of_le hl (by decide), ?_⟩
      have dz : Da X.K (hid μ2 H2) v z := (show Da X.K (hid μ H) v z from r).mono (e1.trans e2)
      obtain ⟨p1, p2⟩ := da_put k bb dz h2 h4
      have ew := ext_write (μ := μ2) (H := H2) (p := p) (o := dtiO p (putX xs k bb v)) (c := .dti (putI kvs k z)) hm
      have hkey : KeysI X.K (hid μ2 H2) xs := h3
      have hb2 : SqT X.K (hid (put μ2 p (.dti (putI kvs k z))) (upd H2 p (dtiO p (putX xs k bb v)))) bb (k.map V.int) := by
        have : ∀ a, look μ2 y = some a → keyI a = some k → SqT X.K (hid μ2 H2) bb (k.map V.int) := fun a ha hk => by
          unfold keyI at hk
          split at hk
          · next ys =>
            have e2 := intsOf_some hk
            subst e2
            obtain ⟨_, p', vs, e3, s, t⟩ := look_tup r2 ha
            cases e3
            have e3 := t.ints_inv
            subst e3
            exact s.t
          · cases hk
        exact same_seqW ew (this c hc hk)
      have hk2 : KeysI X.K (hid (put μ2 p (.dti (putI kvs k z))) (upd H2 p (dtiO p (putX xs k bb v)))) (putX xs k bb v) := keys_put k bb (fun x hx => same_seqW ew (h3 x hx)) hb2
      have e12 := e1.trans (e2.trans ew)
      exact w δ _ σ _ e12 (m2.write hm ⟨_, upd_same, p1, hk2, p2.mono ew⟩) (rs.mono e12) q2
noncomputable def setDI (o : FR) (k : Option PyData) (r : FR) (ε : FSt) : R Flow := match r, o, k.bind keyI with
  | .val x, .ref i, some n => match getC ε i with
    | some (.dti kvs) => if kvs.length < 900000 then .ok .nx (setC ε i (.dti (putI kvs n x))) else .no
    | _ => .no
  | _, _, _ => .no
noncomputable def fsSetDI (fo fi fe : FT) : FS := fun ε => (fe ε).bind fun r ε1 => (fo ε1).bind fun o ε2 => (fi ε2).bind fun k ε3 => setDI o (see ε3 k) r ε3
theorem fs_setDI (hu : X.A.units + 64 < cLine) (ho : FE X o fo) (hi : FE X b fi) (he : FE X e fe)
    (ha : ∀ v, assign (.Subscript o b tpos) X.env v = (do
      let ov ← holding [v] (eval o X.env)
      let iv ← holding [v, ov] (eval b X.env)
      standAt tpos
      holding [v, ov, iv] (setItem ov iv v)
      release [v, ov, iv] []) := by intro _; rfl)
    (hs : swapsWithSole [.Subscript o b tpos] e pos.line X.env = pure false := by rfl) (hw : swappedStores [.Subscript o b tpos] e X.env = pure none := by rfl)
    (h1 : (assignEach [.Subscript o b tpos] X.env).map (·.2) = [assign (.Subscript o b tpos) X.env] := by rfl) : FSt1 X (.Assign [.Subscript o b tpos] e pos) (fsSetDI fo fi fe) :=
  s_imp (s_asg he (g_subI hu ho hi ha) hs hw h1) fun D δ μ ⟨ε, m, h⟩ => useSE m h fun r ε1 v μ1 t p h1 =>
    useSE t.mt (fitS_step m t.tr h1) fun o ε2 ov μ2 t2 p2 h2 => useSE (δ := δ) t2.mt (fitS_step t.mt t2.tr h2) fun k ε3 kv μ3 t3 p3 h3 => by
      unfold setDI at h3
      split at h3
      · next x i n ek =>
        cases (show v = .d x from p)
        obtain ⟨hc, q, rfl, hq⟩ := p2
        simp only [Option.bind_eq_some_iff] at ek
        obtain ⟨b, hb, hk⟩ := ek
        split at h3
        · next kvs ec =>
          split at h3
          · next hl =>
            obtain ⟨q', k1, k2⟩ := t3.mt.cel i _ ec
            rw [hq] at k1; cases k1
            exact ⟨q, kvs, n, x, rfl, k2, ⟨b, see_look t3.mt p3 hb, hk⟩, rfl, hl, h3 _ _ (t3.write ec hq).tr⟩
          · exact h3.elim
        · exact h3.elim
      · exact h3.elim
theorem ap_dictIO {ε : FSt} : fDictIO ε = .ok (.own (.dti [])) ε := rfl
theorem ap_inI {fk : FT} {ε : FSt} : fInI fk fo ε = (fk ε).bind fun r ε1 => (fo ε1).bind fun o ε2 => match (see ε2 r).bind keyI, o with
  | some k, .ref i => match getC ε2 i with
    | some (.dti kvs) => .ok (.val (.bool (valI kvs k).isSome)) ε2
    | _ => .no
  | _, _ => .no := rfl
theorem ap_ixI {fk : FT} {ε : FSt} : fIxI fo fk ε = (fo ε).bind fun o ε1 => (fk ε1).bind fun r ε2 => match (see ε2 r).bind keyI, o with
  | some k, .ref i => match getC ε2 i with
    | some (.dti kvs) => match valI kvs k with
      | some d => .ok (.val d) ε2
      | none => .no
    | _ => .no
  | _, _ => .no := rfl
theorem ap_setDI {ε : FSt} : fsSetDI fo fi fe ε = (fe ε).bind fun r ε1 => (fo ε1).bind fun o ε2 => (fi ε2).bind fun k ε3 => setDI o (see ε3 k) r ε3 := rfl
theorem keyI_t {k : List Int} : keyI (.tuple (k.map .int)) = some k := intsOf_map _
end
end FL

namespace FL
open PySem PySem.Spec PyProof.Rows L2 DL
structure KFun (mg : Str → Option Value) (x : Str) (id : String) : Prop where
  ex : mg x = some (.builtin id)
theorem kfun_mk {K : PySem.W.Frag} {h : Heap} {mg : Str → Option Value} {x : Str} {id : String} (X : K.In h) (G : h.Ns mainGlobals mg) (a : PySem.W.nsIn K mainGlobals x = some (some (.builtin id))) : KFun mg x id := ⟨PySem.W.mg_of X G a⟩
def rLcm : List V → Hp → VK → Prop := fun xs H Q => ∃ i j : Int, xs = [.int i, .int j] ∧ i.natAbs < 2 ^ 64 ∧ j.natAbs < 2 ^ 64 ∧ Q (.int ((Nat.lcm i.natAbs j.natAbs : Nat) : Int)) H
theorem lcm_small {a b : Nat} (ha : a < 2 ^ 64) (hb : b < 2 ^ 64) : ((((Nat.lcm 1 a).lcm b : Nat) : Int)).natAbs.log2 < bitsLine := by
  rw [Int.natAbs_natCast, Nat.lcm_one_left]
  have h1 : Nat.lcm a b ≤ a * b := Nat.div_le_self _ _
  have h2 : a * b < 2 ^ 128 := by
    have := Nat.mul_lt_mul_of_lt_of_le hb (Nat.le_of_lt ha) (by decide : 0 < 2 ^ 64)
    rw [Nat.mul_comm a b]
    exact Nat.lt_of_lt_of_le this (by decide)
  have h3 : (Nat.lcm a b).log2 ≤ 128 := PySem.W.mg_log (Nat.lt_of_le_of_lt h1 (Nat.lt_of_lt_of_le h2 (by decide)))
  rw [bitsLine_eq]
  omega
theorem call_lcm {X : Cx} : CallR X (.builtin "math.lcm") rLcm := by
  intro pins s σ H xs us Q I r h
  obtain ⟨i, j, rfl, hi, hj, q⟩ := h
  obtain ⟨u1, u2, rfl, ⟨t1, rfl⟩, ⟨t2, rfl⟩⟩ := vals2 r
  refine PySem.W.mg_lcm hi hj (lcm_small hi hj) ?_
  rw [Nat.lcm_one_left]
  exact ⟨.int _, H, I.tok _, ⟨_, rfl⟩, q⟩
noncomputable def gLcm : List PyData → Option PyData
  | [.int i, .int j] => req (i.natAbs < 2 ^ 64 ∧ j.natAbs < 2 ^ 64) (some (.int ((Nat.lcm i.natAbs j.natAbs : Nat) : Int)))
  | _ => none
theorem p_lcm {K : PySem.W.Frag} : UpA K (rdPA gLcm) rLcm := fun ds μ Qd vs H Q m r ⟨as, z, ea, ez, q⟩ w => by
  unfold gLcm at ez
  split at ez
  · next i j =>
    obtain ⟨⟨h1, h2⟩, e3⟩ := req_some ez
    cases e3
    obtain ⟨x, y, rfl, e1, e2⟩ := looks2 ea
    cases r with
    | cons r t => cases t with
      | cons r2 t => cases t; exact ⟨i, j, by rw [look_int r e1, look_int r2 e2], h1, h2, w (.d (.int _)) μ _ H (.refl _ _) m (Da.int _) q⟩
  · cases ez
section
variable {X : Cx} {id : String} {x : Str} {p pos : Pos} {e : Expr} {es : List Expr} {fr : FTA}
theorem f_callBf {g : List PyData → Option PyData} {rv : List V → Hp → VK → Prop} (hc : CallR X (.builtin id) rv) (h : UpA X.K (rdPA g) rv) (hg : Gl X x) (D : KFun X.mg x id) (ha : FA X (e :: es) fr) (hdb : (x == ("__debug__" : Str)) = false := by decide)
    (he : starEach (e :: es) X.env = (false, eval e X.env) :: starEach es X.env := by rfl) (hpl : (backTo pos (starEach es X.env)).any (·.1) = false := by rfl) : FE X (.Call (.Name x p) (e :: es) [] pos) (fFn g fr) :=
  d_imp (show DE X _ _ from pe_imp (pe_callBfun hc hg D.ex ha hdb he hpl) (up_call h)) up_fFn
end
end FL

namespace FL
open PySem PySem.Spec PyProof.Rows L2 DL
def iItemsL (td : TE) : TI := fun σ H R => td σ H fun x H1 => ∃ d kvs, x = .ref d ∧ ((∃ o, H1 d = some (.frz o (.dK kvs)) ∧ R (Iti d o kvs) H1) ∨ (H1 d = some (.dK kvs) ∧ ∀ o, R (Iti d o kvs) (upd H1 d (.frz o (.dK kvs)))))
def itemD (kvs : KVs) : List PyData := kvs.map fun p => .tuple [kD p.1, p.2]
section
variable {X : Cx} {e : Expr} {td : TE} {te : DT} {fe : FT} {K : PySem.W.Frag} {apos cpos : Pos} {elts : List Expr} {kk : Nat} {tpos : Pos}
theorem pi_itemsL (he : PE X e td) (hbase : attributeBase e "items" X.env (eval e X.env) = eval e X.env := by rfl) (hline : (apos.endLine == cpos.line) = true := by rfl) :
    PI X (.Tuple elts kk tpos) (.Call (.Attribute e "items" apos) [] [] cpos) (iItemsL td) := by
  refine ⟨fun pins s σ H R I h => ?_⟩
  refine wpAny_Call_method (T := "dict") (id := "dict.items") hbase rfl hline F.plainAttrs_dict F.slot_dict_items F.type_dict_items (thn (he.run pins s σ H _ I h) fun u s1 ⟨x, H1, I1, rx, d, kvs, ex, q⟩ => ?_)
  subst ex
  obtain rfl : u = Value.ref d := rx
  obtain ⟨o, H2, I2, hd, q⟩ : ∃ o H2, Inv X pins σ H2 s1 ∧ H2 d = some (.frz o (.dK kvs)) ∧ R (Iti d o kvs) H2 := by
    rcases q with ⟨o, hd, q⟩ | ⟨hd, q⟩
    · exact ⟨o, H1, I1, hd, q⟩
    · obtain ⟨o, I2⟩ := I1.lock hd trivial
      exact ⟨o, _, I2, upd_same, q o⟩
  obtain ⟨hs, hgd, hx, es, ep, vs, hdt, hsz, kv, hm⟩ := I2.frzK hd
  have hl : kvs.length = vs.length := Paired.length kv
  refine ⟨hm.dictOf.typeIs, hm.dictOf.mapOf.noDict, ?_⟩
  have I3 : Inv X pins σ H2 { s1 with heap := s1.heap.push { cls := .type "dict_items", data := .fields #[.ref d] } } := I2.kept (t' := s1.toks) fun b ob q => Heap.get?_push_of_some _ q
  have fin : wpAny (model X.prog X.w) X.A (pyIter (.ref s1.heap.objs.size)) (PIE X pins σ (.Tuple elts kk tpos) R) X.xe { s1 with heap := s1.heap.push { cls := .type "dict_items", data := .fields #[.ref d] } } := by
    refine wpAny_pyIter_items (d := d) (knd := mixKind X.prog X.w) ⟨_, Heap.get?_push_size _ rfl, rfl, rfl⟩ (hm.push _) (pi_one (tk := s1.toks) I3 _ (turn_items _ hdt) ⟨.none, .none, ?_⟩ q)
    rw [hl]
    exact Heap.get?_push_size _ rfl
  show wpAny _ _ (callWith cpos (.builtin "dict.items") [.ref d] [] []) _ X.xe s1
  exact method_meetsIn F.slot_dict_items F.entry_dict_items rfl (PySem.evalArgs_none ⟨rfl, hm.dictOf.typeIs, F.args_dict_items_1 _, _, meets_dict_items (mixKind X.prog X.w) d hs, ⟨vs, hm.dictOf⟩, fin⟩)
theorem walk_items {μ : Mu} {H : Hp} {d : Addr} {o : Obj} {ks : List (Key × V)} {kvs : KVs} (s : hid μ H d = some (.frz o (.dK ks))) (pd : PD K (hid μ H) ks kvs) : Walk false K μ H (Iti d o ks) (itemD kvs) := fun i μ' H' e m => by
  have s' : H' d = some (.frz o (.dK ks)) := (hid_some (e.at' s fun _ z => by cases z)).1
  have hl : ks.length = kvs.length := by have := congrArg List.length pd.keys; simpa using this
  refine ⟨fun y hy => ?_, fun hy => ⟨s', ?_⟩⟩
  · unfold itemD at hy
    rw [List.getElem?_map] at hy
    obtain ⟨p, hp, rfl⟩ := Option.map_eq_some_iff.mp hy
    have hi : i < ks.length := by rw [hl]; exact (List.getElem?_eq_some_iff.mp hp).1
    refine ⟨⟨s', hi⟩, ?_⟩
    rintro x H2 ⟨T, k, v, hk, rfl, hT, rfl⟩
    have ek : k = p.1 := by
      have h1 : (ks.map (·.1))[i]? = some k := by rw [List.getElem?_map, hk]; rfl
      have h2 : (kvs.map (·.1))[i]? = some p.1 := by rw [List.getElem?_map, hp]; rfl
      have pk := pd.keys
      rw [pk] at h1
      rw [h1] at h2
      exact Option.some.inj h2
    subst ek
    have hv : Da K (hid μ H) v p.2 := by
      have h2 : (kvs.map (·.2))[i]? = some p.2 := by rw [List.getElem?_map, hp]; rfl
      obtain ⟨v', h3, h4⟩ := pd.das.get h2
      rw [List.getElem?_map, hk] at h3
      cases h3
      exact h4
    exact ⟨ext_new hT, m.new hT, Or.inr ⟨T, _, _, rfl, rfl, .inl (.inl (hid_new m hT)), (.cons (da_key p.1) (.cons ((hv.mono e).mono (ext_new hT)) .nil))⟩⟩
  · unfold itemD at hy
    rw [List.getElem?_map, Option.map_eq_none_iff] at hy
    rw [hl]
    exact List.getElem?_eq_none_iff.mp hy
def dwItems (te : DT) : DTI := fun δ μ Q => te δ μ fun x μ1 => ∃ a kvs, x = .d a ∧ kvsOf a = some kvs ∧ Q (itemD kvs) μ1
theorem i_items (h : DE X e te) (hbase : attributeBase e "items" X.env (eval e X.env) = eval e X.env := by rfl) (hline : (apos.endLine == cpos.line) = true := by rfl) : DI false X (.Tuple elts kk tpos) (.Call (.Attribute e "items" apos) [] [] cpos) (dwItems te) := pi_imp (pi_itemsL h hbase hline) fun σ H R ⟨δ, μ, Qd, rs, rm, q, w⟩ => up_use rs rm q fun x μ1 v H1 e1 m1 r1 q1 => by
  obtain ⟨a, kvs, rfl, hk, q1⟩ := q1
  unfold kvsOf at hk
  split at hk
  · next ps =>
    generalize hq : PyData.dict ps = b at r1
    cases (show Da X.K (hid μ1 H1) v b from r1) with
    | @dct p ks ds s t =>
      cases hq
      have pd := kvsL_zip t hk
      rcases s with s | ⟨o, s⟩
      · refine ⟨p, ks, rfl, .inr ⟨(hid_some s).1, fun o => w _ μ1 _ _ (e1.trans (ext_lock s)) (RM.lock m1 s) ?_ q1⟩⟩
        exact walk_items (by rw [hid_of (hid_some s).2, upd_same]) (pd.mono (ext_lock s))
      · exact ⟨p, ks, rfl, .inl ⟨o, (hid_some s).1, w _ μ1 H1 _ e1 m1 (walk_items s pd) q1⟩⟩
    | opq s _ =>
      cases hq
      cases hk
    | _ => cases hq
  · cases hk
def fiItems (fe : FT) : FTI := fun ε => (fe ε).bind fun r ε1 => match (seeV r).bind kvsOf with
  | some kvs => .ok (itemD kvs) ε1
  | none => .no
theorem fi_items (h : FE X e fe) (hbase : attributeBase e "items" X.env (eval e X.env) = eval e X.env := by rfl) (hline : (apos.endLine == cpos.line) = true := by rfl) : FI false X (.Tuple elts kk tpos) (.Call (.Attribute e "items" apos) [] [] cpos) (fiItems fe) := di_imp (i_items h hbase hline) fun δ μ Q ⟨ε, m, h⟩ => use1 m h fun r ε1 v μ1 e t rf h1 => by
  cases r with
  | ref _ => exact h1.elim
  | own _ => exact h1.elim
  | val x =>
    cases (show v = .d x from rf)
    cases hk : kvsOf x with
    | none => simp only [seeV, Option.bind_some, hk] at h1; exact h1.elim
    | some kvs =>
      simp only [seeV, Option.bind_some, hk] at h1
      exact ⟨x, kvs, rfl, hk, h1 _ μ1 t rfl⟩
theorem ap_items {ε : FSt} : fiItems fe ε = (fe ε).bind fun r ε1 => match (seeV r).bind kvsOf with
  | some kvs => .ok (itemD kvs) ε1
  | none => .no := rfl
end
section
variable {X : Cx} {b o : Expr} {fi fo : FT} {pos : Pos}
theorem fc_inDI (hu : X.A.units + 65 < cLine) (hb : FE X b fi) (ho : FE X o fo) (hm : behindInMarks .In o = false := by rfl) : FC X (.Compare b [.In] [o] pos) (fB (fInI fi fo)) :=
  c_imp (c_cmp (op_inI (by omega)) p_inI hb ho hm) fun δ μ Q h => by
    obtain ⟨ε, m, h⟩ := h
    have h := fB_fit h
    refine use1 m h fun r ε1 v μ1 e t rf h1 => use1 (P := fun r v μ' ε' => RF δ μ ε' μ' r v) t.mt (fit_step t h1 fun _ _ _ _ _ p => p) fun r2 ε2 v2 μ2 e2 t2 rf2 h2 => ?_
    have rfk := RF.keep t m t2 rf
    split at h2
    · next k i g1 =>
      simp only [Option.bind_eq_some_iff] at g1
      obtain ⟨a, g2, g3⟩ := g1
      obtain ⟨_, q, rfl, hq⟩ := rf2
      split at h2
      · next kvs ec =>
        obtain ⟨q', k1, k2⟩ := t2.mt.cel i _ ec
        rw [hq] at k1; cases k1
        exact ⟨q, kvs, a, k, rfl, k2, see_look t2.mt rfk g2, g3, h2 _ _ t2 rfl⟩
      · exact h2.elim
    · exact h2.elim
end
end FL

namespace NA
open PySem PySem.Spec PyProof.Rows L2 DL FL
noncomputable def fb_is_number : FS := (fsRet (fAndV (fIsi "int" (fVar 0)) (fNotV (fIsi "bool" (fVar 0)))))
noncomputable def F_is_number : Fn := runF 1 fb_is_number
noncomputable def fb_is_within : FS := (fsRet (fAndV (fCall F_is_number (faCons (fVar 0) faNil)) (fChain gLe gLe (fVar 1) (fVar 0) (fVar 2))))
noncomputable def F_is_within : Fn := runF 3 fb_is_within
noncomputable def fb_is_two : FS := (fsRet (fAndV (fIsi "tuple" (fVar 0)) (fOp gEq (fFn gLen (faCons (fVar 0) faNil)) (fC (.int 2)))))
noncomputable def F_is_two : Fn := runF 1 fb_is_two
noncomputable def fb_ascends : FS := (fsRet (fFn gAll (faCons (fLc (fiArgs gZip (faCons (fVar 0) (faCons (fSl (fVar 0) (fPart (fC (.int 1))) fNo) faNil))) (tgT [1, 2]) fYes (fOp gLt (fVar 1) (fVar 2)) [1, 2]) faNil)))
noncomputable def F_ascends : Fn := runF 3 fb_ascends
noncomputable def fb_is_pairs : FS := (fsSeq (fsIf (ftNot (fTr (fIsi "tuple" (fVar 0)))) (fsRet (fC (.bool false))) fsNext)
    (fsSeq (fsIf (ftNot (fTr (fFn gAll (faCons (fLc (fiSeq (fVar 0)) (tgN 2) fYes (fAndV (fCall F_is_two (faCons (fVar 2) faNil)) (fAndV (fCall F_is_number (faCons (fOp gIx (fVar 2) (fC (.int 0))) faNil)) (fCall F_is_within (faCons (fOp gIx (fVar 2) (fC (.int 1))) (faCons (fC (.int 1)) (faCons (fOp gSub (fVar 1) (fC (.int 1))) faNil)))))) [2]) faNil)))) (fsRet (fC (.bool false))) fsNext)
    (fsRet (fCall F_ascends (faCons (fLc (fiSeq (fVar 0)) (tgN 2) fYes (fOp gIx (fVar 2) (fC (.int 0))) [2]) faNil)))))
noncomputable def F_is_pairs : Fn := runF 3 fb_is_pairs
noncomputable def fb_is_modulus : FS := (fsRet (fAndV (fCall F_is_number (faCons (fVar 0) faNil)) (fUnV (gInK [2, 3, 5, 6, 7, 10, 11, 13, 14, 15]) (fVar 0))))
noncomputable def F_is_modulus : Fn := runF 1 fb_is_modulus
noncomputable def fb_has_modulus : FS := (fsRet (fAndV (fCall F_is_two (faCons (fVar 0) faNil)) (fCall F_is_modulus (faCons (fOp gIx (fVar 0) (fC (.int 0))) faNil))))
noncomputable def F_has_modulus : Fn := runF 1 fb_has_modulus
noncomputable def fb_is_rule : FS := (fsRet (fAndV (fCall F_has_modulus (faCons (fVar 0) faNil)) (fCall F_is_pairs (faCons (fOp gIx (fVar 0) (fC (.int 1))) (faCons (fOp gIx (fVar 0) (fC (.int 0))) faNil)))))
noncomputable def F_is_rule : Fn := runF 1 fb_is_rule
noncomputable def fb_is_row : FS := (fsRet (fAndV (fCall F_has_modulus (faCons (fVar 0) faNil)) (fCall F_is_pairs (faCons (fOp gIx (fVar 0) (fC (.int 1))) (faCons (fOp gIx (fVar 0) (fC (.int 0))) faNil)))))
noncomputable def F_is_row : Fn := runF 1 fb_is_row
noncomputable def fb_is_round : FS := (fsSeq (fsIf (ftOr (ftNot (fTr (fCall F_has_modulus (faCons (fVar 0) faNil)))) (ftNot (fTr (fIsi "tuple" (fOp gIx (fVar 0) (fC (.int 1))))))) (fsRet (fC (.bool false))) fsNext)
    (fsRet (fAndV (fOp gGt (fFn gLen (faCons (fOp gIx (fVar 0) (fC (.int 1))) faNil)) (fC (.int 0))) (fFn gAll (faCons (fLc (fiSeq (fOp gIx (fVar 0) (fC (.int 1)))) (tgN 1) fYes (fCall F_is_within (faCons (fVar 1) (faCons (fC (.int 0)) (faCons (fOp gSub (fOp gIx (fVar 0) (fC (.int 0))) (fC (.int 1))) faNil)))) [1]) faNil)))))
noncomputable def F_is_round : Fn := runF 2 fb_is_round
noncomputable def fb_need_rule : FS := (fsIf (ftNot (fTr (fCall F_is_rule (faCons (fVar 0) faNil)))) fsNever fsNext)
noncomputable def F_need_rule : Fn := runF 1 fb_need_rule
noncomputable def fb_need_row : FS := (fsIf (ftNot (fTr (fCall F_is_row (faCons (fVar 0) faNil)))) fsNever fsNext)
noncomputable def F_need_row : Fn := runF 1 fb_need_row
noncomputable def fb_need_round : FS := (fsIf (ftNot (fTr (fCall F_is_round (faCons (fVar 0) faNil)))) fsNever fsNext)
noncomputable def F_need_round : Fn := runF 1 fb_need_round
noncomputable def fb_need_same : FS := (fsIf (fB (fOp gNe (fOp gIx (fVar 0) (fC (.int 0))) (fOp gIx (fVar 1) (fC (.int 0))))) fsNever fsNext)
noncomputable def F_need_same : Fn := runF 2 fb_need_same
noncomputable def fb__law_pick : FS := (fsSeq (fsIf (fB (fOp gGt (fOp gIx (fVar 0) (fC (.int 0))) (fC (.int 0)))) (fsSeq (fsAsg 2 (fOp gMod (fFn gInt (faCons (fOp gIx (fVar 0) (fC (.int 0))) faNil)) (fVar 1)))
    (fsSeq (fsSetI (fVar 0) (fC (.int 0)) (fOp gFdiv (fOp gIx (fVar 0) (fC (.int 0))) (fVar 1)))
    (fsRet (fVar 2)))) fsNext)
    (fsSeq (fsSetI (fVar 0) (fC (.int 2)) (fOp gAdd (fOp gIx (fVar 0) (fC (.int 2))) (fC (.int 1))))
    (fsSeq (fsAsg 3 (fOp gMod (fFn gInt (faCons (fOp gAdd (fOp gPow (fOp gAdd (fOp gIx (fVar 0) (fC (.int 1))) (fOp gMul (fC (.int 773741389)) (fOp gIx (fVar 0) (fC (.int 2))))) (fC (.int 3))) (fOp gMul (fC (.int 11)) (fOp gIx (fVar 0) (fC (.int 2))))) faNil)) (fOp gAdd (fOp gPow (fC (.int 10)) (fC (.int 28))) (fC (.int 331)))))
    (fsSeq (fsAsg 3 (fOp gMod (fFn gInt (faCons (fOp gMul (fVar 3) (fOp gAdd (fVar 3) (fOp gMul (fC (.int 5413)) (fOp gIx (fVar 0) (fC (.int 2)))))) faNil)) (fOp gAdd (fOp gPow (fC (.int 10)) (fC (.int 26))) (fC (.int 67)))))
    (fsRet (fOp gMod (fFn gInt (faCons (fOp gFdiv (fVar 3) (fC (.int 7331))) faNil)) (fVar 1)))))))
noncomputable def F__law_pick : Fn := runF 4 fb__law_pick
noncomputable def fb__law_modulus : FS := (fsRet (fOp gIx (fLst (faCons (fC (.int 2)) (faCons (fC (.int 3)) (faCons (fC (.int 5)) (faCons (fC (.int 6)) (faCons (fC (.int 7)) (faCons (fC (.int 10)) (faCons (fC (.int 11)) (faCons (fC (.int 13)) (faCons (fC (.int 14)) (faCons (fC (.int 15)) faNil))))))))))) (fCall F__law_pick (faCons (fVar 0) (faCons (fC (.int 10)) faNil)))))
noncomputable def F__law_modulus : Fn := runF 1 fb__law_modulus
noncomputable def fb_primes_of : FS := (fsSeq (fsIf (ftNot (fTr (fCall F_is_modulus (faCons (fVar 0) faNil)))) fsNever fsNext)
    (fsRet (fListO (fUnV (gIxK [(2, [2]), (3, [3]), (5, [5]), (6, [2, 3]), (7, [7]), (10, [2, 5]), (11, [11]), (13, [13]), (14, [2, 7]), (15, [3, 5])]) (fVar 0)))))
noncomputable def F_primes_of : Fn := runF 1 fb_primes_of
noncomputable def fb_by_prime : FS := (fsSeq (fsDrop (fCall F_need_rule (faCons (fVar 0) faNil)))
    (fsSeq (fsIf (fB (fOp gNin (fVar 1) (frz (fCall F_primes_of (faCons (fOp gIx (fVar 0) (fC (.int 0))) faNil))))) fsNever fsNext)
    (fsRet (fFn gTuple (faCons (fLc (fiSeq (fOp gIx (fVar 0) (fC (.int 1)))) (tgT [2, 3]) (fTr (fOp gMod (fVar 3) (fVar 1))) (fTup (faCons (fVar 2) (faCons (fOp gMod (fVar 3) (fVar 1)) faNil))) [2, 3]) faNil)))))
noncomputable def F_by_prime : Fn := runF 4 fb_by_prime
noncomputable def lb__law_product_2 : FS := (fsSeq (fsAsg 8 (fOp gAdd (fOp gIx (fVar 3) (fOp gAdd (fVar 4) (fVar 6))) (fOp gMul (fVar 5) (fVar 7))))
    (fsSetI (fVar 3) (fOp gAdd (fVar 4) (fVar 6)) (fOp gMod (fFn gInt (faCons (fVar 8) faNil)) (fVar 2))))
noncomputable def lb__law_product_1 : FS := (fsFor (fiArgs gEnum (faCons (fVar 1) faNil)) (tgT [6, 7]) lb__law_product_2)
noncomputable def fb__law_product : FS := (fsSeq (fsAsg 3 (fRep (fLstO (faCons (fC (.int 0)) faNil)) (fOp gSub (fOp gAdd (fFn gLen (faCons (fVar 0) faNil)) (fFn gLen (faCons (fVar 1) faNil))) (fC (.int 1)))))
    (fsSeq (fsFor (fiArgs gEnum (faCons (fVar 0) faNil)) (tgT [4, 5]) lb__law_product_1)
    (fsRet (fVar 3))))
noncomputable def F__law_product : Fn := runF 9 fb__law_product
noncomputable def fb_is_doing : FS := (fsRet (fAndV (fCall F_is_two (faCons (fVar 0) faNil)) (fAndV (fCall F_is_pairs (faCons (fOp gIx (fVar 0) (fC (.int 0))) (faCons (fVar 1) faNil))) (fCall F_is_within (faCons (fOp gIx (fVar 0) (fC (.int 1))) (faCons (fC (.int 0)) (faCons (fC (.int 1000000000000000000000000000000)) faNil)))))))
noncomputable def F_is_doing : Fn := runF 2 fb_is_doing
noncomputable def fb_is_program : FS := (fsSeq (fsIf (ftOr (ftNot (fTr (fCall F_has_modulus (faCons (fVar 0) faNil)))) (ftNot (fTr (fIsi "tuple" (fOp gIx (fVar 0) (fC (.int 1))))))) (fsRet (fC (.bool false))) fsNext)
    (fsRet (fFn gAll (faCons (fLc (fiSeq (fOp gIx (fVar 0) (fC (.int 1)))) (tgN 1) fYes (fCall F_is_doing (faCons (fVar 1) (faCons (fOp gIx (fVar 0) (fC (.int 0))) faNil))) [1]) faNil))))
noncomputable def F_is_program : Fn := runF 2 fb_is_program
noncomputable def fb_need_program : FS := (fsIf (ftNot (fTr (fCall F_is_program (faCons (fVar 0) faNil)))) fsNever fsNext)
noncomputable def F_need_program : Fn := runF 1 fb_need_program
noncomputable def fb_need_both : FS := (fsSeq (fsDrop (fCall F_need_program (faCons (fVar 0) faNil)))
    (fsSeq (fsDrop (fCall F_need_row (faCons (fVar 1) faNil)))
    (fsDrop (fCall F_need_same (faCons (fVar 0) (faCons (fVar 1) faNil))))))
noncomputable def F_need_both : Fn := runF 2 fb_need_both
noncomputable def fb_rests_of : FS := (fsRet (fLcO (fiSeq (fOp gIx (fVar 0) (fC (.int 1)))) (tgN 2) fYes (fOp gMod (fVar 2) (fVar 1)) [2]))
noncomputable def F_rests_of : Fn := runF 3 fb_rests_of
noncomputable def lb_share_of_1 : FS := (fsAsg 2 (fOp gMul (fVar 2) (fVar 1)))
noncomputable def fb_share_of : FS := (fsSeq (fsAsg 2 (fC (.int 1)))
    (fsSeq (fsWhile (fB (fOp gEq (fOp gMod (fVar 0) (fOp gMul (fVar 2) (fVar 1))) (fC (.int 0)))) lb_share_of_1)
    (fsRet (fVar 2))))
noncomputable def F_share_of : Fn := runF 3 fb_share_of
noncomputable def lb_turns_on_ring_1 : FS := (fsAsg 4 (fOp gMul (fVar 4) (fVar 1)))
noncomputable def fb_turns_on_ring : FS := (fsSeq (fsAsg 2 (fCall F_share_of (faCons (fVar 0) (faCons (fVar 1) faNil))))
    (fsSeq (fsAsg 3 (fOp gFdiv (fVar 0) (fVar 2)))
    (fsSeq (fsAsg 4 (fVar 1))
    (fsSeq (fsWhile (fB (fOp gNe (fOp gMod (fVar 4) (fVar 3)) (fOp gMod (fC (.int 1)) (fVar 3)))) lb_turns_on_ring_1)
    (fsRet (fTup (faCons (fVar 2) (faCons (fVar 4) faNil))))))))
noncomputable def F_turns_on_ring : Fn := runF 5 fb_turns_on_ring
end NA

namespace NA
open PySem PySem.Spec PyProof.Rows L2 DL FL RF
local macro_rules | `(tactic| walk_at "fl") => `(tactic| simp only [ap_var, ap_c, ap_un, ap_unV, ap_op, ap_opO, ap_fn, ap_nil, ap_cons, ap_tr, ap_b, ap_tand, ap_tor, ap_tnot, ap_and, ap_or, ap_not, ap_if, ap_chain, ap_tup, ap_lst, ap_lstO, ap_dictO, ap_frz, ap_sl, ap_no, ap_part, ap_mut, ap_call, ap_callK, ap_get, ap_dict, ap_isi, ap_rep, ap_listO, ap_seq, ap_iargs, ap_lc, ap_lcO, ap_yes, ap_sq, ap_ret, ap_drop, ap_sif, ap_nx, ap_bk, ap_ct, ap_asg, ap_setR, ap_runT, ap_bb0, ap_bbs, ap_bbn, ap_bbd, ap_bbc, ap_bbb, ap_sfrz, ap_setI, ap_setK, ap_for, ap_par, ap_asgT, ap_run, ap_see, ap_seeo, ap_seer, ap_getC, ap_setC, ap_sees0, ap_sees1, ap_parN, ap_view, ap_frza0, ap_frza, ap_frzc, ap_frzb, ap_frzd, ap_frzn, ap_call1, ap_c1o, ap_sar0, ap_sar1, ap_frv, ap_fro, ap_tgN, ap_tgT, fin_val, fin_own, fin_ref, fin_nx, bors_nil, bors_d, bors_b, R.bind_ok, ofO_some, ofB_some, ofOL_list, seeV, frV, vals, setAllF, wipeF, restF, callR, refsOf, argVs, putBack, setR2, setI, setK, ap_glt, ap_gle, ap_ggt, ap_gge, ap_gsub, ap_gadd, ap_gneg, ap_gix, ap_cutl, ap_cutt, ap_gtup, ap_glist, ap_glen, ap_gint, ap_gintb, ap_gabs, ap_gmax, ap_gmin, ap_isN, ap_notN, ap_geq, ap_gne, ap_eqi, ap_eqb, ap_eqs, ap_iol, ap_iot, ap_gtn, ap_gtb, ap_gti, ap_gtl, ap_gtt, ap_isn0, ap_isni, ap_isnl, ap_isnt, ap_revl, ap_revt, ap_enum, ap_zipl, ap_zipt, intsOf_map, boolsOf_map, ap_cellL, startF, List.map_cons, List.map_nil, List.length_cons, List.length_nil, List.replicate_succ, List.replicate_zero, List.cons_append, List.nil_append, List.append_nil, List.getElem?_cons_zero, List.getElem?_cons_succ, List.getElem?_nil, List.set_cons_zero, List.set_cons_succ, List.set_nil, Option.map_some, Option.map_none, Option.bind_some, Option.bind_none, Nat.reduceSub, Nat.reduceAdd, if_true, if_false, Bool.false_eq_true, reduceIte, true_and, and_true, Nat.sub_zero, Nat.zero_add, reduceCtorEq, List.nodup_nil, List.nodup_cons, List.not_mem_nil, not_false_eq_true, and_self, Bool.not_true, Bool.not_false, Bool.not_not, decide_true, decide_false, Nat.reduceLeDiff, atI0, atI1, req_true])
abbrev Tm := RF.Tm
def mods : List Int := [2, 3, 5, 6, 7, 10, 11, 13, 14, 15]
def primesOf (m : Int) : List Int := [2, 3, 5, 7, 11, 13].filter fun p => decide (m % p = 0)
def pr (p : Int × Int) : PyData := .tuple [.int p.1, .int p.2]
def tm (a : Tm) : PyData := .tuple (a.map pr)
/-- rules and finite rows -/
def rule (m : Int) (a : Tm) : PyData := .tuple [.int m, tm a]
def iv (l : List Int) : List PyData := l.map .int
/-- round rows -/
def rnd (m : Int) (vs : List Int) : PyData := .tuple [.int m, .tuple (iv vs)]
def isNum : PyData → Bool
  | .int _ => true
  | _ => false
def isWithin (a b : Int) : PyData → Bool
  | .int i => decide (a ≤ i) && decide (i ≤ b)
  | _ => false
def isTwo : PyData → Bool
  | .tuple xs => decide (xs.length = 2)
  | _ => false
def isI : PyData → Bool
  | .int _ => true
  | .bool _ => true
  | _ => false
def isB : PyData → Bool
  | .bool _ => true
  | _ => false
def isT : PyData → Bool
  | .tuple _ => true
  | _ => false
theorem kI : ∀ d, (kitB (kindOf d) "int").getD false = isI d
  | .none => (by decide +kernel : (kitB "NoneType" "int").getD false = false)
  | .bool _ => (by decide +kernel : (kitB "bool" "int").getD false = true)
  | .int _ => (by decide +kernel : (kitB "int" "int").getD false = true)
  | .str _ => (by decide +kernel : (kitB "str" "int").getD false = false)
  | .list _ => (by decide +kernel : (kitB "list" "int").getD false = false)
  | .tuple _ => (by decide +kernel : (kitB "tuple" "int").getD false = false)
  | .dict _ => (by decide +kernel : (kitB "dict" "int").getD false = false)
theorem kB : ∀ d, (kitB (kindOf d) "bool").getD false = isB d
  | .none => (by decide +kernel : (kitB "NoneType" "bool").getD false = false)
  | .bool _ => (by decide +kernel : (kitB "bool" "bool").getD false = true)
  | .int _ => (by decide +kernel : (kitB "int" "bool").getD false = false)
  | .str _ => (by decide +kernel : (kitB "str" "bool").getD false = false)
  | .list _ => (by decide +kernel : (kitB "list" "bool").getD false = false)
  | .tuple _ => (by decide +kernel : (kitB "tuple" "bool").getD false = false)
  | .dict _ => (by decide +kernel : (kitB "dict" "bool").getD false = false)
theorem kT : ∀ d, (kitB (kindOf d) "tuple").getD false = isT d
  | .none => (by decide +kernel : (kitB "NoneType" "tuple").getD false = false)
  | .bool _ => (by decide +kernel : (kitB "bool" "tuple").getD false = false)
  | .int _ => (by decide +kernel : (kitB "int" "tuple").getD false = false)
  | .str _ => (by decide +kernel : (kitB "str" "tuple").getD false = false)
  | .list _ => (by decide +kernel : (kitB "list" "tuple").getD false = false)
  | .tuple _ => (by decide +kernel : (kitB "tuple" "tuple").getD false = true)
  | .dict _ => (by decide +kernel : (kitB "dict" "tuple").getD false = false)
theorem e_is_number (v : PyData) : F_is_number [.d v] = tell (.bool (isNum v)) := by
  unfold F_is_number fb_is_number
  walk_at "fl"
  rw [kI, kB]
  cases v <;> rfl
theorem e_is_within (v : PyData) (a b : Int) : F_is_within [.d v, .d (.int a), .d (.int b)] = tell (.bool (isWithin a b v)) := by
  unfold F_is_within fb_is_within
  walk_at "fl"
  rw [e_is_number]
  walk_at "fl"
  cases v with
  | int i =>
    simp only [isNum, isWithin]
    walk_at "fl"
    by_cases h : a ≤ i <;> simp only [h, decide_true, decide_false, Bool.true_and, Bool.false_and] <;> walk_at "fl"
  | _ => rfl
theorem e_is_two (v : PyData) : F_is_two [.d v] = tell (.bool (isTwo v)) := by
  unfold F_is_two fb_is_two
  walk_at "fl"
  rw [kT]
  cases v with
  | tuple xs =>
    have e : decide ((xs.length : Int) = 2) = decide (xs.length = 2) := by rw [Bool.eq_iff_iff]; simp; omega
    simp only [isT, isTwo]
    walk_at "fl"
    rw [e]
  | _ => rfl
/-- ascending -/
def asc : List Int → Bool
  | x :: y :: r => decide (x < y) && asc (y :: r)
  | _ => true
theorem asc_zip : ∀ ns : List Int, (zipD (iv ns) (iv (ns.drop 1))).map (fun d => match d with
    | .tuple [.int a, .int b] => PyData.bool (decide (a < b))
    | _ => .none) = ((ns.zip (ns.drop 1)).map fun p => decide (p.1 < p.2)).map .bool
  | [] => rfl
  | [x] => rfl
  | x :: y :: r => by
    have ih := asc_zip (y :: r)
    simp only [iv, List.map_cons, List.drop_succ_cons, List.drop_zero, zipD, List.zip_cons_cons] at ih ⊢
    rw [ih]
theorem asc_all : ∀ ns : List Int, (((ns.zip (ns.drop 1)).map fun p => decide (p.1 < p.2)).all id) = asc ns
  | [] => rfl
  | [x] => rfl
  | x :: y :: r => by
    have ih := asc_all (y :: r)
    simp only [List.drop_succ_cons, List.drop_zero, List.zip_cons_cons, List.map_cons, List.all_cons, id, asc] at ih ⊢
    rw [ih]
theorem zipD_len : ∀ xs ys : List PyData, (zipD xs ys).length ≤ xs.length
  | [], _ => by simp [zipD]
  | _ :: _, [] => by simp [zipD]
  | x :: xs, y :: ys => by simp [zipD, zipD_len xs ys]
theorem zip_mem : ∀ (xs ys : List PyData) (d : PyData), d ∈ zipD xs ys → ∃ x y, x ∈ xs ∧ y ∈ ys ∧ d = .tuple [x, y]
  | x :: xs, y :: ys, d, h => by
    rcases List.mem_cons.mp h with e | h
    · exact ⟨x, y, List.mem_cons_self, List.mem_cons_self, e⟩
    · obtain ⟨a, b, h1, h2, h3⟩ := zip_mem xs ys d h
      exact ⟨a, b, List.mem_cons_of_mem _ h1, List.mem_cons_of_mem _ h2, h3⟩
  | [], _, _, h => by simp [zipD] at h
  | _ :: _, [], _, h => by simp [zipD] at h
theorem cut1 (xs : List PyData) : DL.cutD xs (some 1) none = xs.drop 1 := by
  unfold DL.cutD HT.sIx
  cases xs with
  | nil => rfl
  | cons x xs => simp
theorem iv_mem {l : List Int} {d : PyData} (h : d ∈ iv l) : ∃ i ∈ l, d = .int i := by
  obtain ⟨i, hi, e⟩ := List.mem_map.mp h
  exact ⟨i, hi, e.symm⟩
theorem e_ascends (ns : List Int) (hl : ns.length ≤ 900000) : F_ascends [.d (.list (iv ns))] = tell (.bool (asc ns)) := by
  unfold F_ascends fb_ascends
  walk_at "fl"
  rw [cut1]
  have e : (iv ns).drop 1 = iv (ns.drop 1) := by simp [iv]
  rw [e, lc_all (fun d => match d with
    | .tuple [.int a, .int b] => PyData.bool (decide (a < b))
    | _ => .none) (Nat.le_trans (zipD_len _ _) (by simp [iv]; omega)), asc_zip]
  · walk_at "fl"
    simp only [gAll]
    walk_at "fl"
    rw [asc_all]
  · intro d hd
    obtain ⟨x, y, hx, hy, rfl⟩ := zip_mem _ _ _ hd
    obtain ⟨i, _, rfl⟩ := iv_mem hx
    obtain ⟨j, _, rfl⟩ := iv_mem hy
    refine ⟨_, rfl, ?_, ?_⟩
    · walk_at "fl"
    · walk_at "fl"
theorem asc_cn {a : Tm} (h : a.Pairwise fun p q => p.1 < q.1) : asc (a.map (·.1)) = true := by
  induction a with
  | nil => rfl
  | cons p a ih =>
    cases a with
    | nil => rfl
    | cons q a =>
      rw [List.pairwise_cons] at h
      simp only [List.map_cons, asc, Bool.and_eq_true, decide_eq_true_eq] at ih ⊢
      exact ⟨h.1 q List.mem_cons_self, ih h.2⟩
end NA

namespace NA
open PySem PySem.Spec PyProof.Rows L2 DL FL RF
local macro_rules | `(tactic| walk_at "fl") => `(tactic| simp only [ap_var, ap_c, ap_un, ap_unV, ap_op, ap_opO, ap_fn, ap_nil, ap_cons, ap_tr, ap_b, ap_tand, ap_tor, ap_tnot, ap_and, ap_or, ap_not, ap_if, ap_chain, ap_tup, ap_lst, ap_lstO, ap_dictO, ap_frz, ap_sl, ap_no, ap_part, ap_mut, ap_call, ap_callK, ap_get, ap_dict, ap_isi, ap_rep, ap_listO, ap_seq, ap_iargs, ap_lc, ap_lcO, ap_yes, ap_sq, ap_ret, ap_drop, ap_sif, ap_nx, ap_bk, ap_ct, ap_asg, ap_setR, ap_runT, ap_bb0, ap_bbs, ap_bbn, ap_bbd, ap_bbc, ap_bbb, ap_sfrz, ap_setI, ap_setK, ap_for, ap_par, ap_asgT, ap_run, ap_see, ap_seeo, ap_seer, ap_getC, ap_setC, ap_sees0, ap_sees1, ap_parN, ap_view, ap_frza0, ap_frza, ap_frzc, ap_frzb, ap_frzd, ap_frzn, ap_call1, ap_c1o, ap_sar0, ap_sar1, ap_frv, ap_fro, ap_tgN, ap_tgT, fin_val, fin_own, fin_ref, fin_nx, bors_nil, bors_d, bors_b, R.bind_ok, ofO_some, ofB_some, ofOL_list, seeV, frV, vals, setAllF, wipeF, restF, callR, refsOf, argVs, putBack, setR2, setI, setK, ap_glt, ap_gle, ap_ggt, ap_gge, ap_gsub, ap_gadd, ap_gneg, ap_gix, ap_cutl, ap_cutt, ap_gtup, ap_glist, ap_glen, ap_gint, ap_gintb, ap_gabs, ap_gmax, ap_gmin, ap_isN, ap_notN, ap_geq, ap_gne, ap_eqi, ap_eqb, ap_eqs, ap_iol, ap_iot, ap_gtn, ap_gtb, ap_gti, ap_gtl, ap_gtt, ap_isn0, ap_isni, ap_isnl, ap_isnt, ap_revl, ap_revt, ap_enum, ap_zipl, ap_zipt, intsOf_map, boolsOf_map, ap_cellL, startF, List.map_cons, List.map_nil, List.length_cons, List.length_nil, List.replicate_succ, List.replicate_zero, List.cons_append, List.nil_append, List.append_nil, List.getElem?_cons_zero, List.getElem?_cons_succ, List.getElem?_nil, List.set_cons_zero, List.set_cons_succ, List.set_nil, Option.map_some, Option.map_none, Option.bind_some, Option.bind_none, Nat.reduceSub, Nat.reduceAdd, if_true, if_false, Bool.false_eq_true, reduceIte, true_and, and_true, Nat.sub_zero, Nat.zero_add, reduceCtorEq, List.nodup_nil, List.nodup_cons, List.not_mem_nil, not_false_eq_true, and_self, Bool.not_true, Bool.not_false, Bool.not_not, decide_true, decide_false, Nat.reduceLeDiff, atI0, atI1, req_true])
/-- a rule, a finite row -/
structure Ok (m : Int) (a : Tm) : Prop where
  mo : m ∈ mods
  cn : Cn m a
  len : a.length ≤ 900000
theorem modsB {m : Int} (h : m ∈ mods) : 2 ≤ m ∧ m ≤ 15 := by
  simp only [mods, List.mem_cons, List.not_mem_nil, or_false] at h
  omega
theorem firsts (a : Tm) : (a.map pr).map (fun d => match d with
    | .tuple (x :: _) => x
    | _ => .none) = iv (a.map (·.1)) := by
  simp [iv, pr, Function.comp_def]
theorem all_true (l : List PyData) : boolsOf (l.map fun _ => PyData.bool true) = some (l.map fun _ => true) := by
  have := boolsOf_map (l.map fun _ => true)
  rwa [List.map_map] at this
theorem gAll_true (l : List PyData) : gAll [.list (l.map fun _ => PyData.bool true)] = some (.bool true) := by
  simp only [gAll, all_true, Option.map_some]
  congr 2
  simp
theorem pr_mem {a : Tm} {d : PyData} (h : d ∈ a.map pr) : ∃ p ∈ a, d = .tuple [.int p.1, .int p.2] := by
  obtain ⟨p, hp, e⟩ := List.mem_map.mp h
  exact ⟨p, hp, e.symm⟩
theorem two_d {x y : PyData} : isTwo (.tuple [x, y]) = true := rfl
theorem e_is_pairs {m : Int} {a : Tm} (c : Cn m a) (hl : a.length ≤ 900000) : F_is_pairs [.d (tm a), .d (.int m)] = tell (.bool true) := by
  unfold F_is_pairs fb_is_pairs tm
  walk_at "fl"
  rw [kT]
  simp only [isT]
  walk_at "fl"
  rw [lc_all (fun _ => .bool true) (by simp; omega)]
  · walk_at "fl"
    rw [gAll_true]
    walk_at "fl"
    rw [lc_all (fun d => match d with
      | .tuple (x :: _) => x
      | _ => .none) (by simp; omega), firsts]
    · walk_at "fl"
      rw [e_ascends _ (by simp; omega), asc_cn c.so]
      walk_at "fl"
    · intro d hd
      obtain ⟨p, _, rfl⟩ := pr_mem hd
      exact ⟨_, rfl, by walk_at "fl", by walk_at "fl"⟩
  · intro d hd
    obtain ⟨p, hp, rfl⟩ := pr_mem hd
    refine ⟨_, rfl, by walk_at "fl", ?_⟩
    have hv := c.vl p hp
    repeat first | simp only [e_is_two, e_is_number, e_is_within, two_d, isNum, isWithin] | walk_at "fl"
    have e1 : decide (1 ≤ p.2) = true := decide_eq_true (by omega)
    have e2 : decide (p.2 ≤ m - 1) = true := decide_eq_true (by omega)
    rw [e1, e2]
    rfl
theorem e_is_modulus {m : Int} (h : m ∈ mods) : F_is_modulus [.d (.int m)] = tell (.bool true) := by
  unfold F_is_modulus fb_is_modulus
  repeat first | simp only [e_is_number, isNum, gInK] | walk_at "fl"
  have : m ∈ [2, 3, 5, 6, 7, 10, 11, 13, 14, 15] := h
  simp only [this]
  walk_at "fl"
theorem e_has_modulus {m : Int} {x : PyData} (h : m ∈ mods) : F_has_modulus [.d (.tuple [.int m, x])] = tell (.bool true) := by
  unfold F_has_modulus fb_has_modulus
  repeat first | simp only [e_is_two, two_d, e_is_modulus h] | walk_at "fl"
theorem e_is_rule {m : Int} {a : Tm} (h : Ok m a) : F_is_rule [.d (rule m a)] = tell (.bool true) := by
  unfold F_is_rule fb_is_rule rule
  repeat first | simp only [e_has_modulus h.mo, e_is_pairs h.cn h.len] | walk_at "fl"
/-- a round row -/
structure Rnd (m : Int) (vs : List Int) : Prop where
  mo : m ∈ mods
  ne : vs ≠ []
  rg : ∀ v ∈ vs, 0 ≤ v ∧ v < m
  len : vs.length ≤ 900000
theorem e_is_round {m : Int} {vs : List Int} (h : Rnd m vs) : F_is_round [.d (rnd m vs)] = tell (.bool true) := by
  unfold F_is_round fb_is_round rnd
  repeat first | simp only [e_has_modulus h.mo] | walk_at "fl"
  rw [kT]
  simp only [isT]
  walk_at "fl"
  have e : decide ((0 : Int) < ((iv vs).length : Int)) = true := decide_eq_true (by
    have := h.ne
    cases vs with
    | nil => exact (this rfl).elim
    | cons x r => simp [iv] <;> omega)
  rw [e]
  walk_at "fl"
  rw [lc_all (fun _ => .bool true) (by have := h.len; simp [iv]; omega)]
  · walk_at "fl"
    rw [gAll_true]
    walk_at "fl"
  · intro d hd
    obtain ⟨i, hi, rfl⟩ := iv_mem hd
    refine ⟨_, rfl, by walk_at "fl", ?_⟩
    have hv := h.rg i hi
    repeat first | simp only [e_is_within, isWithin] | walk_at "fl"
    rw [decide_eq_true (show (0 : Int) ≤ i from hv.1), decide_eq_true (show i ≤ m - 1 by omega)]
    rfl
theorem e_need_rule {m : Int} {a : Tm} (h : Ok m a) : F_need_rule [.d (rule m a)] = tell .none := by
  unfold F_need_rule fb_need_rule
  repeat first | simp only [e_is_rule h] | walk_at "fl"
theorem e_need_round {m : Int} {vs : List Int} (h : Rnd m vs) : F_need_round [.d (rnd m vs)] = tell .none := by
  unfold F_need_round fb_need_round
  repeat first | simp only [e_is_round h] | walk_at "fl"
theorem e_need_same {m : Int} {x y : PyData} : F_need_same [.d (.tuple [.int m, x]), .d (.tuple [.int m, y])] = tell .none := by
  unfold F_need_same fb_need_same
  walk_at "fl"
theorem lkp_mods : ∀ m ∈ mods, lkp [(2, [2]), (3, [3]), (5, [5]), (6, [2, 3]), (7, [7]), (10, [2, 5]), (11, [11]), (13, [13]), (14, [2, 7]), (15, [3, 5])] m = some (primesOf m) := by decide
theorem e_primes_of {m : Int} (h : m ∈ mods) : F_primes_of [.d (.int m)] = .ok (.own (.lst (iv (primesOf m)))) [] := by
  unfold F_primes_of fb_primes_of
  repeat first | simp only [e_is_modulus h] | walk_at "fl"
  simp only [gIxK, lkp_mods m h]
  walk_at "fl"
  rfl
end NA

namespace NA
open PySem PySem.Spec PyProof.Rows L2 DL FL RF
local macro_rules | `(tactic| walk_at "fl") => `(tactic| simp only [ap_var, ap_c, ap_un, ap_unV, ap_op, ap_opO, ap_fn, ap_nil, ap_cons, ap_tr, ap_b, ap_tand, ap_tor, ap_tnot, ap_and, ap_or, ap_not, ap_if, ap_chain, ap_tup, ap_lst, ap_lstO, ap_dictO, ap_frz, ap_sl, ap_no, ap_part, ap_mut, ap_call, ap_callK, ap_get, ap_dict, ap_isi, ap_rep, ap_listO, ap_seq, ap_iargs, ap_lc, ap_lcO, ap_yes, ap_sq, ap_ret, ap_drop, ap_sif, ap_nx, ap_bk, ap_ct, ap_asg, ap_setR, ap_runT, ap_bb0, ap_bbs, ap_bbn, ap_bbd, ap_bbc, ap_bbb, ap_sfrz, ap_setI, ap_setK, ap_for, ap_par, ap_asgT, ap_run, ap_see, ap_seeo, ap_seer, ap_getC, ap_setC, ap_sees0, ap_sees1, ap_parN, ap_view, ap_frza0, ap_frza, ap_frzc, ap_frzb, ap_frzd, ap_frzn, ap_call1, ap_c1o, ap_sar0, ap_sar1, ap_frv, ap_fro, ap_tgN, ap_tgT, fin_val, fin_own, fin_ref, fin_nx, bors_nil, bors_d, bors_b, R.bind_ok, ofO_some, ofB_some, ofOL_list, seeV, frV, vals, setAllF, wipeF, restF, callR, refsOf, argVs, putBack, setR2, setI, setK, ap_glt, ap_gle, ap_ggt, ap_gge, ap_gsub, ap_gadd, ap_gneg, ap_gix, ap_cutl, ap_cutt, ap_gtup, ap_glist, ap_glen, ap_gint, ap_gintb, ap_gabs, ap_gmax, ap_gmin, ap_isN, ap_notN, ap_geq, ap_gne, ap_eqi, ap_eqb, ap_eqs, ap_iol, ap_iot, ap_gtn, ap_gtb, ap_gti, ap_gtl, ap_gtt, ap_isn0, ap_isni, ap_isnl, ap_isnt, ap_revl, ap_revt, ap_enum, ap_zipl, ap_zipt, intsOf_map, boolsOf_map, ap_cellL, startF, List.map_cons, List.map_nil, List.length_cons, List.length_nil, List.replicate_succ, List.replicate_zero, List.cons_append, List.nil_append, List.append_nil, List.getElem?_cons_zero, List.getElem?_cons_succ, List.getElem?_nil, List.set_cons_zero, List.set_cons_succ, List.set_nil, Option.map_some, Option.map_none, Option.bind_some, Option.bind_none, Nat.reduceSub, Nat.reduceAdd, if_true, if_false, Bool.false_eq_true, reduceIte, true_and, and_true, Nat.sub_zero, Nat.zero_add, reduceCtorEq, List.nodup_nil, List.nodup_cons, List.not_mem_nil, not_false_eq_true, and_self, Bool.not_true, Bool.not_false, Bool.not_not, decide_true, decide_false, Nat.reduceLeDiff, atI0, atI1, req_true])
/-- what is drawn from -/
def Pot (n : Nat) (c : Cell) : Prop := ∃ a b k : Int, c = .lst [.int a, .int b, .int k] ∧ 0 ≤ b ∧ b < 10 ^ 30 ∧ 0 ≤ k ∧ k ≤ n
theorem Pot.mono {n m : Nat} {c : Cell} (h : Pot n c) (hl : n ≤ m) : Pot m c := by
  obtain ⟨a, b, k, h0, h1, h2, h3, h4⟩ := h
  exact ⟨a, b, k, h0, h1, h2, h3, by omega⟩
theorem ix0 {a b c : PyData} : atI [a, b, c] 0 = some a := atI0
theorem ix1 {a b c : PyData} : atI [a, b, c] 1 = some b := atI1
theorem ix2 {a b c : PyData} : atI [a, b, c] 2 = some c := (show atI [a, b, c] ((2 : Nat) : Int) = some c from atI_nat rfl)
theorem jx0 {n : Nat} (h : n = 3) : ixN n 0 = some 0 := h ▸ (by decide : ixN 3 0 = some 0)
theorem jx2 {n : Nat} (h : n = 3) : ixN n 2 = some 2 := h ▸ (by decide : ixN 3 2 = some 2)
theorem pw (k : Nat) (h : k ≤ 1000) : CPowB 10 (k : Int) := powB (k := 4) (by omega) (by decide) (by omega)
theorem gI_pos {C : Int → Int → Prop} {g : Int → Int → PyData} {i j : Int} (h : C i j) : gI C g (.int i) (.int j) = some (g i j) := req_pos h
theorem g_mod {i j : Int} (h : 0 < j) : FL.gMod (.int i) (.int j) = some (.int (i % j)) := gI_pos (C := fun _ j => 0 < j) h
theorem g_fdiv {i j : Int} (h : CDivW i j) : FL.gFdiv (.int i) (.int j) = some (.int (i / j)) := gI_pos h
theorem g_pow {i j : Int} (h : CPowB i j) : FL.gPow (.int i) (.int j) = some (.int (i ^ j.toNat)) := gI_pos h
theorem g_mul {i j : Int} (h : Bits i j) : FL.gMul (.int i) (.int j) = some (.int (i * j)) := gI_pos h
theorem g_add {i j : Int} : FL.gAdd (.int i) (.int j) = some (.int (i + j)) := rfl
end NA

namespace NA
open PySem PySem.Spec PyProof.Rows L2 DL FL RF
local macro_rules | `(tactic| walk_at "fl") => `(tactic| simp only [ap_var, ap_c, ap_un, ap_unV, ap_op, ap_opO, ap_fn, ap_nil, ap_cons, ap_tr, ap_b, ap_tand, ap_tor, ap_tnot, ap_and, ap_or, ap_not, ap_if, ap_chain, ap_tup, ap_lst, ap_lstO, ap_dictO, ap_frz, ap_sl, ap_no, ap_part, ap_mut, ap_call, ap_callK, ap_get, ap_dict, ap_isi, ap_rep, ap_listO, ap_seq, ap_iargs, ap_lc, ap_lcO, ap_yes, ap_sq, ap_ret, ap_drop, ap_sif, ap_nx, ap_bk, ap_ct, ap_asg, ap_setR, ap_runT, ap_bb0, ap_bbs, ap_bbn, ap_bbd, ap_bbc, ap_bbb, ap_sfrz, ap_setI, ap_setK, ap_for, ap_par, ap_asgT, ap_run, ap_see, ap_seeo, ap_seer, ap_getC, ap_setC, ap_sees0, ap_sees1, ap_parN, ap_view, ap_frza0, ap_frza, ap_frzc, ap_frzb, ap_frzd, ap_frzn, ap_call1, ap_c1o, ap_sar0, ap_sar1, ap_frv, ap_fro, ap_tgN, ap_tgT, fin_val, fin_own, fin_ref, fin_nx, bors_nil, bors_d, bors_b, R.bind_ok, ofO_some, ofB_some, ofOL_list, seeV, frV, vals, setAllF, wipeF, restF, callR, refsOf, argVs, putBack, setR2, setI, setK, ap_glt, ap_gle, ap_ggt, ap_gge, ap_gsub, ap_gadd, ap_gneg, ap_gix, ap_cutl, ap_cutt, ap_gtup, ap_glist, ap_glen, ap_gint, ap_gintb, ap_gabs, ap_gmax, ap_gmin, ap_isN, ap_notN, ap_geq, ap_gne, ap_eqi, ap_eqb, ap_eqs, ap_iol, ap_iot, ap_gtn, ap_gtb, ap_gti, ap_gtl, ap_gtt, ap_isn0, ap_isni, ap_isnl, ap_isnt, ap_revl, ap_revt, ap_enum, ap_zipl, ap_zipt, intsOf_map, boolsOf_map, ap_cellL, startF, List.map_cons, List.map_nil, List.length_cons, List.length_nil, List.replicate_succ, List.replicate_zero, List.cons_append, List.nil_append, List.append_nil, List.getElem?_cons_zero, List.getElem?_cons_succ, List.getElem?_nil, List.set_cons_zero, List.set_cons_succ, List.set_nil, Option.map_some, Option.map_none, Option.bind_some, Option.bind_none, Nat.reduceSub, Nat.reduceAdd, if_true, if_false, Bool.false_eq_true, reduceIte, true_and, and_true, Nat.sub_zero, Nat.zero_add, reduceCtorEq, List.nodup_nil, List.nodup_cons, List.not_mem_nil, not_false_eq_true, and_self, Bool.not_true, Bool.not_false, Bool.not_not, decide_true, decide_false, Nat.reduceLeDiff, atI0, atI1, req_true])
/-- what is so of an answer -/
def Told (P : FR → List Cell → Prop) : FO → Prop
  | .ok r bs => P r bs
  | _ => False
theorem told_ex {P : FR → List Cell → Prop} {o : FO} (h : Told P o) : ∃ r bs, o = .ok r bs ∧ P r bs := by
  cases o with
  | ok r bs => exact ⟨r, bs, rfl, h⟩
  | no => exact h.elim
  | ex _ _ => exact h.elim
theorem lc_rel {gf : GF} {tt : FTT} {fe : FT} {vs : List Nat} (I : Nat → FSt → Prop) (P : PyData → PyData → Prop) (B N : Nat) : ∀ (ds acc : List PyData) (n : Nat) (ε : FSt), acc.length + ds.length ≤ 1000000 → n + B * ds.length ≤ N → I n ε →
    (∀ d ∈ ds, ∀ n ε, I n ε → n + B ≤ N → ∃ ε1 ε0 y ε2, gf d (wipeF ε vs) = some ε1 ∧ tt ε1 = .ok true ε0 ∧ fe ε0 = .ok (.val y) ε2 ∧ P d y ∧ I (n + B) (restF ε ε2 vs)) →
    ∃ ys ε', fLcGo gf tt fe vs ds acc ε = .ok (acc ++ ys) ε' ∧ Paired P ds ys ∧ I (n + B * ds.length) ε'
  | [], acc, n, ε, hl, hN, hi, h => ⟨[], ε, by simp [fLcGo], .nil, by simpa using hi⟩
  | d :: ds, acc, n, ε, hl, hN, hi, h => by
    simp only [List.length_cons] at hl hN
    have hB : B * (ds.length + 1) = B + B * ds.length := by rw [Nat.mul_add, Nat.mul_one, Nat.add_comm]
    obtain ⟨ε1, ε0, y, ε2, h1, h2, h3, h4, h5⟩ := h d List.mem_cons_self n ε hi (by omega)
    obtain ⟨ys, ε', e1, e2, e3⟩ := lc_rel I P B N ds (acc ++ [y]) (n + B) (restF ε ε2 vs) (by simp; omega) (by omega) h5 fun e he => h e (List.mem_cons_of_mem _ he)
    refine ⟨y :: ys, ε', ?_, .cons h4 e2, by rw [List.length_cons, hB, ← Nat.add_assoc]; exact e3⟩
    unfold fLcGo
    simp only [h1, h2, R.bind_ok, if_true, h3]
    rw [if_pos (by omega), e1]
    simp
theorem getI {xs : List PyData} {r : Int} (h0 : 0 ≤ r) (h1 : r < xs.length) : ∃ d, atI xs r = some d ∧ d ∈ xs := by
  obtain ⟨k, rfl⟩ := Int.eq_ofNat_of_zero_le h0
  have hk : k < xs.length := by omega
  exact ⟨xs[k], atI_nat (List.getElem?_eq_getElem hk), List.getElem_mem hk⟩
theorem absB {i : Int} {k : Nat} (h : Builtin.Int.intBits i ≤ k) : Builtin.Int.intBits (if i < 0 then -i else i) ≤ k := by
  split
  · have e : Builtin.Int.intBits (-i) = Builtin.Int.intBits i := by
      unfold Builtin.Int.intBits
      simp only [Int.natAbs_neg]
      by_cases h0 : i = 0
      · subst h0; rfl
      · have h1 : ¬ -i = 0 := by omega
        simp [h0, h1]
    omega
  · exact h
theorem enumD_len : ∀ (k : Nat) (xs : List PyData), (enumD k xs).length = xs.length
  | _, [] => rfl
  | k, x :: xs => by simp [enumD, enumD_len (k + 1) xs]
theorem enumD_mem : ∀ (k : Nat) (xs : List PyData) (d : PyData), d ∈ enumD k xs → ∃ (i : Nat) (x : PyData), k ≤ i ∧ i < k + xs.length ∧ xs[i - k]? = some x ∧ d = .tuple [.int i, x]
  | _, [], d, h => by simp [enumD] at h
  | k, x :: xs, d, h => by
    rcases List.mem_cons.mp h with e | h
    · exact ⟨k, x, Nat.le_refl _, by simp, by simp, e⟩
    · obtain ⟨i, y, h1, h2, h3, h4⟩ := enumD_mem (k + 1) xs d h
      refine ⟨i, y, by omega, by simp; omega, ?_, h4⟩
      rw [show i - k = (i - (k + 1)) + 1 by omega]
      simpa using h3
theorem gSum_iv (zs : List Int) : gSum [.list (iv zs)] = some (.int zs.sum) := by
  simp only [gSum, iv, intsOf_map, Option.map_some]
end NA

namespace NA
open PySem PySem.Spec PyProof.Rows L2 DL FL RF
local macro_rules | `(tactic| walk_at "fl") => `(tactic| simp only [ap_var, ap_c, ap_un, ap_unV, ap_op, ap_opO, ap_fn, ap_nil, ap_cons, ap_tr, ap_b, ap_tand, ap_tor, ap_tnot, ap_and, ap_or, ap_not, ap_if, ap_chain, ap_tup, ap_lst, ap_lstO, ap_dictO, ap_frz, ap_sl, ap_no, ap_part, ap_mut, ap_call, ap_callK, ap_get, ap_dict, ap_isi, ap_rep, ap_listO, ap_seq, ap_iargs, ap_lc, ap_lcO, ap_yes, ap_sq, ap_ret, ap_drop, ap_sif, ap_nx, ap_bk, ap_ct, ap_asg, ap_setR, ap_runT, ap_bb0, ap_bbs, ap_bbn, ap_bbd, ap_bbc, ap_bbb, ap_sfrz, ap_setI, ap_setK, ap_for, ap_par, ap_asgT, ap_run, ap_see, ap_seeo, ap_seer, ap_getC, ap_setC, ap_sees0, ap_sees1, ap_parN, ap_view, ap_frza0, ap_frza, ap_frzc, ap_frzb, ap_frzd, ap_frzn, ap_call1, ap_c1o, ap_sar0, ap_sar1, ap_frv, ap_fro, ap_tgN, ap_tgT, fin_val, fin_own, fin_ref, fin_nx, bors_nil, bors_d, bors_b, R.bind_ok, ofO_some, ofB_some, ofOL_list, seeV, frV, vals, setAllF, wipeF, restF, callR, refsOf, argVs, putBack, setR2, setI, setK, ap_glt, ap_gle, ap_ggt, ap_gge, ap_gsub, ap_gadd, ap_gneg, ap_gix, ap_cutl, ap_cutt, ap_gtup, ap_glist, ap_glen, ap_gint, ap_gintb, ap_gabs, ap_gmax, ap_gmin, ap_isN, ap_notN, ap_geq, ap_gne, ap_eqi, ap_eqb, ap_eqs, ap_iol, ap_iot, ap_gtn, ap_gtb, ap_gti, ap_gtl, ap_gtt, ap_isn0, ap_isni, ap_isnl, ap_isnt, ap_revl, ap_revt, ap_enum, ap_zipl, ap_zipt, intsOf_map, boolsOf_map, ap_cellL, startF, List.map_cons, List.map_nil, List.length_cons, List.length_nil, List.replicate_succ, List.replicate_zero, List.cons_append, List.nil_append, List.append_nil, List.getElem?_cons_zero, List.getElem?_cons_succ, List.getElem?_nil, List.set_cons_zero, List.set_cons_succ, List.set_nil, Option.map_some, Option.map_none, Option.bind_some, Option.bind_none, Nat.reduceSub, Nat.reduceAdd, if_true, if_false, Bool.false_eq_true, reduceIte, true_and, and_true, Nat.sub_zero, Nat.zero_add, reduceCtorEq, List.nodup_nil, List.nodup_cons, List.not_mem_nil, not_false_eq_true, and_self, Bool.not_true, Bool.not_false, Bool.not_not, decide_true, decide_false, Nat.reduceLeDiff, atI0, atI1, req_true])
theorem shares : ∀ m ∈ mods, (primesOf m).length = 2 → ∀ d ∈ primesOf m, 0 < d ∧ d ≤ 20 ∧ 1 ≤ m / d - 1 := by decide
end NA

namespace NA
open PySem PySem.Spec PyProof.Rows L2 DL FL RF
local macro_rules | `(tactic| walk_at "fl") => `(tactic| simp only [ap_var, ap_c, ap_un, ap_unV, ap_op, ap_opO, ap_fn, ap_nil, ap_cons, ap_tr, ap_b, ap_tand, ap_tor, ap_tnot, ap_and, ap_or, ap_not, ap_if, ap_chain, ap_tup, ap_lst, ap_lstO, ap_dictO, ap_frz, ap_sl, ap_no, ap_part, ap_mut, ap_call, ap_callK, ap_get, ap_dict, ap_isi, ap_rep, ap_listO, ap_seq, ap_iargs, ap_lc, ap_lcO, ap_yes, ap_sq, ap_ret, ap_drop, ap_sif, ap_nx, ap_bk, ap_ct, ap_asg, ap_setR, ap_runT, ap_bb0, ap_bbs, ap_bbn, ap_bbd, ap_bbc, ap_bbb, ap_sfrz, ap_setI, ap_setK, ap_for, ap_par, ap_asgT, ap_run, ap_see, ap_seeo, ap_seer, ap_getC, ap_setC, ap_sees0, ap_sees1, ap_parN, ap_view, ap_frza0, ap_frza, ap_frzc, ap_frzb, ap_frzd, ap_frzn, ap_call1, ap_c1o, ap_sar0, ap_sar1, ap_frv, ap_fro, ap_tgN, ap_tgT, fin_val, fin_own, fin_ref, fin_nx, bors_nil, bors_d, bors_b, R.bind_ok, ofO_some, ofB_some, ofOL_list, seeV, frV, vals, setAllF, wipeF, restF, callR, refsOf, argVs, putBack, setR2, setI, setK, ap_glt, ap_gle, ap_ggt, ap_gge, ap_gsub, ap_gadd, ap_gneg, ap_gix, ap_cutl, ap_cutt, ap_gtup, ap_glist, ap_glen, ap_gint, ap_gintb, ap_gabs, ap_gmax, ap_gmin, ap_isN, ap_notN, ap_geq, ap_gne, ap_eqi, ap_eqb, ap_eqs, ap_iol, ap_iot, ap_gtn, ap_gtb, ap_gti, ap_gtl, ap_gtt, ap_isn0, ap_isni, ap_isnl, ap_isnt, ap_revl, ap_revt, ap_enum, ap_zipl, ap_zipt, intsOf_map, boolsOf_map, ap_cellL, startF, List.map_cons, List.map_nil, List.length_cons, List.length_nil, List.replicate_succ, List.replicate_zero, List.cons_append, List.nil_append, List.append_nil, List.getElem?_cons_zero, List.getElem?_cons_succ, List.getElem?_nil, List.set_cons_zero, List.set_cons_succ, List.set_nil, Option.map_some, Option.map_none, Option.bind_some, Option.bind_none, Nat.reduceSub, Nat.reduceAdd, if_true, if_false, Bool.false_eq_true, reduceIte, true_and, and_true, Nat.sub_zero, Nat.zero_add, reduceCtorEq, List.nodup_nil, List.nodup_cons, List.not_mem_nil, not_false_eq_true, and_self, Bool.not_true, Bool.not_false, Bool.not_not, decide_true, decide_false, Nat.reduceLeDiff, atI0, atI1, req_true])
def tbk (t : Tm) : KVs := t.map fun p => ((Sum.inl p.1 : Key), PyData.int p.2)
theorem tb_val {t : Tm} {k : Int} : valD (tbk t) (Sum.inl k : Key) = (tget t k).map PyData.int := by
  unfold valD tbk tget
  induction t with
  | nil => rfl
  | cons p t ih =>
    rw [List.map_cons, List.find?_cons, List.find?_cons]
    by_cases e : p.1 = k
    · simp [e]
    · have e' : ¬ (Sum.inl p.1 : Key) = Sum.inl k := fun z => e (Sum.inl.inj z)
      simp only [e, e', decide_false]
      exact ih
theorem tb_put {t : Tm} {k v : Int} : putD (tbk t) (Sum.inl k : Key) (PyData.int v) = tbk (tput t k v) := by
  unfold putD tput
  have h1 : ((tbk t).any fun kv => decide (kv.1 = (Sum.inl k : Key))) = t.any fun p => decide (p.1 = k) := by
    unfold tbk
    rw [List.any_map]
    congr 1
    funext p
    simp [Function.comp, inl_eq]
  rw [h1]
  split
  · unfold tbk
    rw [List.map_map, List.map_map]
    apply List.map_congr_left
    intro p hp
    simp only [Function.comp, inl_eq]
    split <;> rfl
  · simp [tbk]
theorem tb_get {t : Tm} {k d : Int} : (valD (tbk t) (Sum.inl k : Key)).getD (PyData.int d) = .int ((tget t k).getD d) := by
  rw [tb_val]
  cases tget t k <;> rfl
theorem tbk_len {t : Tm} : (tbk t).length = t.length := by simp [tbk]
theorem kvs_tbk {t : Tm} : kvsOf (cellD (.dct (tbk t))) = some (tbk t) := kvsOf_cell _
theorem _root_.RF.Tb.to {t : Tm} {n k : Nat} {F G : (Int → Int) → Int} (h : Tb t n F) (hn : n ≤ k) (hf : ∀ f, F f = G f) : Tb t k G := ⟨h.nd, Nat.le_trans h.ln hn, fun f => (h.ev f).trans (hf f)⟩
theorem _root_.RF.Tb.put {t : Tm} {n : Nat} {F : (Int → Int) → Int} (h : Tb t n F) (k v : Int) : Tb (tput t k ((tget t k).getD 0 + v)) (n + 1) (fun f => F f + v * f k) := by
  rw [put_ins h.nd]; exact h.ins
theorem key_int {i : Int} : keyOf (.int i) = some (Sum.inl i) := rfl
theorem dict_nil : Cell.dct [] = .dct (tbk []) := rfl
theorem bits_small {v c : Int} (hv : v.natAbs < 2 ^ 20) (hc : c.natAbs < 2 ^ 20) : Bits v c := Bits.of (a := 20) (b := 20) (bits_le hv) (bits_le hc) (by decide)
structure Sm (a : Tm) : Prop where
  ln : a.length ≤ 900
  vl : ∀ p ∈ a, p.2.natAbs < 2 ^ 20
end NA

namespace NA
open PySem PySem.Spec PyProof.Rows L2 DL FL RF
local macro_rules | `(tactic| walk_at "fl") => `(tactic| simp only [ap_var, ap_c, ap_un, ap_unV, ap_op, ap_opO, ap_fn, ap_nil, ap_cons, ap_tr, ap_b, ap_tand, ap_tor, ap_tnot, ap_and, ap_or, ap_not, ap_if, ap_chain, ap_tup, ap_lst, ap_lstO, ap_dictO, ap_frz, ap_sl, ap_no, ap_part, ap_mut, ap_call, ap_callK, ap_get, ap_dict, ap_isi, ap_rep, ap_listO, ap_seq, ap_iargs, ap_lc, ap_lcO, ap_yes, ap_sq, ap_ret, ap_drop, ap_sif, ap_nx, ap_bk, ap_ct, ap_asg, ap_setR, ap_runT, ap_bb0, ap_bbs, ap_bbn, ap_bbd, ap_bbc, ap_bbb, ap_sfrz, ap_setI, ap_setK, ap_for, ap_par, ap_asgT, ap_run, ap_see, ap_seeo, ap_seer, ap_getC, ap_setC, ap_sees0, ap_sees1, ap_parN, ap_view, ap_frza0, ap_frza, ap_frzc, ap_frzb, ap_frzd, ap_frzn, ap_call1, ap_c1o, ap_sar0, ap_sar1, ap_frv, ap_fro, ap_tgN, ap_tgT, fin_val, fin_own, fin_ref, fin_nx, bors_nil, bors_d, bors_b, R.bind_ok, ofO_some, ofB_some, ofOL_list, seeV, frV, vals, setAllF, wipeF, restF, callR, refsOf, argVs, putBack, setR2, setI, setK, ap_glt, ap_gle, ap_ggt, ap_gge, ap_gsub, ap_gadd, ap_gneg, ap_gix, ap_cutl, ap_cutt, ap_gtup, ap_glist, ap_glen, ap_gint, ap_gintb, ap_gabs, ap_gmax, ap_gmin, ap_isN, ap_notN, ap_geq, ap_gne, ap_eqi, ap_eqb, ap_eqs, ap_iol, ap_iot, ap_gtn, ap_gtb, ap_gti, ap_gtl, ap_gtt, ap_isn0, ap_isni, ap_isnl, ap_isnt, ap_revl, ap_revt, ap_enum, ap_zipl, ap_zipt, intsOf_map, boolsOf_map, ap_cellL, startF, List.map_cons, List.map_nil, List.length_cons, List.length_nil, List.replicate_succ, List.replicate_zero, List.cons_append, List.nil_append, List.append_nil, List.getElem?_cons_zero, List.getElem?_cons_succ, List.getElem?_nil, List.set_cons_zero, List.set_cons_succ, List.set_nil, Option.map_some, Option.map_none, Option.bind_some, Option.bind_none, Nat.reduceSub, Nat.reduceAdd, if_true, if_false, Bool.false_eq_true, reduceIte, true_and, and_true, Nat.sub_zero, Nat.zero_add, reduceCtorEq, List.nodup_nil, List.nodup_cons, List.not_mem_nil, not_false_eq_true, and_self, Bool.not_true, Bool.not_false, Bool.not_not, decide_true, decide_false, Nat.reduceLeDiff, atI0, atI1, req_true])
theorem mods_pos {m : Int} (h : m ∈ mods) : 0 < m := by have := modsB h; omega
theorem Sm.of {m : Int} {a : Tm} (hm : m ∈ mods) (c : Cn m a) (hl : a.length ≤ 900) : Sm a := ⟨hl, fun p hp => by have := c.vl p hp; have := modsB hm; omega⟩
theorem Ok.sm {m : Int} {a : Tm} (h : Ok m a) (hl : a.length ≤ 900) : Sm a := Sm.of h.mo h.cn hl
end NA

namespace NA
open PySem PySem.Spec PyProof.Rows L2 DL FL RF
local macro_rules | `(tactic| walk_at "fl") => `(tactic| simp only [ap_var, ap_c, ap_un, ap_unV, ap_op, ap_opO, ap_fn, ap_nil, ap_cons, ap_tr, ap_b, ap_tand, ap_tor, ap_tnot, ap_and, ap_or, ap_not, ap_if, ap_chain, ap_tup, ap_lst, ap_lstO, ap_dictO, ap_frz, ap_sl, ap_no, ap_part, ap_mut, ap_call, ap_callK, ap_get, ap_dict, ap_isi, ap_rep, ap_listO, ap_seq, ap_iargs, ap_lc, ap_lcO, ap_yes, ap_sq, ap_ret, ap_drop, ap_sif, ap_nx, ap_bk, ap_ct, ap_asg, ap_setR, ap_runT, ap_bb0, ap_bbs, ap_bbn, ap_bbd, ap_bbc, ap_bbb, ap_sfrz, ap_setI, ap_setK, ap_for, ap_par, ap_asgT, ap_run, ap_see, ap_seeo, ap_seer, ap_getC, ap_setC, ap_sees0, ap_sees1, ap_parN, ap_view, ap_frza0, ap_frza, ap_frzc, ap_frzb, ap_frzd, ap_frzn, ap_call1, ap_c1o, ap_sar0, ap_sar1, ap_frv, ap_fro, ap_tgN, ap_tgT, fin_val, fin_own, fin_ref, fin_nx, bors_nil, bors_d, bors_b, R.bind_ok, ofO_some, ofB_some, ofOL_list, seeV, frV, vals, setAllF, wipeF, restF, callR, refsOf, argVs, putBack, setR2, setI, setK, ap_glt, ap_gle, ap_ggt, ap_gge, ap_gsub, ap_gadd, ap_gneg, ap_gix, ap_cutl, ap_cutt, ap_gtup, ap_glist, ap_glen, ap_gint, ap_gintb, ap_gabs, ap_gmax, ap_gmin, ap_isN, ap_notN, ap_geq, ap_gne, ap_eqi, ap_eqb, ap_eqs, ap_iol, ap_iot, ap_gtn, ap_gtb, ap_gti, ap_gtl, ap_gtt, ap_isn0, ap_isni, ap_isnl, ap_isnt, ap_revl, ap_revt, ap_enum, ap_zipl, ap_zipt, intsOf_map, boolsOf_map, ap_cellL, startF, List.map_cons, List.map_nil, List.length_cons, List.length_nil, List.replicate_succ, List.replicate_zero, List.cons_append, List.nil_append, List.append_nil, List.getElem?_cons_zero, List.getElem?_cons_succ, List.getElem?_nil, List.set_cons_zero, List.set_cons_succ, List.set_nil, Option.map_some, Option.map_none, Option.bind_some, Option.bind_none, Nat.reduceSub, Nat.reduceAdd, if_true, if_false, Bool.false_eq_true, reduceIte, true_and, and_true, Nat.sub_zero, Nat.zero_add, reduceCtorEq, List.nodup_nil, List.nodup_cons, List.not_mem_nil, not_false_eq_true, and_self, Bool.not_true, Bool.not_false, Bool.not_not, decide_true, decide_false, Nat.reduceLeDiff, atI0, atI1, req_true])
/-- the value at a place of a round row -/
def at' (vs : List Int) (k : Int) : Int := (vs[(k % vs.length).toNat]?).getD 0
theorem at_ix {vs : List Int} (k : Int) (hn : vs ≠ []) : atI (iv vs) (k % vs.length) = some (.int (at' vs k)) := by
  have hl : (0 : Int) < vs.length := by
    cases vs with
    | nil => exact (hn rfl).elim
    | cons x r => simp <;> omega
  have h0 := Int.emod_nonneg k (Int.ne_of_gt hl)
  have h1 := Int.emod_lt_of_pos k hl
  unfold at'
  generalize k % (vs.length : Int) = j at *
  obtain ⟨n, rfl⟩ := Int.eq_ofNat_of_zero_le h0
  have hn : n < vs.length := by omega
  have : (iv vs)[n]? = some (.int vs[n]) := by simp [iv, hn]
  rw [atI_nat this]
  simp [hn]
theorem at_rg {vs : List Int} {m : Int} (h : ∀ v ∈ vs, 0 ≤ v ∧ v < m) (hm : 0 < m) (k : Int) : 0 ≤ at' vs k ∧ at' vs k < m := by
  unfold at'
  cases e : vs[(k % vs.length).toNat]? with
  | none => simp [hm]
  | some v => exact h v (List.mem_of_getElem? e)
/-- what a step leaves of a round row -/
def stepR (m : Int) (a : Tm) (vs : List Int) : List Int := (List.range vs.length).map fun (i : Nat) => (ev a fun o => at' vs ((i : Int) + o)) % m
theorem rangeD0 (n : Nat) : rangeD 0 n = iv ((List.range n).map fun (i : Nat) => (i : Int)) := by
  unfold rangeD iv
  rw [List.map_map]
  refine List.map_congr_left fun i _ => ?_
  simp
end NA

namespace NA
open PySem PySem.Spec PyProof.Rows L2 DL FL RF
local macro_rules | `(tactic| walk_at "fl") => `(tactic| simp only [ap_var, ap_c, ap_un, ap_unV, ap_op, ap_opO, ap_fn, ap_nil, ap_cons, ap_tr, ap_b, ap_tand, ap_tor, ap_tnot, ap_and, ap_or, ap_not, ap_if, ap_chain, ap_tup, ap_lst, ap_lstO, ap_dictO, ap_frz, ap_sl, ap_no, ap_part, ap_mut, ap_call, ap_callK, ap_get, ap_dict, ap_isi, ap_rep, ap_listO, ap_seq, ap_iargs, ap_lc, ap_lcO, ap_yes, ap_sq, ap_ret, ap_drop, ap_sif, ap_nx, ap_bk, ap_ct, ap_asg, ap_setR, ap_runT, ap_bb0, ap_bbs, ap_bbn, ap_bbd, ap_bbc, ap_bbb, ap_sfrz, ap_setI, ap_setK, ap_for, ap_par, ap_asgT, ap_run, ap_see, ap_seeo, ap_seer, ap_getC, ap_setC, ap_sees0, ap_sees1, ap_parN, ap_view, ap_frza0, ap_frza, ap_frzc, ap_frzb, ap_frzd, ap_frzn, ap_call1, ap_c1o, ap_sar0, ap_sar1, ap_frv, ap_fro, ap_tgN, ap_tgT, fin_val, fin_own, fin_ref, fin_nx, bors_nil, bors_d, bors_b, R.bind_ok, ofO_some, ofB_some, ofOL_list, seeV, frV, vals, setAllF, wipeF, restF, callR, refsOf, argVs, putBack, setR2, setI, setK, ap_glt, ap_gle, ap_ggt, ap_gge, ap_gsub, ap_gadd, ap_gneg, ap_gix, ap_cutl, ap_cutt, ap_gtup, ap_glist, ap_glen, ap_gint, ap_gintb, ap_gabs, ap_gmax, ap_gmin, ap_isN, ap_notN, ap_geq, ap_gne, ap_eqi, ap_eqb, ap_eqs, ap_iol, ap_iot, ap_gtn, ap_gtb, ap_gti, ap_gtl, ap_gtt, ap_isn0, ap_isni, ap_isnl, ap_isnt, ap_revl, ap_revt, ap_enum, ap_zipl, ap_zipt, intsOf_map, boolsOf_map, ap_cellL, startF, List.map_cons, List.map_nil, List.length_cons, List.length_nil, List.replicate_succ, List.replicate_zero, List.cons_append, List.nil_append, List.append_nil, List.getElem?_cons_zero, List.getElem?_cons_succ, List.getElem?_nil, List.set_cons_zero, List.set_cons_succ, List.set_nil, Option.map_some, Option.map_none, Option.bind_some, Option.bind_none, Nat.reduceSub, Nat.reduceAdd, if_true, if_false, Bool.false_eq_true, reduceIte, true_and, and_true, Nat.sub_zero, Nat.zero_add, reduceCtorEq, List.nodup_nil, List.nodup_cons, List.not_mem_nil, not_false_eq_true, and_self, Bool.not_true, Bool.not_false, Bool.not_not, decide_true, decide_false, Nat.reduceLeDiff, atI0, atI1, req_true])
def vl (c : Tm) (k : Int) : Int := ev c (ind k)
def ones (Q : List Int) : Tm := Q.map fun q => (q, 1)
theorem Cn.pl {m : Int} {a : Tm} (hm : m ≤ 100) (c : Cn m a) (hp : ∀ p ∈ a, p.1.natAbs < 10 ^ 62) : ∀ x ∈ a.map pr, Pl 1 2 x := fun x hx => by
  obtain ⟨p, h1, rfl⟩ := List.mem_map.mp hx
  have := c.vl p h1
  exact Pl.pair (Pl.int (hp p h1)) (Pl.int (Nat.lt_of_lt_of_le (m := 100) (by omega) (by decide)))
theorem g_repr {d : PyData} (h : Show d) : gRepr [d] = some (.str d.shown) := req_pos h
end NA

namespace NA
open PySem PySem.Spec PyProof.Rows L2 DL FL RF
local macro_rules | `(tactic| walk_at "fl") => `(tactic| simp only [ap_var, ap_c, ap_un, ap_unV, ap_op, ap_opO, ap_fn, ap_nil, ap_cons, ap_tr, ap_b, ap_tand, ap_tor, ap_tnot, ap_and, ap_or, ap_not, ap_if, ap_chain, ap_tup, ap_lst, ap_lstO, ap_dictO, ap_frz, ap_sl, ap_no, ap_part, ap_mut, ap_call, ap_callK, ap_get, ap_dict, ap_isi, ap_rep, ap_listO, ap_seq, ap_iargs, ap_lc, ap_lcO, ap_yes, ap_sq, ap_ret, ap_drop, ap_sif, ap_nx, ap_bk, ap_ct, ap_asg, ap_setR, ap_runT, ap_bb0, ap_bbs, ap_bbn, ap_bbd, ap_bbc, ap_bbb, ap_sfrz, ap_setI, ap_setK, ap_for, ap_par, ap_asgT, ap_run, ap_see, ap_seeo, ap_seer, ap_getC, ap_setC, ap_sees0, ap_sees1, ap_parN, ap_view, ap_frza0, ap_frza, ap_frzc, ap_frzb, ap_frzd, ap_frzn, ap_call1, ap_c1o, ap_sar0, ap_sar1, ap_frv, ap_fro, ap_tgN, ap_tgT, fin_val, fin_own, fin_ref, fin_nx, bors_nil, bors_d, bors_b, R.bind_ok, ofO_some, ofB_some, ofOL_list, seeV, frV, vals, setAllF, wipeF, restF, callR, refsOf, argVs, putBack, setR2, setI, setK, ap_glt, ap_gle, ap_ggt, ap_gge, ap_gsub, ap_gadd, ap_gneg, ap_gix, ap_cutl, ap_cutt, ap_gtup, ap_glist, ap_glen, ap_gint, ap_gintb, ap_gabs, ap_gmax, ap_gmin, ap_isN, ap_notN, ap_geq, ap_gne, ap_eqi, ap_eqb, ap_eqs, ap_iol, ap_iot, ap_gtn, ap_gtb, ap_gti, ap_gtl, ap_gtt, ap_isn0, ap_isni, ap_isnl, ap_isnt, ap_revl, ap_revt, ap_enum, ap_zipl, ap_zipt, intsOf_map, boolsOf_map, ap_cellL, startF, List.map_cons, List.map_nil, List.length_cons, List.length_nil, List.replicate_succ, List.replicate_zero, List.cons_append, List.nil_append, List.append_nil, List.getElem?_cons_zero, List.getElem?_cons_succ, List.getElem?_nil, List.set_cons_zero, List.set_cons_succ, List.set_nil, Option.map_some, Option.map_none, Option.bind_some, Option.bind_none, Nat.reduceSub, Nat.reduceAdd, if_true, if_false, Bool.false_eq_true, reduceIte, true_and, and_true, Nat.sub_zero, Nat.zero_add, reduceCtorEq, List.nodup_nil, List.nodup_cons, List.not_mem_nil, not_false_eq_true, and_self, Bool.not_true, Bool.not_false, Bool.not_not, decide_true, decide_false, Nat.reduceLeDiff, atI0, atI1, req_true])
theorem sum_mod {P : Int} (hP : 0 < P) : ∀ ns : List Int, 0 ≤ (ns.map fun x => x % P).sum ∧ (ns.map fun x => x % P).sum ≤ ns.length * P
  | [] => by simp
  | x :: ns => by
    obtain ⟨h1, h2⟩ := sum_mod hP ns
    have h3 := Int.emod_nonneg x (b := P) (by omega)
    have h4 := Int.emod_lt_of_pos x hP
    rw [List.map_cons, List.sum_cons, List.length_cons]
    refine ⟨by omega, ?_⟩
    have : ((ns.length + 1 : Nat) : Int) * P = ns.length * P + P := by rw [Int.natCast_add, Int.add_mul]; simp
    omega
def primes6 : List Int := [2, 3, 5, 7, 11, 13]
theorem p6_mods {p : Int} (h : p ∈ primes6) : p ∈ mods := by
  revert h; revert p; decide
def backI (v p : Int) : Int := (((List.range p.toNat).map fun (i : Nat) => (i : Int)).filter fun k => decide (k * v % p = 1)).headD 0
theorem back_ok {p v : Int} (hp : p ∈ primes6) (h0 : 0 < v) (h1 : v < p) : 0 < backI v p ∧ backI v p < p ∧ backI v p * v % p = 1 := by
  have key : ∀ p ∈ primes6, ∀ v ∈ (List.range p.toNat).map fun (i : Nat) => (i : Int), 0 < v → 0 < backI v p ∧ backI v p < p ∧ backI v p * v % p = 1 := by decide
  refine key p hp v ?_ h0
  exact List.mem_map.mpr ⟨v.toNat, List.mem_range.mpr (by omega), by omega⟩
end NA

namespace NA
open PySem PySem.Spec PyProof.Rows L2 DL FL RF
local macro_rules | `(tactic| walk_at "fl") => `(tactic| simp only [ap_var, ap_c, ap_un, ap_unV, ap_op, ap_opO, ap_fn, ap_nil, ap_cons, ap_tr, ap_b, ap_tand, ap_tor, ap_tnot, ap_and, ap_or, ap_not, ap_if, ap_chain, ap_tup, ap_lst, ap_lstO, ap_dictO, ap_frz, ap_sl, ap_no, ap_part, ap_mut, ap_call, ap_callK, ap_get, ap_dict, ap_isi, ap_rep, ap_listO, ap_seq, ap_iargs, ap_lc, ap_lcO, ap_yes, ap_sq, ap_ret, ap_drop, ap_sif, ap_nx, ap_bk, ap_ct, ap_asg, ap_setR, ap_runT, ap_bb0, ap_bbs, ap_bbn, ap_bbd, ap_bbc, ap_bbb, ap_sfrz, ap_setI, ap_setK, ap_for, ap_par, ap_asgT, ap_run, ap_see, ap_seeo, ap_seer, ap_getC, ap_setC, ap_sees0, ap_sees1, ap_parN, ap_view, ap_frza0, ap_frza, ap_frzc, ap_frzb, ap_frzd, ap_frzn, ap_call1, ap_c1o, ap_sar0, ap_sar1, ap_frv, ap_fro, ap_tgN, ap_tgT, fin_val, fin_own, fin_ref, fin_nx, bors_nil, bors_d, bors_b, R.bind_ok, ofO_some, ofB_some, ofOL_list, seeV, frV, vals, setAllF, wipeF, restF, callR, refsOf, argVs, putBack, setR2, setI, setK, ap_glt, ap_gle, ap_ggt, ap_gge, ap_gsub, ap_gadd, ap_gneg, ap_gix, ap_cutl, ap_cutt, ap_gtup, ap_glist, ap_glen, ap_gint, ap_gintb, ap_gabs, ap_gmax, ap_gmin, ap_isN, ap_notN, ap_geq, ap_gne, ap_eqi, ap_eqb, ap_eqs, ap_iol, ap_iot, ap_gtn, ap_gtb, ap_gti, ap_gtl, ap_gtt, ap_isn0, ap_isni, ap_isnl, ap_isnt, ap_revl, ap_revt, ap_enum, ap_zipl, ap_zipt, intsOf_map, boolsOf_map, ap_cellL, startF, List.map_cons, List.map_nil, List.length_cons, List.length_nil, List.replicate_succ, List.replicate_zero, List.cons_append, List.nil_append, List.append_nil, List.getElem?_cons_zero, List.getElem?_cons_succ, List.getElem?_nil, List.set_cons_zero, List.set_cons_succ, List.set_nil, Option.map_some, Option.map_none, Option.bind_some, Option.bind_none, Nat.reduceSub, Nat.reduceAdd, if_true, if_false, Bool.false_eq_true, reduceIte, true_and, and_true, Nat.sub_zero, Nat.zero_add, reduceCtorEq, List.nodup_nil, List.nodup_cons, List.not_mem_nil, not_false_eq_true, and_self, Bool.not_true, Bool.not_false, Bool.not_not, decide_true, decide_false, Nat.reduceLeDiff, atI0, atI1, req_true])
def pv : List Int → (Int → Int) → Int
  | [], _ => 0
  | x :: r, f => x * f 0 + pv r (fun i => f (i + 1))
theorem pv_cons {x : Int} {r : List Int} {f : Int → Int} : pv (x :: r) f = x * f 0 + pv r (fun i => f (i + 1)) := rfl
theorem pv_congr : ∀ {a : List Int} {f g : Int → Int}, (∀ i : Int, 0 ≤ i → i < a.length → f i = g i) → pv a f = pv a g
  | [], _, _, _ => rfl
  | x :: r, f, g, h => by
    unfold pv
    rw [h 0 (by omega) (by simp <;> omega), pv_congr fun i h0 h1 => h (i + 1) (by omega) (by simp <;> omega)]
theorem pv_mul : ∀ {a : List Int} {c : Int} {f : Int → Int}, pv a (fun i => c * f i) = c * pv a f
  | [], c, f => by simp [pv]
  | x :: r, c, f => by
    unfold pv
    rw [pv_mul (a := r) (c := c) (f := fun i => f (i + 1)), Int.mul_add, Int.mul_left_comm]
theorem pv_zero : ∀ {a : List Int} {f : Int → Int}, (∀ i : Int, 0 ≤ i → i < a.length → f i = 0) → pv a f = 0
  | [], _, _ => rfl
  | x :: r, f, h => by
    unfold pv
    rw [h 0 (by omega) (by simp <;> omega), pv_zero fun i h0 h1 => h (i + 1) (by omega) (by simp <;> omega)]; simp
theorem pv_md {m : Int} : ∀ {a : List Int} {f g : Int → Int}, (∀ x, Md m (f x) (g x)) → Md m (pv a f) (pv a g)
  | [], _, _, _ => .refl
  | x :: r, f, g, h => by unfold pv; exact (h 0).mul.add (pv_md fun i => h (i + 1))
theorem pv_set : ∀ {a : List Int} {k : Nat} {x : Int} {f : Int → Int} (h : k < a.length), pv (a.set k x) f = pv a f + (x - a[k]) * f k
  | y :: r, 0, x, f, h => by
    rw [List.set_cons_zero]
    unfold pv
    simp only [List.getElem_cons_zero, Int.sub_mul]
    simp
    omega
  | y :: r, k + 1, x, f, h => by
    rw [List.set_cons_succ]
    unfold pv
    rw [pv_set (by simpa using h)]
    simp only [List.getElem_cons_succ]
    have : (((k + 1 : Nat)) : Int) = (k : Int) + 1 := by omega
    rw [this]
    omega
theorem pv_rep : ∀ {n : Nat} {f : Int → Int}, pv (List.replicate n 0) f = 0
  | 0, f => rfl
  | n + 1, f => by rw [List.replicate_succ]; unfold pv; rw [pv_rep]; simp
/-- one coefficient -/
def at1 (n : Int) : Int → Int := fun i => if i = n then 1 else 0
theorem pv_at : ∀ {a : List Int} {k : Nat} (h : k < a.length), pv a (at1 k) = a[k]
  | x :: r, 0, h => by
    unfold pv
    rw [pv_zero fun i h0 _ => by unfold at1; rw [if_neg (by omega)]]
    simp [at1]
  | x :: r, k + 1, h => by
    unfold pv
    have e : (fun i : Int => at1 ((k + 1 : Nat) : Int) (i + 1)) = at1 (k : Int) := by
      funext i
      unfold at1
      by_cases z : i = (k : Int)
      · rw [if_pos (by omega), if_pos z]
      · rw [if_neg (by omega), if_neg z]
    rw [e, pv_at (by simpa using h)]
    have : at1 ((k + 1 : Nat) : Int) 0 = 0 := by unfold at1; rw [if_neg (by omega)]
    rw [this]
    simp
def padd : List Int → List Int → List Int
  | [], b => b
  | a, [] => a
  | x :: a, y :: b => (x + y) :: padd a b
theorem pv_padd : ∀ {a b : List Int} {f : Int → Int}, pv (padd a b) f = pv a f + pv b f
  | [], b, f => by simp [padd, pv]
  | x :: a, [], f => by simp [padd, pv]
  | x :: a, y :: b, f => by
    unfold padd pv
    rw [pv_padd (a := a) (b := b), Int.add_mul]; omega
theorem pv_scale : ∀ {a : List Int} {c : Int} {f : Int → Int}, pv (a.map (c * ·)) f = c * pv a f
  | [], c, f => by simp [pv]
  | x :: a, c, f => by
    rw [List.map_cons]
    unfold pv
    rw [pv_scale, Int.mul_add, Int.mul_assoc]
def pmul : List Int → List Int → List Int
  | [], _ => []
  | x :: a, b => padd (b.map (x * ·)) (0 :: pmul a b)
theorem pv_pmul : ∀ {a b : List Int} {f : Int → Int}, pv (pmul a b) f = pv a fun i => pv b fun j => f (i + j)
  | [], b, f => rfl
  | x :: a, b, f => by
    unfold pmul
    rw [pv_padd, pv_scale]
    show x * pv b f + (0 * f 0 + pv (pmul a b) fun i => f (i + 1)) = x * (pv b fun j => f (0 + j)) + pv a fun i => pv b fun j => f (i + 1 + j)
    rw [pv_pmul]
    have e1 : pv b f = pv b fun j => f (0 + j) := pv_congr fun i _ _ => by rw [Int.zero_add]
    have e2 : (pv a fun i => pv b fun j => f (i + j + 1)) = pv a fun i => pv b fun j => f (i + 1 + j) := pv_congr fun i _ _ => pv_congr fun j _ _ => by congr 1; omega
    rw [e1, e2]; simp
def Dv (p : Int) (d : List Int) (A : (Int → Int) → Int) : Prop := ∃ q : List Int, ∀ f, Md p (A f) (pv q fun i => pv d fun j => f (i + j))
theorem Dv.congr {p : Int} {d : List Int} {A B : (Int → Int) → Int} (h : Dv p d A) (e : ∀ f, Md p (B f) (A f)) : Dv p d B := let ⟨q, h⟩ := h; ⟨q, fun f => (e f).trans (h f)⟩
theorem Dv.add {p : Int} {d : List Int} {A B : (Int → Int) → Int} (h : Dv p d A) (g : Dv p d B) : Dv p d (fun f => A f + B f) := by
  obtain ⟨q, h⟩ := h
  obtain ⟨r, g⟩ := g
  exact ⟨padd q r, fun f => by rw [pv_padd]; exact (h f).add (g f)⟩
theorem Dv.mul {p : Int} {d b q : List Int} (h : Dv p d (pv b)) : Dv p d (fun f => pv q fun i => pv b fun j => f (i + j)) := by
  obtain ⟨r, h⟩ := h
  refine ⟨pmul q r, fun f => ?_⟩
  rw [pv_pmul]
  refine pv_md fun i => (h fun j => f (i + j)).trans (.of ?_)
  refine pv_congr fun k _ _ => pv_congr fun j _ _ => ?_
  rw [Int.add_assoc]
theorem Dv.scale {p : Int} {d : List Int} {A : (Int → Int) → Int} {c : Int} (h : Dv p d A) : Dv p d (fun f => c * A f) := by
  obtain ⟨q, h⟩ := h
  exact ⟨q.map (c * ·), fun f => by rw [pv_scale]; exact (h f).mul⟩
theorem Dv.nil {p : Int} {d : List Int} : Dv p d (pv []) := ⟨[], fun f => .refl⟩
/-- rests modulo p -/
def Pn (p : Int) (a : List Int) : Prop := ∀ x ∈ a, 0 ≤ x ∧ x < p
/-- no nought at the end -/
def Td (a : List Int) : Prop := ∀ h : a ≠ [], a.getLast h ≠ 0
structure IsRem (p : Int) (a b r : List Int) : Prop where
  pn : Pn p r
  td : Td r
  lt : r.length < b.length
  ev : ∃ q, ∀ f, Md p (pv a f) (pv r f + pv q fun i => pv b fun j => f (i + j))
theorem IsRem.dv {p : Int} {a b r d : List Int} (h : IsRem p a b r) (hb : Dv p d (pv b)) : Dv p d (pv a) ↔ Dv p d (pv r) := by
  obtain ⟨q, e⟩ := h.ev
  constructor
  · intro ha
    have h1 := ha.add ((hb.mul (q := q)).scale (c := -1))
    exact h1.congr fun f => by
      obtain ⟨k, hk⟩ := e f
      exact ⟨-k, by rw [Int.mul_neg]; omega⟩
  · intro hr
    exact (hr.add (hb.mul (q := q))).congr e
inductive Euc (p : Int) : List Int → List Int → List Int → Prop
  | done (a : List Int) : Euc p a [] a
  | turn {a b r g : List Int} : b ≠ [] → IsRem p a b r → Euc p b r g → Euc p a b g
theorem Euc.dv {p : Int} {a b g d : List Int} (h : Euc p a b g) : Dv p d (pv g) ↔ Dv p d (pv a) ∧ Dv p d (pv b) := by
  induction h with
  | done a => exact ⟨fun h => ⟨h, .nil⟩, fun h => h.1⟩
  | turn hb hr _ ih =>
    rw [ih]
    exact ⟨fun h => ⟨(hr.dv h.1).mpr h.2, h.1⟩, fun h => ⟨h.2, (hr.dv h.2).mp h.1⟩⟩
end NA

namespace NA
open PySem PySem.Spec PyProof.Rows L2 DL FL RF
local macro_rules | `(tactic| walk_at "fl") => `(tactic| simp only [ap_var, ap_c, ap_un, ap_unV, ap_op, ap_opO, ap_fn, ap_nil, ap_cons, ap_tr, ap_b, ap_tand, ap_tor, ap_tnot, ap_and, ap_or, ap_not, ap_if, ap_chain, ap_tup, ap_lst, ap_lstO, ap_dictO, ap_frz, ap_sl, ap_no, ap_part, ap_mut, ap_call, ap_callK, ap_get, ap_dict, ap_isi, ap_rep, ap_listO, ap_seq, ap_iargs, ap_lc, ap_lcO, ap_yes, ap_sq, ap_ret, ap_drop, ap_sif, ap_nx, ap_bk, ap_ct, ap_asg, ap_setR, ap_runT, ap_bb0, ap_bbs, ap_bbn, ap_bbd, ap_bbc, ap_bbb, ap_sfrz, ap_setI, ap_setK, ap_for, ap_par, ap_asgT, ap_run, ap_see, ap_seeo, ap_seer, ap_getC, ap_setC, ap_sees0, ap_sees1, ap_parN, ap_view, ap_frza0, ap_frza, ap_frzc, ap_frzb, ap_frzd, ap_frzn, ap_call1, ap_c1o, ap_sar0, ap_sar1, ap_frv, ap_fro, ap_tgN, ap_tgT, fin_val, fin_own, fin_ref, fin_nx, bors_nil, bors_d, bors_b, R.bind_ok, ofO_some, ofB_some, ofOL_list, seeV, frV, vals, setAllF, wipeF, restF, callR, refsOf, argVs, putBack, setR2, setI, setK, ap_glt, ap_gle, ap_ggt, ap_gge, ap_gsub, ap_gadd, ap_gneg, ap_gix, ap_cutl, ap_cutt, ap_gtup, ap_glist, ap_glen, ap_gint, ap_gintb, ap_gabs, ap_gmax, ap_gmin, ap_isN, ap_notN, ap_geq, ap_gne, ap_eqi, ap_eqb, ap_eqs, ap_iol, ap_iot, ap_gtn, ap_gtb, ap_gti, ap_gtl, ap_gtt, ap_isn0, ap_isni, ap_isnl, ap_isnt, ap_revl, ap_revt, ap_enum, ap_zipl, ap_zipt, intsOf_map, boolsOf_map, ap_cellL, startF, List.map_cons, List.map_nil, List.length_cons, List.length_nil, List.replicate_succ, List.replicate_zero, List.cons_append, List.nil_append, List.append_nil, List.getElem?_cons_zero, List.getElem?_cons_succ, List.getElem?_nil, List.set_cons_zero, List.set_cons_succ, List.set_nil, Option.map_some, Option.map_none, Option.bind_some, Option.bind_none, Nat.reduceSub, Nat.reduceAdd, if_true, if_false, Bool.false_eq_true, reduceIte, true_and, and_true, Nat.sub_zero, Nat.zero_add, reduceCtorEq, List.nodup_nil, List.nodup_cons, List.not_mem_nil, not_false_eq_true, and_self, Bool.not_true, Bool.not_false, Bool.not_not, decide_true, decide_false, Nat.reduceLeDiff, atI0, atI1, req_true])
theorem ixN_of {n : Nat} {i : Int} (h0 : 0 ≤ i) (h1 : i < n) : ixN n i = some i.toNat := by
  unfold ixN
  rw [if_pos h0, if_pos h1]
def cg (a : List Int) (i : Int) : Int := (a[i.toNat]?).getD 0
theorem cg_ix {a : List Int} {i : Int} (h0 : 0 ≤ i) (h1 : i < a.length) : atI (iv a) i = some (.int (cg a i)) := by
  obtain ⟨k, rfl⟩ := Int.eq_ofNat_of_zero_le h0
  have hk : k < a.length := by omega
  refine atI_nat ?_
  simp [iv, cg, hk]
theorem cg_mem {a : List Int} {i : Int} (h0 : 0 ≤ i) (h1 : i < a.length) : cg a i ∈ a := by
  unfold cg
  have hk : i.toNat < a.length := by omega
  rw [List.getElem?_eq_getElem hk]
  exact List.getElem_mem hk
theorem pv_setI {a : List Int} {i x : Int} {f : Int → Int} (h0 : 0 ≤ i) (h1 : i < a.length) : pv (a.set i.toNat x) f = pv a f + (x - cg a i) * f i := by
  have hk : i.toNat < a.length := by omega
  rw [pv_set hk]
  unfold cg
  rw [List.getElem?_eq_getElem hk, Option.getD_some]
  congr 2
  congr 1
  omega
theorem iv_len {a : List Int} : (iv a).length = a.length := by simp [iv]
theorem iv_set {a : List Int} {k : Nat} {x : Int} : (iv a).set k (.int x) = iv (a.set k x) := by
  unfold iv
  rw [List.map_set]
theorem pn_set {p : Int} {a : List Int} {k : Nat} {x : Int} (h : Pn p a) (h0 : 0 ≤ x) (h1 : x < p) : Pn p (a.set k x) := fun y hy => by
  rcases List.mem_or_eq_of_mem_set hy with z | rfl
  · exact h y z
  · exact ⟨h0, h1⟩
theorem paired_rg {ys ds : List PyData} {m : Int} (h : PySem.Paired (fun _ r => ∃ v : Int, r = PyData.int v ∧ 0 ≤ v ∧ v < m) ds ys) : ∃ vs, ys = iv vs ∧ Pn m vs ∧ vs.length = ds.length := by
  induction h with
  | nil => exact ⟨[], rfl, (fun v h => by cases h), rfl⟩
  | cons h _ ih =>
    obtain ⟨v, rfl, h0, h1⟩ := h
    obtain ⟨vs, rfl, h2, h3⟩ := ih
    refine ⟨v :: vs, rfl, fun w hw => ?_, by simp [h3]⟩
    rcases List.mem_cons.mp hw with rfl | z
    · exact ⟨h0, h1⟩
    · exact h2 w z
/-- a polynomial: its first and its last coefficient are not nought -/
structure Pl (p : Int) (a : List Int) : Prop where
  pn : Pn p a
  ne : a ≠ []
  fs : cg a 0 ≠ 0
  ls : cg a (a.length - 1 : Nat) ≠ 0
theorem Pl.td {p : Int} {a : List Int} (h : Pl p a) : Td a := fun hn => by
  have := h.ls
  rw [List.getLast_eq_getElem]
  have hl := List.length_pos_iff.mpr hn
  unfold cg at this
  rw [Int.toNat_natCast, List.getElem?_eq_getElem (by omega), Option.getD_some] at this
  exact this
theorem Pl.pos {p : Int} {a : List Int} (h : Pl p a) : 0 < a.length := List.length_pos_iff.mpr h.ne
theorem prod_in {x0 x1 : Option FV} {p at0 v : Int} (hp : p ∈ primes6) (h0 : 0 ≤ at0) (v0 : 0 ≤ v) (v1 : v < p) : ∀ (b : List Int) (k : Nat) (cs : List Int) (y z u : Option FV), bb y = false → bb z = false → bb u = false → Pn p b → Pn p cs → at0 + k + b.length ≤ cs.length →
    ∃ cs' y' z' u', fsGo (tgT [6, 7]) lb__law_product_2 (enumD k (iv b)) [x0, x1, some (.d (.int p)), some (.c (.lst (iv cs))), some (.d (.int at0)), some (.d (.int v)), y, z, u]
      = .ok .nx [x0, x1, some (.d (.int p)), some (.c (.lst (iv cs'))), some (.d (.int at0)), some (.d (.int v)), y', z', u'] ∧ bb y' = false ∧ bb z' = false ∧ bb u' = false ∧ Pn p cs' ∧ cs'.length = cs.length ∧ ∀ f, Md p (pv cs' f) (pv cs f + v * pv b fun j => f (at0 + k + j))
  | [], k, cs, y, z, u, hy, hz, hu, _, pc, _ => ⟨cs, y, z, u, rfl, hy, hz, hu, pc, rfl, fun f => .of (by simp [pv])⟩
  | x :: b, k, cs, y, z, u, hy, hz, hu, pb, pc, hl => by
    have mb := modsB (p6_mods hp)
    have hx := pb x List.mem_cons_self
    simp only [List.length_cons] at hl
    have j0 : 0 ≤ at0 + (k : Int) := by omega
    have j1 : at0 + (k : Int) < cs.length := by omega
    have hc := pc _ (cg_mem j0 j1)
    have g1 := g_mul (i := v) (j := x) (bits_small (by omega) (by omega))
    have pm : 0 < p := by omega
    obtain ⟨cs', y', z', u', e, q1, q2, q3, q4, q5, q6⟩ := prod_in (x0 := x0) (x1 := x1) hp h0 v0 v1 b (k + 1) (cs.set (at0 + k).toNat ((cg cs (at0 + k) + v * x) % p)) (some (.d (.int k))) (some (.d (.int x))) (some (.d (.int (cg cs (at0 + k) + v * x)))) rfl rfl rfl
      (fun w hw => pb w (List.mem_cons_of_mem _ hw)) (pn_set pc (Int.emod_nonneg _ (by omega)) (Int.emod_lt_of_pos _ pm)) (by rw [List.length_set]; omega)
    refine ⟨cs', y', z', u', ?_, q1, q2, q3, q4, by rw [q5, List.length_set], fun f => ?_⟩
    · rw [show enumD k (iv (x :: b)) = .tuple [.int k, .int x] :: enumD (k + 1) (iv b) from rfl]
      refine (go_nx ?_).trans e
      have i1 : ixN (iv cs).length (at0 + (k : Int)) = some (at0 + (k : Int)).toNat := ixN_of j0 (by rw [iv_len]; exact j1)
      unfold lb__law_product_2
      repeat first | simp only [hy, hz, hu, g_add, g1, cg_ix j0 j1, g_mod pm, i1, iv_set] | walk_at "fl"
    · refine (q6 f).trans ?_
      rw [pv_setI j0 j1, pv_cons]
      have e1 : (pv b fun j => f (at0 + ((k + 1 : Nat) : Int) + j)) = pv b fun i => f (at0 + (k : Int) + (i + 1)) := pv_congr fun i _ _ => by congr 1; omega
      rw [e1, Int.add_zero, Int.mul_add, ← Int.add_assoc]
      refine Md.add ?_ .refl
      have h2 : Md p ((cg cs (at0 + k) + v * x) % p - cg cs (at0 + k)) (v * x) := by
        obtain ⟨t, ht⟩ := Md.rest (m := p) (a := cg cs (at0 + k) + v * x)
        exact ⟨t, by omega⟩
      have h3 := (Md.refl (m := p) (a := pv cs f)).add (h2.mulr (c := f (at0 + k)))
      refine h3.trans (.of ?_)
      rw [Int.mul_assoc]
theorem prod_out {x0 : Option FV} {p : Int} {b : List Int} (hp : p ∈ primes6) (pb : Pn p b) : ∀ (a : List Int) (k : Nat) (cs : List Int) (s t y z u : Option FV), bb s = false → bb t = false → bb y = false → bb z = false → bb u = false → Pn p a → Pn p cs → a.length + k + b.length ≤ cs.length + 1 →
    ∃ cs' s' t' y' z' u', fsGo (tgT [4, 5]) lb__law_product_1 (enumD k (iv a)) [x0, some (.d (.list (iv b))), some (.d (.int p)), some (.c (.lst (iv cs))), s, t, y, z, u]
      = .ok .nx [x0, some (.d (.list (iv b))), some (.d (.int p)), some (.c (.lst (iv cs'))), s', t', y', z', u'] ∧ Pn p cs' ∧ cs'.length = cs.length ∧ ∀ f, Md p (pv cs' f) (pv cs f + pv a fun i => pv b fun j => f (k + i + j))
  | [], k, cs, s, t, y, z, u, _, _, _, _, _, _, pc, _ => ⟨cs, s, t, y, z, u, rfl, pc, rfl, fun f => .of (by simp [pv])⟩
  | x :: a, k, cs, s, t, y, z, u, hs, ht, hy, hz, hu, pa, pc, hl => by
    have hx := pa x List.mem_cons_self
    simp only [List.length_cons] at hl
    obtain ⟨c1, y1, z1, u1, e1, b1, b2, b3, p1, l1, m1⟩ := prod_in (x0 := x0) (x1 := some (.d (.list (iv b)))) (at0 := (k : Int)) hp (by omega) hx.1 hx.2 b 0 cs y z u hy hz hu pb pc (by omega)
    obtain ⟨cs', s', t', y', z', u', e, q1, q2, q3⟩ := prod_out (x0 := x0) hp pb a (k + 1) c1 (some (.d (.int k))) (some (.d (.int x))) y1 z1 u1 rfl rfl b1 b2 b3 (fun w hw => pa w (List.mem_cons_of_mem _ hw)) p1 (by rw [l1]; omega)
    refine ⟨cs', s', t', y', z', u', ?_, q1, by rw [q2, l1], fun f => ?_⟩
    · rw [show enumD k (iv (x :: a)) = .tuple [.int k, .int x] :: enumD (k + 1) (iv a) from rfl]
      refine (go_nx ?_).trans e
      unfold lb__law_product_1
      repeat first | simp only [hs, ht, gEnum, e1] | walk_at "fl"
    · refine (q3 f).trans ?_
      rw [pv_cons, ← Int.add_assoc]
      refine ((m1 f).add ?_)
      refine .of (pv_congr fun i _ _ => pv_congr fun j _ _ => ?_)
      congr 1
      omega
theorem md_prime {p x y : Int} (hp : p ∈ primes6) (hx0 : 0 < x) (hx1 : x < p) (hy0 : 0 < y) (hy1 : y < p) : ¬ Md p (x * y) 0 := fun h => by
  obtain ⟨u0, u1, u2⟩ := back_ok hp hy0 hy1
  have h8 : Md p (backI y p * y) 1 := by
    have := (Md.rest (m := p) (a := backI y p * y)).symm
    rw [u2] at this
    exact this
  have h9 : Md p x 0 := by
    have k1 := h8.mul (c := x)
    rw [Int.mul_one] at k1
    have k2 := h.mul (c := backI y p)
    rw [Int.mul_zero] at k2
    refine k1.symm.trans (Md.trans (.of ?_) k2)
    rw [Int.mul_left_comm]
  have := h9.eq (by omega) hx1 (by omega) (by omega)
  omega
theorem pl_prod {p : Int} {a b r : List Int} (hp : p ∈ primes6) (ha : Pl p a) (hb : Pl p b) (pr : Pn p r) (hl : r.length + 1 = a.length + b.length) (h : ∀ f, Md p (pv r f) (pv a fun i => pv b fun j => f (i + j))) : Pl p r := by
  have la := ha.pos
  have lb := hb.pos
  have get : ∀ {c : List Int} {k : Nat}, k < c.length → cg c (k : Int) = pv c (at1 k) := fun {c k} hk => by
    rw [pv_at hk]
    unfold cg
    rw [Int.toNat_natCast, List.getElem?_eq_getElem hk, Option.getD_some]
  have rga := fun (k : Nat) (hk : k < a.length) => ha.pn _ (cg_mem (a := a) (i := (k : Int)) (by omega) (by omega))
  have rgb := fun (k : Nat) (hk : k < b.length) => hb.pn _ (cg_mem (a := b) (i := (k : Int)) (by omega) (by omega))
  refine ⟨pr, fun z => by rw [z] at hl; simp at hl; omega, fun z => ?_, fun z => ?_⟩
  · have h1 := h (at1 ((0 : Nat) : Int))
    rw [← get (by omega), show ((0 : Nat) : Int) = 0 from rfl, z] at h1
    have e1 : (pv a fun i => pv b fun j => at1 0 (i + j)) = cg a 0 * cg b 0 := by
      have e2 : (pv a fun i => pv b fun j => at1 0 (i + j)) = pv a fun i => cg b 0 * at1 0 i := pv_congr fun i i0 _ => by
        by_cases hi : i = 0
        · subst hi
          have := get (c := b) (k := 0) lb
          rw [show ((0 : Nat) : Int) = 0 from rfl] at this
          rw [this]
          simp only [Int.zero_add]
          unfold at1
          simp
        · rw [pv_zero fun j j0 _ => by unfold at1; rw [if_neg (by omega)]]
          unfold at1
          rw [if_neg hi]; simp
      have := get (c := a) (k := 0) la
      rw [show ((0 : Nat) : Int) = 0 from rfl] at this
      rw [e2, pv_mul, ← this, Int.mul_comm]
    rw [e1] at h1
    have qa := rga 0 la
    have qb := rgb 0 lb
    have fa := ha.fs
    have fb := hb.fs
    rw [show ((0 : Nat) : Int) = 0 from rfl] at qa qb
    exact md_prime hp (by omega) qa.2 (by omega) qb.2 h1.symm
  · have h1 := h (at1 ((r.length - 1 : Nat) : Int))
    rw [← get (by omega), z] at h1
    have e1 : (pv a fun i => pv b fun j => at1 ((r.length - 1 : Nat) : Int) (i + j)) = cg a (a.length - 1 : Nat) * cg b (b.length - 1 : Nat) := by
      have e2 : (pv a fun i => pv b fun j => at1 ((r.length - 1 : Nat) : Int) (i + j)) = pv a fun i => cg b (b.length - 1 : Nat) * at1 (a.length - 1 : Nat) i := pv_congr fun i i0 i1 => by
        by_cases hi : i = ((a.length - 1 : Nat) : Int)
        · rw [get (c := b) (by omega)]
          have e3 : (pv b fun j => at1 ((r.length - 1 : Nat) : Int) (i + j)) = pv b (at1 ((b.length - 1 : Nat) : Int)) := pv_congr fun j _ _ => by
            unfold at1
            by_cases hj : j = ((b.length - 1 : Nat) : Int)
            · rw [if_pos (by omega), if_pos hj]
            · rw [if_neg (by omega), if_neg hj]
          rw [e3, hi]
          unfold at1
          simp
        · rw [pv_zero fun j j0 j1 => by unfold at1; rw [if_neg (by omega)]]
          unfold at1
          rw [if_neg hi]; simp
      rw [e2, pv_mul, ← get (by omega), Int.mul_comm]
    rw [e1] at h1
    have qa := rga (a.length - 1) (by omega)
    have qb := rgb (b.length - 1) (by omega)
    have fa := ha.ls
    have fb := hb.ls
    exact md_prime hp (by omega) qa.2 (by omega) qb.2 h1.symm
theorem flat_rep {x : PyData} : ∀ {n : Nat}, (List.replicate n [x]).flatten = List.replicate n x
  | 0 => rfl
  | n + 1 => by rw [List.replicate_succ, List.flatten_cons, flat_rep, List.replicate_succ]; rfl
theorem rep_iv {n : Nat} : List.replicate n (PyData.int 0) = iv (List.replicate n 0) := by simp [iv]
theorem e_product {p : Int} {a b : List Int} (hp : p ∈ primes6) (ha : Pl p a) (hb : Pl p b) (hl : a.length + b.length ≤ 1000) :
    ∃ r, F__law_product [.d (.list (iv a)), .d (.list (iv b)), .d (.int p)] = .ok (.own (.lst (iv r))) [] ∧ Pl p r ∧ r.length + 1 = a.length + b.length ∧ ∀ f, Md p (pv r f) (pv a fun i => pv b fun j => f (i + j)) := by
  have la := ha.pos
  have lb := hb.pos
  have mb := modsB (p6_mods hp)
  let n := a.length + b.length - 1
  obtain ⟨r, s, t, y, z, u, e, q1, q2, q3⟩ := prod_out (x0 := some (.d (.list (iv a)))) (b := b) hp hb.pn a 0 (List.replicate n 0) none none none none none rfl rfl rfl rfl rfl ha.pn (fun x hx => by rw [(List.mem_replicate.mp hx).2]; omega) (by rw [List.length_replicate]; omega)
  rw [List.length_replicate] at q2
  have q4 : ∀ f, Md p (pv r f) (pv a fun i => pv b fun j => f (i + j)) := fun f => by
    refine (q3 f).trans (.of ?_)
    rw [pv_rep, Int.zero_add]
    exact pv_congr fun i _ _ => pv_congr fun j _ _ => by simp
  refine ⟨r, ?_, pl_prod hp ha hb q1 (by omega) q4, by omega, q4⟩
  have hn : ((a.length : Int) + (b.length : Int) - 1).toNat = n := by omega
  have hb1 : -(2 ^ 63) ≤ (a.length : Int) + (b.length : Int) - 1 ∧ (a.length : Int) + (b.length : Int) - 1 < 2 ^ 63 ∧ 1 * ((a.length : Int) + (b.length : Int) - 1).toNat ≤ 900000 := by omega
  have hb2 : 1 * n ≤ 900000 := by omega
  have hla : ((iv a).length : Int) = (a.length : Int) := by rw [iv_len]
  have hlb : ((iv b).length : Int) = (b.length : Int) := by rw [iv_len]
  unfold F__law_product fb__law_product
  repeat first | simp only [hla, hlb, g_add, gEnum, repR, lstOf, hb1, hn, hb2, flat_rep, rep_iv, e] | walk_at "fl"
end NA

namespace NA
open PySem PySem.Spec PyProof.Rows L2 DL FL RF
local macro_rules | `(tactic| walk_at "fl") => `(tactic| simp only [ap_var, ap_c, ap_un, ap_unV, ap_op, ap_opO, ap_fn, ap_nil, ap_cons, ap_tr, ap_b, ap_tand, ap_tor, ap_tnot, ap_and, ap_or, ap_not, ap_if, ap_chain, ap_tup, ap_lst, ap_lstO, ap_dictO, ap_frz, ap_sl, ap_no, ap_part, ap_mut, ap_call, ap_callK, ap_get, ap_dict, ap_isi, ap_rep, ap_listO, ap_seq, ap_iargs, ap_lc, ap_lcO, ap_yes, ap_sq, ap_ret, ap_drop, ap_sif, ap_nx, ap_bk, ap_ct, ap_asg, ap_setR, ap_runT, ap_bb0, ap_bbs, ap_bbn, ap_bbd, ap_bbc, ap_bbb, ap_sfrz, ap_setI, ap_setK, ap_for, ap_par, ap_asgT, ap_run, ap_see, ap_seeo, ap_seer, ap_getC, ap_setC, ap_sees0, ap_sees1, ap_parN, ap_view, ap_frza0, ap_frza, ap_frzc, ap_frzb, ap_frzd, ap_frzn, ap_call1, ap_c1o, ap_sar0, ap_sar1, ap_frv, ap_fro, ap_tgN, ap_tgT, fin_val, fin_own, fin_ref, fin_nx, bors_nil, bors_d, bors_b, R.bind_ok, ofO_some, ofB_some, ofOL_list, seeV, frV, vals, setAllF, wipeF, restF, callR, refsOf, argVs, putBack, setR2, setI, setK, ap_glt, ap_gle, ap_ggt, ap_gge, ap_gsub, ap_gadd, ap_gneg, ap_gix, ap_cutl, ap_cutt, ap_gtup, ap_glist, ap_glen, ap_gint, ap_gintb, ap_gabs, ap_gmax, ap_gmin, ap_isN, ap_notN, ap_geq, ap_gne, ap_eqi, ap_eqb, ap_eqs, ap_iol, ap_iot, ap_gtn, ap_gtb, ap_gti, ap_gtl, ap_gtt, ap_isn0, ap_isni, ap_isnl, ap_isnt, ap_revl, ap_revt, ap_enum, ap_zipl, ap_zipt, intsOf_map, boolsOf_map, ap_cellL, startF, List.map_cons, List.map_nil, List.length_cons, List.length_nil, List.replicate_succ, List.replicate_zero, List.cons_append, List.nil_append, List.append_nil, List.getElem?_cons_zero, List.getElem?_cons_succ, List.getElem?_nil, List.set_cons_zero, List.set_cons_succ, List.set_nil, Option.map_some, Option.map_none, Option.bind_some, Option.bind_none, Nat.reduceSub, Nat.reduceAdd, if_true, if_false, Bool.false_eq_true, reduceIte, true_and, and_true, Nat.sub_zero, Nat.zero_add, reduceCtorEq, List.nodup_nil, List.nodup_cons, List.not_mem_nil, not_false_eq_true, and_self, Bool.not_true, Bool.not_false, Bool.not_not, decide_true, decide_false, Nat.reduceLeDiff, atI0, atI1, req_true])
theorem iv_snoc {a : List Int} {x : Int} : iv (a ++ [x]) = iv a ++ [.int x] := by simp [iv]
theorem snoc_of {a : List Int} (h : a ≠ []) : ∃ a' x, a = a' ++ [x] ∧ a.getLast h = x := ⟨a.dropLast, a.getLast h, (List.dropLast_concat_getLast h).symm, rfl⟩
def ents : Nat → List Int → Tm
  | _, [] => []
  | k, x :: r => if x = 0 then ents (k + 1) r else ((k : Int), x) :: ents (k + 1) r
/-- not nought: its last coefficient is none -/
structure Nz (p : Int) (a : List Int) : Prop where
  pn : Pn p a
  ne : a ≠ []
  ls : cg a (a.length - 1 : Nat) ≠ 0
theorem Nz.pos {p : Int} {a : List Int} (h : Nz p a) : 0 < a.length := List.length_pos_iff.mpr h.ne
theorem Pl.nz {p : Int} {a : List Int} (h : Pl p a) : Nz p a := ⟨h.pn, h.ne, h.ls⟩
theorem last_cg {a : List Int} (h : a ≠ []) : cg a (a.length - 1 : Nat) = a.getLast h := by
  have hl := List.length_pos_iff.mpr h
  rw [List.getLast_eq_getElem]
  unfold cg
  rw [Int.toNat_natCast, List.getElem?_eq_getElem (by omega), Option.getD_some]
theorem Nz.of {p : Int} {a : List Int} (h : Pn p a) (td : Td a) (ne : a ≠ []) : Nz p a := ⟨h, ne, by rw [last_cg ne]; exact td ne⟩
theorem Nz.td {p : Int} {a : List Int} (h : Nz p a) : Td a := fun ne => by rw [← last_cg ne]; exact h.ls
theorem Nz.lv {p : Int} {a : List Int} (h : Nz p a) : 0 < cg a (a.length - 1 : Nat) ∧ cg a (a.length - 1 : Nat) < p := by
  have := h.pos
  have := h.pn _ (cg_mem (a := a) (i := ((a.length - 1 : Nat) : Int)) (by omega) (by omega))
  have := h.ls
  omega
theorem Nz.ix {p : Int} {a : List Int} (h : Nz p a) : atI (iv a) (-1) = some (.int (cg a (a.length - 1 : Nat))) := by
  obtain ⟨a', x, rfl, hx⟩ := snoc_of h.ne
  rw [last_cg h.ne, hx, iv_snoc, atI_last]
/-- divided so far: what is left, and its last places are nought -/
structure Left (p : Int) (a b cs : List Int) (top : Int) : Prop where
  pn : Pn p cs
  ln : cs.length = a.length
  ev : ∃ q, ∀ f, Md p (pv a f) (pv cs f + pv q fun i => pv b fun j => f (i + j))
  zr : ∀ i : Int, 0 ≤ i → top ≤ i → i < cs.length → cg cs i = 0
end NA

namespace NA
open PySem PySem.Spec PyProof.Rows L2 DL FL RF
local macro_rules | `(tactic| walk_at "fl") => `(tactic| simp only [ap_var, ap_c, ap_un, ap_unV, ap_op, ap_opO, ap_fn, ap_nil, ap_cons, ap_tr, ap_b, ap_tand, ap_tor, ap_tnot, ap_and, ap_or, ap_not, ap_if, ap_chain, ap_tup, ap_lst, ap_lstO, ap_dictO, ap_frz, ap_sl, ap_no, ap_part, ap_mut, ap_call, ap_callK, ap_get, ap_dict, ap_isi, ap_rep, ap_listO, ap_seq, ap_iargs, ap_lc, ap_lcO, ap_yes, ap_sq, ap_ret, ap_drop, ap_sif, ap_nx, ap_bk, ap_ct, ap_asg, ap_setR, ap_runT, ap_bb0, ap_bbs, ap_bbn, ap_bbd, ap_bbc, ap_bbb, ap_sfrz, ap_setI, ap_setK, ap_for, ap_par, ap_asgT, ap_run, ap_see, ap_seeo, ap_seer, ap_getC, ap_setC, ap_sees0, ap_sees1, ap_parN, ap_view, ap_frza0, ap_frza, ap_frzc, ap_frzb, ap_frzd, ap_frzn, ap_call1, ap_c1o, ap_sar0, ap_sar1, ap_frv, ap_fro, ap_tgN, ap_tgT, fin_val, fin_own, fin_ref, fin_nx, bors_nil, bors_d, bors_b, R.bind_ok, ofO_some, ofB_some, ofOL_list, seeV, frV, vals, setAllF, wipeF, restF, callR, refsOf, argVs, putBack, setR2, setI, setK, ap_glt, ap_gle, ap_ggt, ap_gge, ap_gsub, ap_gadd, ap_gneg, ap_gix, ap_cutl, ap_cutt, ap_gtup, ap_glist, ap_glen, ap_gint, ap_gintb, ap_gabs, ap_gmax, ap_gmin, ap_isN, ap_notN, ap_geq, ap_gne, ap_eqi, ap_eqb, ap_eqs, ap_iol, ap_iot, ap_gtn, ap_gtb, ap_gti, ap_gtl, ap_gtt, ap_isn0, ap_isni, ap_isnl, ap_isnt, ap_revl, ap_revt, ap_enum, ap_zipl, ap_zipt, intsOf_map, boolsOf_map, ap_cellL, startF, List.map_cons, List.map_nil, List.length_cons, List.length_nil, List.replicate_succ, List.replicate_zero, List.cons_append, List.nil_append, List.append_nil, List.getElem?_cons_zero, List.getElem?_cons_succ, List.getElem?_nil, List.set_cons_zero, List.set_cons_succ, List.set_nil, Option.map_some, Option.map_none, Option.bind_some, Option.bind_none, Nat.reduceSub, Nat.reduceAdd, if_true, if_false, Bool.false_eq_true, reduceIte, true_and, and_true, Nat.sub_zero, Nat.zero_add, reduceCtorEq, List.nodup_nil, List.nodup_cons, List.not_mem_nil, not_false_eq_true, and_self, Bool.not_true, Bool.not_false, Bool.not_not, decide_true, decide_false, Nat.reduceLeDiff, atI0, atI1, req_true])
end NA

namespace NA
open PySem PySem.Spec PyProof.Rows L2 DL FL RF
local macro_rules | `(tactic| walk_at "fl") => `(tactic| simp only [ap_var, ap_c, ap_un, ap_unV, ap_op, ap_opO, ap_fn, ap_nil, ap_cons, ap_tr, ap_b, ap_tand, ap_tor, ap_tnot, ap_and, ap_or, ap_not, ap_if, ap_chain, ap_tup, ap_lst, ap_lstO, ap_dictO, ap_frz, ap_sl, ap_no, ap_part, ap_mut, ap_call, ap_callK, ap_get, ap_dict, ap_isi, ap_rep, ap_listO, ap_seq, ap_iargs, ap_lc, ap_lcO, ap_yes, ap_sq, ap_ret, ap_drop, ap_sif, ap_nx, ap_bk, ap_ct, ap_asg, ap_setR, ap_runT, ap_bb0, ap_bbs, ap_bbn, ap_bbd, ap_bbc, ap_bbb, ap_sfrz, ap_setI, ap_setK, ap_for, ap_par, ap_asgT, ap_run, ap_see, ap_seeo, ap_seer, ap_getC, ap_setC, ap_sees0, ap_sees1, ap_parN, ap_view, ap_frza0, ap_frza, ap_frzc, ap_frzb, ap_frzd, ap_frzn, ap_call1, ap_c1o, ap_sar0, ap_sar1, ap_frv, ap_fro, ap_tgN, ap_tgT, fin_val, fin_own, fin_ref, fin_nx, bors_nil, bors_d, bors_b, R.bind_ok, ofO_some, ofB_some, ofOL_list, seeV, frV, vals, setAllF, wipeF, restF, callR, refsOf, argVs, putBack, setR2, setI, setK, ap_glt, ap_gle, ap_ggt, ap_gge, ap_gsub, ap_gadd, ap_gneg, ap_gix, ap_cutl, ap_cutt, ap_gtup, ap_glist, ap_glen, ap_gint, ap_gintb, ap_gabs, ap_gmax, ap_gmin, ap_isN, ap_notN, ap_geq, ap_gne, ap_eqi, ap_eqb, ap_eqs, ap_iol, ap_iot, ap_gtn, ap_gtb, ap_gti, ap_gtl, ap_gtt, ap_isn0, ap_isni, ap_isnl, ap_isnt, ap_revl, ap_revt, ap_enum, ap_zipl, ap_zipt, intsOf_map, boolsOf_map, ap_cellL, startF, List.map_cons, List.map_nil, List.length_cons, List.length_nil, List.replicate_succ, List.replicate_zero, List.cons_append, List.nil_append, List.append_nil, List.getElem?_cons_zero, List.getElem?_cons_succ, List.getElem?_nil, List.set_cons_zero, List.set_cons_succ, List.set_nil, Option.map_some, Option.map_none, Option.bind_some, Option.bind_none, Nat.reduceSub, Nat.reduceAdd, if_true, if_false, Bool.false_eq_true, reduceIte, true_and, and_true, Nat.sub_zero, Nat.zero_add, reduceCtorEq, List.nodup_nil, List.nodup_cons, List.not_mem_nil, not_false_eq_true, and_self, Bool.not_true, Bool.not_false, Bool.not_not, decide_true, decide_false, Nat.reduceLeDiff, atI0, atI1, req_true])
def pt (low : Int) (a : List Int) : Tm := (ents 0 a).map fun q => (low + q.1, q.2)
end NA

namespace NA
open PySem PySem.Spec PyProof.Rows L2 DL FL RF
local macro_rules | `(tactic| walk_at "fl") => `(tactic| simp only [ap_var, ap_c, ap_un, ap_unV, ap_op, ap_opO, ap_fn, ap_nil, ap_cons, ap_tr, ap_b, ap_tand, ap_tor, ap_tnot, ap_and, ap_or, ap_not, ap_if, ap_chain, ap_tup, ap_lst, ap_lstO, ap_dictO, ap_frz, ap_sl, ap_no, ap_part, ap_mut, ap_call, ap_callK, ap_get, ap_dict, ap_isi, ap_rep, ap_listO, ap_seq, ap_iargs, ap_lc, ap_lcO, ap_yes, ap_sq, ap_ret, ap_drop, ap_sif, ap_nx, ap_bk, ap_ct, ap_asg, ap_setR, ap_runT, ap_bb0, ap_bbs, ap_bbn, ap_bbd, ap_bbc, ap_bbb, ap_sfrz, ap_setI, ap_setK, ap_for, ap_par, ap_asgT, ap_run, ap_see, ap_seeo, ap_seer, ap_getC, ap_setC, ap_sees0, ap_sees1, ap_parN, ap_view, ap_frza0, ap_frza, ap_frzc, ap_frzb, ap_frzd, ap_frzn, ap_call1, ap_c1o, ap_sar0, ap_sar1, ap_frv, ap_fro, ap_tgN, ap_tgT, fin_val, fin_own, fin_ref, fin_nx, bors_nil, bors_d, bors_b, R.bind_ok, ofO_some, ofB_some, ofOL_list, seeV, frV, vals, setAllF, wipeF, restF, callR, refsOf, argVs, putBack, setR2, setI, setK, ap_glt, ap_gle, ap_ggt, ap_gge, ap_gsub, ap_gadd, ap_gneg, ap_gix, ap_cutl, ap_cutt, ap_gtup, ap_glist, ap_glen, ap_gint, ap_gintb, ap_gabs, ap_gmax, ap_gmin, ap_isN, ap_notN, ap_geq, ap_gne, ap_eqi, ap_eqb, ap_eqs, ap_iol, ap_iot, ap_gtn, ap_gtb, ap_gti, ap_gtl, ap_gtt, ap_isn0, ap_isni, ap_isnl, ap_isnt, ap_revl, ap_revt, ap_enum, ap_zipl, ap_zipt, intsOf_map, boolsOf_map, ap_cellL, startF, List.map_cons, List.map_nil, List.length_cons, List.length_nil, List.replicate_succ, List.replicate_zero, List.cons_append, List.nil_append, List.append_nil, List.getElem?_cons_zero, List.getElem?_cons_succ, List.getElem?_nil, List.set_cons_zero, List.set_cons_succ, List.set_nil, Option.map_some, Option.map_none, Option.bind_some, Option.bind_none, Nat.reduceSub, Nat.reduceAdd, if_true, if_false, Bool.false_eq_true, reduceIte, true_and, and_true, Nat.sub_zero, Nat.zero_add, reduceCtorEq, List.nodup_nil, List.nodup_cons, List.not_mem_nil, not_false_eq_true, and_self, Bool.not_true, Bool.not_false, Bool.not_not, decide_true, decide_false, Nat.reduceLeDiff, atI0, atI1, req_true])
def ld (r : List Int) : PyData := .list (iv r)
def clr (p at0 : Int) (h r : List Int) : List Int := List.zipWith (fun v w => (v - cg r at0 * w) % p) r h
def scl (p at0 : Int) (h : List Int) : List Int := h.map fun v => v * backI (cg h at0) p % p
def cutR (at0 : Int) : List (List Int) → Option (List Int × List (List Int))
  | [] => none
  | r :: rs => if cg r at0 ≠ 0 then some (r, rs) else (cutR at0 rs).map fun q => (q.1, r :: q.2)
def stp (p at0 : Int) (rows : List (List Int)) : Nat × List (List Int) := match cutR at0 rows with
  | none => (0, rows)
  | some q => (1, q.2.map (clr p at0 (scl p at0 q.1)))
def elim (p : Int) : List Int → List (List Int) → Nat × List (List Int)
  | [], rows => (0, rows)
  | a :: as, rows => ((stp p a rows).1 + (elim p as (stp p a rows).2).1, (elim p as (stp p a rows).2).2)
def Rw (p : Int) (w : Nat) (rows : List (List Int)) : Prop := ∀ r ∈ rows, Pn p r ∧ r.length = w
theorem clr_rw {p at0 : Int} {w : Nat} {h r : List Int} (p0 : 0 < p) (lh : h.length = w) (lr : r.length = w) : Pn p (clr p at0 h r) ∧ (clr p at0 h r).length = w := by
  refine ⟨fun x hx => ?_, by unfold clr; rw [List.length_zipWith, lh, lr]; omega⟩
  unfold clr at hx
  obtain ⟨i, hi, rfl⟩ := List.getElem_of_mem hx
  rw [List.getElem_zipWith]
  exact ⟨Int.emod_nonneg _ (by omega), Int.emod_lt_of_pos _ p0⟩
theorem clr_same {p at0 : Int} {h r : List Int} (pr : Pn p r) (hl : h.length = r.length) (h0 : cg r at0 = 0) : clr p at0 h r = r := by
  refine List.ext_getElem (by unfold clr; rw [List.length_zipWith]; omega) fun i h1 h2 => ?_
  have e : (clr p at0 h r)[i] = (r[i] - cg r at0 * h[i]'(by omega)) % p := List.getElem_zipWith
  rw [e, h0]
  have := pr _ (List.getElem_mem h2)
  rw [Int.zero_mul, Int.sub_zero, Int.emod_eq_of_lt this.1 this.2]
theorem scl_rw {p at0 : Int} {w : Nat} {h : List Int} (p0 : 0 < p) (lh : h.length = w) : Pn p (scl p at0 h) ∧ (scl p at0 h).length = w := by
  refine ⟨fun x hx => ?_, by unfold scl; rw [List.length_map, lh]⟩
  unfold scl at hx
  obtain ⟨i, _, rfl⟩ := List.mem_map.mp hx
  exact ⟨Int.emod_nonneg _ (by omega), Int.emod_lt_of_pos _ p0⟩
theorem cut_none {at0 : Int} : ∀ {rows : List (List Int)}, cutR at0 rows = none → ∀ r ∈ rows, cg r at0 = 0
  | [], _, _, h => by cases h
  | r :: rs, e, x, h => by
    unfold cutR at e
    split at e
    · cases e
    · next h0 =>
      rcases List.mem_cons.mp h with rfl | h
      · exact Classical.byContradiction h0
      · exact cut_none (Option.map_eq_none_iff.mp e) x h
theorem cut_some {at0 : Int} : ∀ {rows : List (List Int)} {h : List Int} {t : List (List Int)}, cutR at0 rows = some (h, t) → cg h at0 ≠ 0 ∧ h ∈ rows ∧ (∀ r ∈ t, r ∈ rows) ∧ t.length + 1 = rows.length
  | [], _, _, e => by cases e
  | r :: rs, h, t, e => by
    unfold cutR at e
    split at e
    · next h0 =>
      cases e
      exact ⟨h0, List.mem_cons_self, fun r h => List.mem_cons_of_mem _ h, rfl⟩
    · obtain ⟨q, e1, e2⟩ := Option.map_eq_some_iff.mp e
      cases e2
      obtain ⟨a, b, c, d⟩ := cut_some (h := q.1) (t := q.2) e1
      refine ⟨a, List.mem_cons_of_mem _ b, fun r h => ?_, by simp only [List.length_cons]; omega⟩
      rcases List.mem_cons.mp h with rfl | h
      · exact List.mem_cons_self
      · exact List.mem_cons_of_mem _ (c r h)
theorem stp_rw {p at0 : Int} {w : Nat} {rows : List (List Int)} (p0 : 0 < p) (h : Rw p w rows) : Rw p w (stp p at0 rows).2 ∧ (stp p at0 rows).2.length ≤ rows.length := by
  unfold stp
  split
  · exact ⟨h, Nat.le_refl _⟩
  · next q e =>
    obtain ⟨_, b, c, d⟩ := cut_some (h := q.1) (t := q.2) e
    refine ⟨fun r hr => ?_, by simp only [List.length_map]; omega⟩
    obtain ⟨s, hs, rfl⟩ := List.mem_map.mp hr
    exact clr_rw p0 (scl_rw p0 (h _ b).2).2 (h s (c s hs)).2
theorem elim_rw {p : Int} {w : Nat} (p0 : 0 < p) : ∀ {as : List Int} {rows : List (List Int)}, Rw p w rows → Rw p w (elim p as rows).2 ∧ (elim p as rows).2.length ≤ rows.length
  | [], rows, h => ⟨h, Nat.le_refl _⟩
  | a :: as, rows, h => by
    obtain ⟨h1, h2⟩ := stp_rw (at0 := a) p0 h
    obtain ⟨h3, h4⟩ := elim_rw p0 (as := as) h1
    exact ⟨h3, Nat.le_trans h4 h2⟩
end NA

namespace NA
open PySem PySem.Spec PyProof.Rows L2 DL FL RF
local macro_rules | `(tactic| walk_at "fl") => `(tactic| simp only [ap_var, ap_c, ap_un, ap_unV, ap_op, ap_opO, ap_fn, ap_nil, ap_cons, ap_tr, ap_b, ap_tand, ap_tor, ap_tnot, ap_and, ap_or, ap_not, ap_if, ap_chain, ap_tup, ap_lst, ap_lstO, ap_dictO, ap_frz, ap_sl, ap_no, ap_part, ap_mut, ap_call, ap_callK, ap_get, ap_dict, ap_isi, ap_rep, ap_listO, ap_seq, ap_iargs, ap_lc, ap_lcO, ap_yes, ap_sq, ap_ret, ap_drop, ap_sif, ap_nx, ap_bk, ap_ct, ap_asg, ap_setR, ap_runT, ap_bb0, ap_bbs, ap_bbn, ap_bbd, ap_bbc, ap_bbb, ap_sfrz, ap_setI, ap_setK, ap_for, ap_par, ap_asgT, ap_run, ap_see, ap_seeo, ap_seer, ap_getC, ap_setC, ap_sees0, ap_sees1, ap_parN, ap_view, ap_frza0, ap_frza, ap_frzc, ap_frzb, ap_frzd, ap_frzn, ap_call1, ap_c1o, ap_sar0, ap_sar1, ap_frv, ap_fro, ap_tgN, ap_tgT, fin_val, fin_own, fin_ref, fin_nx, bors_nil, bors_d, bors_b, R.bind_ok, ofO_some, ofB_some, ofOL_list, seeV, frV, vals, setAllF, wipeF, restF, callR, refsOf, argVs, putBack, setR2, setI, setK, ap_glt, ap_gle, ap_ggt, ap_gge, ap_gsub, ap_gadd, ap_gneg, ap_gix, ap_cutl, ap_cutt, ap_gtup, ap_glist, ap_glen, ap_gint, ap_gintb, ap_gabs, ap_gmax, ap_gmin, ap_isN, ap_notN, ap_geq, ap_gne, ap_eqi, ap_eqb, ap_eqs, ap_iol, ap_iot, ap_gtn, ap_gtb, ap_gti, ap_gtl, ap_gtt, ap_isn0, ap_isni, ap_isnl, ap_isnt, ap_revl, ap_revt, ap_enum, ap_zipl, ap_zipt, intsOf_map, boolsOf_map, ap_cellL, startF, List.map_cons, List.map_nil, List.length_cons, List.length_nil, List.replicate_succ, List.replicate_zero, List.cons_append, List.nil_append, List.append_nil, List.getElem?_cons_zero, List.getElem?_cons_succ, List.getElem?_nil, List.set_cons_zero, List.set_cons_succ, List.set_nil, Option.map_some, Option.map_none, Option.bind_some, Option.bind_none, Nat.reduceSub, Nat.reduceAdd, if_true, if_false, Bool.false_eq_true, reduceIte, true_and, and_true, Nat.sub_zero, Nat.zero_add, reduceCtorEq, List.nodup_nil, List.nodup_cons, List.not_mem_nil, not_false_eq_true, and_self, Bool.not_true, Bool.not_false, Bool.not_not, decide_true, decide_false, Nat.reduceLeDiff, atI0, atI1, req_true])
def pst (p a : Int) (rows pv : List (List Int)) : List (List Int) := match cutR a rows with
  | none => pv
  | some q => pv.map (clr p a (scl p a q.1)) ++ [scl p a q.1]
def ist (a : Int) (rows : List (List Int)) (ix : List Int) : List Int := match cutR a rows with
  | none => ix
  | some _ => ix ++ [a]
def pel (p : Int) : List Int → List (List Int) → List (List Int) → List (List Int)
  | [], _, pv => pv
  | a :: as, rows, pv => pel p as (stp p a rows).2 (pst p a rows pv)
def iel (p : Int) : List Int → List (List Int) → List Int → List Int
  | [], _, ix => ix
  | a :: as, rows, ix => iel p as (stp p a rows).2 (ist a rows ix)
theorem pst_rw {p a : Int} {w : Nat} {rows pv : List (List Int)} (p0 : 0 < p) (hr : Rw p w rows) (hv : Rw p w pv) : Rw p w (pst p a rows pv) ∧ (pst p a rows pv).length = pv.length + (stp p a rows).1 := by
  unfold pst stp
  cases ec : cutR a rows with
  | none => exact ⟨hv, rfl⟩
  | some q =>
    obtain ⟨_, hm, _, _⟩ := cut_some (h := q.1) (t := q.2) ec
    obtain ⟨ps, ls⟩ := scl_rw (p := p) (at0 := a) (h := q.1) p0 (hr _ hm).2
    refine ⟨fun r hr' => ?_, by simp⟩
    rcases List.mem_append.mp hr' with hr' | hr'
    · obtain ⟨s, hs, rfl⟩ := List.mem_map.mp hr'
      exact clr_rw p0 ls (hv s hs).2
    · rw [List.mem_singleton.mp hr']; exact ⟨ps, ls⟩
theorem ist_len {p a : Int} {rows : List (List Int)} {ix : List Int} : (ist a rows ix).length = ix.length + (stp p a rows).1 := by
  unfold ist stp
  cases cutR a rows <;> simp
theorem elim_cons {p a : Int} {as : List Int} {rows : List (List Int)} : (elim p (a :: as) rows).1 = (stp p a rows).1 + (elim p as (stp p a rows).2).1 := rfl
theorem iel_len {p : Int} : ∀ {as : List Int} {rows : List (List Int)} {ix : List Int}, (iel p as rows ix).length = ix.length + (elim p as rows).1
  | [], _, _ => rfl
  | a :: as, rows, ix => by
    have h1 := ist_len (p := p) (a := a) (rows := rows) (ix := ix)
    have h2 := iel_len (p := p) (as := as) (rows := (stp p a rows).2) (ix := ist a rows ix)
    rw [elim_cons]
    show (iel p as (stp p a rows).2 (ist a rows ix)).length = _
    omega
def upN (n : Nat) : List Int := (List.range n).map fun (i : Nat) => (i : Int)
end NA

namespace NA
open PySem PySem.Spec PyProof.Rows L2 DL FL RF
local macro_rules | `(tactic| walk_at "fl") => `(tactic| simp only [ap_var, ap_c, ap_un, ap_unV, ap_op, ap_opO, ap_fn, ap_nil, ap_cons, ap_tr, ap_b, ap_tand, ap_tor, ap_tnot, ap_and, ap_or, ap_not, ap_if, ap_chain, ap_tup, ap_lst, ap_lstO, ap_dictO, ap_frz, ap_sl, ap_no, ap_part, ap_mut, ap_call, ap_callK, ap_get, ap_dict, ap_isi, ap_rep, ap_listO, ap_seq, ap_iargs, ap_lc, ap_lcO, ap_yes, ap_sq, ap_ret, ap_drop, ap_sif, ap_nx, ap_bk, ap_ct, ap_asg, ap_setR, ap_runT, ap_bb0, ap_bbs, ap_bbn, ap_bbd, ap_bbc, ap_bbb, ap_sfrz, ap_setI, ap_setK, ap_for, ap_par, ap_asgT, ap_run, ap_see, ap_seeo, ap_seer, ap_getC, ap_setC, ap_sees0, ap_sees1, ap_parN, ap_view, ap_frza0, ap_frza, ap_frzc, ap_frzb, ap_frzd, ap_frzn, ap_call1, ap_c1o, ap_sar0, ap_sar1, ap_frv, ap_fro, ap_tgN, ap_tgT, fin_val, fin_own, fin_ref, fin_nx, bors_nil, bors_d, bors_b, R.bind_ok, ofO_some, ofB_some, ofOL_list, seeV, frV, vals, setAllF, wipeF, restF, callR, refsOf, argVs, putBack, setR2, setI, setK, ap_glt, ap_gle, ap_ggt, ap_gge, ap_gsub, ap_gadd, ap_gneg, ap_gix, ap_cutl, ap_cutt, ap_gtup, ap_glist, ap_glen, ap_gint, ap_gintb, ap_gabs, ap_gmax, ap_gmin, ap_isN, ap_notN, ap_geq, ap_gne, ap_eqi, ap_eqb, ap_eqs, ap_iol, ap_iot, ap_gtn, ap_gtb, ap_gti, ap_gtl, ap_gtt, ap_isn0, ap_isni, ap_isnl, ap_isnt, ap_revl, ap_revt, ap_enum, ap_zipl, ap_zipt, intsOf_map, boolsOf_map, ap_cellL, startF, List.map_cons, List.map_nil, List.length_cons, List.length_nil, List.replicate_succ, List.replicate_zero, List.cons_append, List.nil_append, List.append_nil, List.getElem?_cons_zero, List.getElem?_cons_succ, List.getElem?_nil, List.set_cons_zero, List.set_cons_succ, List.set_nil, Option.map_some, Option.map_none, Option.bind_some, Option.bind_none, Nat.reduceSub, Nat.reduceAdd, if_true, if_false, Bool.false_eq_true, reduceIte, true_and, and_true, Nat.sub_zero, Nat.zero_add, reduceCtorEq, List.nodup_nil, List.nodup_cons, List.not_mem_nil, not_false_eq_true, and_self, Bool.not_true, Bool.not_false, Bool.not_not, decide_true, decide_false, Nat.reduceLeDiff, atI0, atI1, req_true])
theorem inG_iv {p : Int} {l : List Int} {d : PyData} (h : itemsOf d = some (iv l)) : inG (.int p) d = some (decide (p ∈ l)) := by
  unfold inG
  rw [h, Option.bind_some]
  have hf : (iv l).all flatD = true := List.all_eq_true.mpr fun x hx => by
    obtain ⟨i, _, rfl⟩ := iv_mem hx
    rfl
  refine (req_pos ⟨rfl, hf⟩).trans ?_
  congr 1
  unfold inD iv
  rw [List.any_map, Bool.eq_iff_iff, List.any_eq_true, decide_eq_true_iff]
  constructor
  · rintro ⟨x, hx, h⟩
    have : x = p := by simpa [Function.comp, eqFlat] using h
    rw [← this]; exact hx
  · intro h
    exact ⟨p, h, by simp [Function.comp, eqFlat]⟩
theorem gNin_l {p : Int} {l : List Int} : gNin (.int p) (.list (iv l)) = some (.bool (!decide (p ∈ l))) := by
  unfold gNin
  rw [inG_iv rfl]; rfl
structure Lks (m : Int) (n : Nat) (qs : List (List Int × Int)) : Prop where
  ok : ∀ q ∈ qs, Pn m q.1 ∧ q.1.length = n ∧ 0 ≤ q.2 ∧ q.2 < m
  ln : qs.length ≤ 1000
def lk (q : List Int × Int) : PyData := .tuple [.tuple (iv q.1), .int q.2]
def srow (p : Int) (L k : Nat) (q : List Int × Int) : List Int := (q.1 ++ [q.2]).map (· % p) ++ (List.range L).map fun (j : Nat) => if (k : Int) = (j : Int) then 1 else 0
def srows (p : Int) (L : Nat) : Nat → List (List Int × Int) → List (List Int)
  | _, [] => []
  | k, q :: qs => srow p L k q :: srows p L (k + 1) qs
theorem srow_rw {p : Int} {L k n : Nat} {q : List Int × Int} (hp : 2 ≤ p) (hl : q.1.length = n) : Pn p (srow p L k q) ∧ (srow p L k q).length = n + 1 + L := by
  refine ⟨fun x hx => ?_, by simp [srow, hl]; omega⟩
  unfold srow at hx
  rcases List.mem_append.mp hx with hx | hx
  · obtain ⟨v, _, rfl⟩ := List.mem_map.mp hx
    exact ⟨Int.emod_nonneg _ (by omega), Int.emod_lt_of_pos _ (by omega)⟩
  · obtain ⟨j, _, rfl⟩ := List.mem_map.mp hx
    split <;> omega
theorem srows_rw {p : Int} {L n : Nat} (hp : 2 ≤ p) : ∀ {qs : List (List Int × Int)} {k : Nat}, (∀ q ∈ qs, q.1.length = n) → Rw p (n + 1 + L) (srows p L k qs)
  | [], _, _, r, h => by cases h
  | q :: qs, k, hq, r, h => by
    rcases List.mem_cons.mp h with rfl | h
    · exact srow_rw hp (hq q List.mem_cons_self)
    · exact srows_rw hp (fun q h => hq q (List.mem_cons_of_mem _ h)) r h
end NA

namespace NA
open PySem PySem.Spec PyProof.Rows L2 DL FL RF
local macro_rules | `(tactic| walk_at "fl") => `(tactic| simp only [ap_var, ap_c, ap_un, ap_unV, ap_op, ap_opO, ap_fn, ap_nil, ap_cons, ap_tr, ap_b, ap_tand, ap_tor, ap_tnot, ap_and, ap_or, ap_not, ap_if, ap_chain, ap_tup, ap_lst, ap_lstO, ap_dictO, ap_frz, ap_sl, ap_no, ap_part, ap_mut, ap_call, ap_callK, ap_get, ap_dict, ap_isi, ap_rep, ap_listO, ap_seq, ap_iargs, ap_lc, ap_lcO, ap_yes, ap_sq, ap_ret, ap_drop, ap_sif, ap_nx, ap_bk, ap_ct, ap_asg, ap_setR, ap_runT, ap_bb0, ap_bbs, ap_bbn, ap_bbd, ap_bbc, ap_bbb, ap_sfrz, ap_setI, ap_setK, ap_for, ap_par, ap_asgT, ap_run, ap_see, ap_seeo, ap_seer, ap_getC, ap_setC, ap_sees0, ap_sees1, ap_parN, ap_view, ap_frza0, ap_frza, ap_frzc, ap_frzb, ap_frzd, ap_frzn, ap_call1, ap_c1o, ap_sar0, ap_sar1, ap_frv, ap_fro, ap_tgN, ap_tgT, fin_val, fin_own, fin_ref, fin_nx, bors_nil, bors_d, bors_b, R.bind_ok, ofO_some, ofB_some, ofOL_list, seeV, frV, vals, setAllF, wipeF, restF, callR, refsOf, argVs, putBack, setR2, setI, setK, ap_glt, ap_gle, ap_ggt, ap_gge, ap_gsub, ap_gadd, ap_gneg, ap_gix, ap_cutl, ap_cutt, ap_gtup, ap_glist, ap_glen, ap_gint, ap_gintb, ap_gabs, ap_gmax, ap_gmin, ap_isN, ap_notN, ap_geq, ap_gne, ap_eqi, ap_eqb, ap_eqs, ap_iol, ap_iot, ap_gtn, ap_gtb, ap_gti, ap_gtl, ap_gtt, ap_isn0, ap_isni, ap_isnl, ap_isnt, ap_revl, ap_revt, ap_enum, ap_zipl, ap_zipt, intsOf_map, boolsOf_map, ap_cellL, startF, List.map_cons, List.map_nil, List.length_cons, List.length_nil, List.replicate_succ, List.replicate_zero, List.cons_append, List.nil_append, List.append_nil, List.getElem?_cons_zero, List.getElem?_cons_succ, List.getElem?_nil, List.set_cons_zero, List.set_cons_succ, List.set_nil, Option.map_some, Option.map_none, Option.bind_some, Option.bind_none, Nat.reduceSub, Nat.reduceAdd, if_true, if_false, Bool.false_eq_true, reduceIte, true_and, and_true, Nat.sub_zero, Nat.zero_add, reduceCtorEq, List.nodup_nil, List.nodup_cons, List.not_mem_nil, not_false_eq_true, and_self, Bool.not_true, Bool.not_false, Bool.not_not, decide_true, decide_false, Nat.reduceLeDiff, atI0, atI1, req_true])
def tup (w : List Int) : PyData := .tuple (iv w)
def bad (n : Nat) (rows : List (List Int)) : Option (List Int) := rows.find? fun r => !decide (cg r n = 0)
def restR (p : Int) (n : Nat) (qs : List (List Int × Int)) : List (List Int) := (elim p (upN n) (srows p qs.length 0 qs)).2
def refL (n : Nat) (qs : List (List Int × Int)) : List Int → Option (Int × List Int)
  | [] => none
  | p :: ps => match bad n (restR p n qs) with
    | some r => some (p, r.drop (n + 1))
    | none => refL n qs ps
theorem cut_drop {r : List Int} {k : Nat} (h : k ≤ r.length) : DL.cutD (iv r) (some (k : Int)) none = iv (r.drop k) := by
  have lr : (iv r).length = r.length := List.length_map _
  have e1 : HT.sIx (iv r).length 0 (some (k : Int)) = k := by
    simp only [HT.sIx]
    split <;> omega
  have e2 : HT.sIx (iv r).length (iv r).length none = (iv r).length := rfl
  unfold DL.cutD
  rw [e1, e2, List.take_of_length_le (by rw [List.length_drop]; omega)]
  unfold iv
  rw [List.map_drop]
theorem primes_six {m : Int} : ∀ p ∈ primesOf m, p ∈ primes6 := fun p h => (List.mem_filter.mp h).1
end NA

namespace NA
open PySem PySem.Spec PyProof.Rows L2 DL FL RF
local macro_rules | `(tactic| walk_at "fl") => `(tactic| simp only [ap_var, ap_c, ap_un, ap_unV, ap_op, ap_opO, ap_fn, ap_nil, ap_cons, ap_tr, ap_b, ap_tand, ap_tor, ap_tnot, ap_and, ap_or, ap_not, ap_if, ap_chain, ap_tup, ap_lst, ap_lstO, ap_dictO, ap_frz, ap_sl, ap_no, ap_part, ap_mut, ap_call, ap_callK, ap_get, ap_dict, ap_isi, ap_rep, ap_listO, ap_seq, ap_iargs, ap_lc, ap_lcO, ap_yes, ap_sq, ap_ret, ap_drop, ap_sif, ap_nx, ap_bk, ap_ct, ap_asg, ap_setR, ap_runT, ap_bb0, ap_bbs, ap_bbn, ap_bbd, ap_bbc, ap_bbb, ap_sfrz, ap_setI, ap_setK, ap_for, ap_par, ap_asgT, ap_run, ap_see, ap_seeo, ap_seer, ap_getC, ap_setC, ap_sees0, ap_sees1, ap_parN, ap_view, ap_frza0, ap_frza, ap_frzc, ap_frzb, ap_frzd, ap_frzn, ap_call1, ap_c1o, ap_sar0, ap_sar1, ap_frv, ap_fro, ap_tgN, ap_tgT, fin_val, fin_own, fin_ref, fin_nx, bors_nil, bors_d, bors_b, R.bind_ok, ofO_some, ofB_some, ofOL_list, seeV, frV, vals, setAllF, wipeF, restF, callR, refsOf, argVs, putBack, setR2, setI, setK, ap_glt, ap_gle, ap_ggt, ap_gge, ap_gsub, ap_gadd, ap_gneg, ap_gix, ap_cutl, ap_cutt, ap_gtup, ap_glist, ap_glen, ap_gint, ap_gintb, ap_gabs, ap_gmax, ap_gmin, ap_isN, ap_notN, ap_geq, ap_gne, ap_eqi, ap_eqb, ap_eqs, ap_iol, ap_iot, ap_gtn, ap_gtb, ap_gti, ap_gtl, ap_gtt, ap_isn0, ap_isni, ap_isnl, ap_isnt, ap_revl, ap_revt, ap_enum, ap_zipl, ap_zipt, intsOf_map, boolsOf_map, ap_cellL, startF, List.map_cons, List.map_nil, List.length_cons, List.length_nil, List.replicate_succ, List.replicate_zero, List.cons_append, List.nil_append, List.append_nil, List.getElem?_cons_zero, List.getElem?_cons_succ, List.getElem?_nil, List.set_cons_zero, List.set_cons_succ, List.set_nil, Option.map_some, Option.map_none, Option.bind_some, Option.bind_none, Nat.reduceSub, Nat.reduceAdd, if_true, if_false, Bool.false_eq_true, reduceIte, true_and, and_true, Nat.sub_zero, Nat.zero_add, reduceCtorEq, List.nodup_nil, List.nodup_cons, List.not_mem_nil, not_false_eq_true, and_self, Bool.not_true, Bool.not_false, Bool.not_not, decide_true, decide_false, Nat.reduceLeDiff, atI0, atI1, req_true])
theorem lay_iv' : ∀ {b : List Int}, PyData.canLayAll0 (iv b) = true
  | [] => rfl
  | x :: r => by
    have ih := lay_iv' (b := r)
    unfold iv at ih ⊢
    rw [List.map_cons, PyData.canLayAll0, ih]
    rfl
theorem dep_iv' : ∀ {b : List Int}, PyData.depthAll (iv b) = 0
  | [] => rfl
  | x :: r => by
    have ih := dep_iv' (b := r)
    unfold iv at ih ⊢
    rw [List.map_cons, PyData.depthAll, ih]
    rfl
theorem eqv_all' : ∀ {a b : List Int}, PyData.eqvAll (iv a) (iv b) = decide (a = b)
  | [], [] => rfl
  | [], _ :: _ => rfl
  | _ :: _, [] => rfl
  | x :: a, y :: b => by
    have ih := eqv_all' (a := a) (b := b)
    unfold iv at ih ⊢
    rw [List.map_cons, List.map_cons, PyData.eqvAll, ih]
    by_cases h : x = y <;> simp [PyData.eqv, h]
theorem eqL_iv {a b : List Int} : eqP (.list (iv a)) (.list (iv b)) = some (decide (a = b)) := by
  have sh : ∀ b : List Int, SeqAt.shaped (.list (iv b)) = true := fun b => by
    unfold SeqAt.shaped
    simp [PyData.canLay0, PyData.depth, lay_iv', dep_iv']
  refine (req_pos ⟨sh a, sh b⟩).trans ?_
  congr 1
  exact eqv_all'
def addL (T : List Int) (w : Int) (q : List Int × Int) : List Int := List.zipWith (fun t v => t + w * v) T (q.1 ++ [q.2])
def accL : List Int → List (List Int × Int) → List Int → List Int
  | w :: ws, q :: qs, T => accL ws qs (addL T w q)
  | _, _, T => T
def okL (p : Int) (n : Nat) (T : List Int) : Bool := decide (T.map (fun t => decide (t % p = 0)) = List.replicate n true ++ [false])
theorem accL_len {n : Nat} : ∀ {ws : List Int} {qs : List (List Int × Int)} {T : List Int}, T.length = n + 1 → (∀ q ∈ qs, q.1.length = n) → (accL ws qs T).length = n + 1
  | [], _, T, h, _ => by unfold accL; exact h
  | _ :: _, [], T, h, _ => by unfold accL; exact h
  | w :: ws, q :: qs, T, h, hq => by
    rw [show accL (w :: ws) (q :: qs) T = accL ws qs (addL T w q) from rfl]
    refine accL_len ?_ fun q h => hq q (List.mem_cons_of_mem _ h)
    unfold addL
    rw [List.length_zipWith, h, List.length_append, hq q List.mem_cons_self]
    simp
end NA

namespace NA
open PySem PySem.Spec PyProof.Rows L2 DL FL RF
local macro_rules | `(tactic| walk_at "fl") => `(tactic| simp only [ap_var, ap_c, ap_un, ap_unV, ap_op, ap_opO, ap_fn, ap_nil, ap_cons, ap_tr, ap_b, ap_tand, ap_tor, ap_tnot, ap_and, ap_or, ap_not, ap_if, ap_chain, ap_tup, ap_lst, ap_lstO, ap_dictO, ap_frz, ap_sl, ap_no, ap_part, ap_mut, ap_call, ap_callK, ap_get, ap_dict, ap_isi, ap_rep, ap_listO, ap_seq, ap_iargs, ap_lc, ap_lcO, ap_yes, ap_sq, ap_ret, ap_drop, ap_sif, ap_nx, ap_bk, ap_ct, ap_asg, ap_setR, ap_runT, ap_bb0, ap_bbs, ap_bbn, ap_bbd, ap_bbc, ap_bbb, ap_sfrz, ap_setI, ap_setK, ap_for, ap_par, ap_asgT, ap_run, ap_see, ap_seeo, ap_seer, ap_getC, ap_setC, ap_sees0, ap_sees1, ap_parN, ap_view, ap_frza0, ap_frza, ap_frzc, ap_frzb, ap_frzd, ap_frzn, ap_call1, ap_c1o, ap_sar0, ap_sar1, ap_frv, ap_fro, ap_tgN, ap_tgT, fin_val, fin_own, fin_ref, fin_nx, bors_nil, bors_d, bors_b, R.bind_ok, ofO_some, ofB_some, ofOL_list, seeV, frV, vals, setAllF, wipeF, restF, callR, refsOf, argVs, putBack, setR2, setI, setK, ap_glt, ap_gle, ap_ggt, ap_gge, ap_gsub, ap_gadd, ap_gneg, ap_gix, ap_cutl, ap_cutt, ap_gtup, ap_glist, ap_glen, ap_gint, ap_gintb, ap_gabs, ap_gmax, ap_gmin, ap_isN, ap_notN, ap_geq, ap_gne, ap_eqi, ap_eqb, ap_eqs, ap_iol, ap_iot, ap_gtn, ap_gtb, ap_gti, ap_gtl, ap_gtt, ap_isn0, ap_isni, ap_isnl, ap_isnt, ap_revl, ap_revt, ap_enum, ap_zipl, ap_zipt, intsOf_map, boolsOf_map, ap_cellL, startF, List.map_cons, List.map_nil, List.length_cons, List.length_nil, List.replicate_succ, List.replicate_zero, List.cons_append, List.nil_append, List.append_nil, List.getElem?_cons_zero, List.getElem?_cons_succ, List.getElem?_nil, List.set_cons_zero, List.set_cons_succ, List.set_nil, Option.map_some, Option.map_none, Option.bind_some, Option.bind_none, Nat.reduceSub, Nat.reduceAdd, if_true, if_false, Bool.false_eq_true, reduceIte, true_and, and_true, Nat.sub_zero, Nat.zero_add, reduceCtorEq, List.nodup_nil, List.nodup_cons, List.not_mem_nil, not_false_eq_true, and_self, Bool.not_true, Bool.not_false, Bool.not_not, decide_true, decide_false, Nat.reduceLeDiff, atI0, atI1, req_true])
theorem repR_ok' {xs : List PyData} {k : Int} {ε : FSt} (h0 : 0 ≤ k) (h1 : k < 1000000) (h : xs.length * k.toNat ≤ 900000) : repR (some xs) (some (.int k)) ε = .ok (.own (.lst (List.replicate k.toNat xs).flatten)) ε := by
  unfold repR
  exact if_pos ⟨by omega, by omega, h⟩
end NA

namespace NA
open PySem PySem.Spec PyProof.Rows L2 DL FL RF
local macro_rules | `(tactic| walk_at "fl") => `(tactic| simp only [ap_var, ap_c, ap_un, ap_unV, ap_op, ap_opO, ap_fn, ap_nil, ap_cons, ap_tr, ap_b, ap_tand, ap_tor, ap_tnot, ap_and, ap_or, ap_not, ap_if, ap_chain, ap_tup, ap_lst, ap_lstO, ap_dictO, ap_frz, ap_sl, ap_no, ap_part, ap_mut, ap_call, ap_callK, ap_get, ap_dict, ap_isi, ap_rep, ap_listO, ap_seq, ap_iargs, ap_lc, ap_lcO, ap_yes, ap_sq, ap_ret, ap_drop, ap_sif, ap_nx, ap_bk, ap_ct, ap_asg, ap_setR, ap_runT, ap_bb0, ap_bbs, ap_bbn, ap_bbd, ap_bbc, ap_bbb, ap_sfrz, ap_setI, ap_setK, ap_for, ap_par, ap_asgT, ap_run, ap_see, ap_seeo, ap_seer, ap_getC, ap_setC, ap_sees0, ap_sees1, ap_parN, ap_view, ap_frza0, ap_frza, ap_frzc, ap_frzb, ap_frzd, ap_frzn, ap_call1, ap_c1o, ap_sar0, ap_sar1, ap_frv, ap_fro, ap_tgN, ap_tgT, fin_val, fin_own, fin_ref, fin_nx, bors_nil, bors_d, bors_b, R.bind_ok, ofO_some, ofB_some, ofOL_list, seeV, frV, vals, setAllF, wipeF, restF, callR, refsOf, argVs, putBack, setR2, setI, setK, ap_glt, ap_gle, ap_ggt, ap_gge, ap_gsub, ap_gadd, ap_gneg, ap_gix, ap_cutl, ap_cutt, ap_gtup, ap_glist, ap_glen, ap_gint, ap_gintb, ap_gabs, ap_gmax, ap_gmin, ap_isN, ap_notN, ap_geq, ap_gne, ap_eqi, ap_eqb, ap_eqs, ap_iol, ap_iot, ap_gtn, ap_gtb, ap_gti, ap_gtl, ap_gtt, ap_isn0, ap_isni, ap_isnl, ap_isnt, ap_revl, ap_revt, ap_enum, ap_zipl, ap_zipt, intsOf_map, boolsOf_map, ap_cellL, startF, List.map_cons, List.map_nil, List.length_cons, List.length_nil, List.replicate_succ, List.replicate_zero, List.cons_append, List.nil_append, List.append_nil, List.getElem?_cons_zero, List.getElem?_cons_succ, List.getElem?_nil, List.set_cons_zero, List.set_cons_succ, List.set_nil, Option.map_some, Option.map_none, Option.bind_some, Option.bind_none, Nat.reduceSub, Nat.reduceAdd, if_true, if_false, Bool.false_eq_true, reduceIte, true_and, and_true, Nat.sub_zero, Nat.zero_add, reduceCtorEq, List.nodup_nil, List.nodup_cons, List.not_mem_nil, not_false_eq_true, and_self, Bool.not_true, Bool.not_false, Bool.not_not, decide_true, decide_false, Nat.reduceLeDiff, atI0, atI1, req_true])
theorem cg_take {r : List Int} {k : Nat} {j : Int} (h0 : 0 ≤ j) (h1 : j < k) : cg (r.take k) j = cg r j := by
  unfold cg
  rw [List.getElem?_take_of_lt (by omega)]
theorem clr_take {p a : Int} {h r : List Int} {k : Nat} (h0 : 0 ≤ a) (h1 : a < k) : clr p a (h.take k) (r.take k) = (clr p a h r).take k := by
  unfold clr
  rw [cg_take h0 h1, List.take_zipWith]
theorem scl_take {p a : Int} {h : List Int} {k : Nat} (h0 : 0 ≤ a) (h1 : a < k) : scl p a (h.take k) = (scl p a h).take k := by
  unfold scl
  rw [cg_take h0 h1, List.map_take]
theorem cut_take {a : Int} {k : Nat} (h0 : 0 ≤ a) (h1 : a < k) : ∀ {rows : List (List Int)}, cutR a (rows.map (List.take k)) = (cutR a rows).map fun q => (q.1.take k, q.2.map (List.take k))
  | [] => rfl
  | r :: rs => by
    have ih := cut_take h0 h1 (rows := rs)
    rw [List.map_cons]
    unfold cutR
    rw [cg_take h0 h1]
    split
    · rfl
    · rw [ih, Option.map_map, Option.map_map]
      rfl
theorem stp_take {p a : Int} {k : Nat} (h0 : 0 ≤ a) (h1 : a < k) {rows : List (List Int)} : stp p a (rows.map (List.take k)) = ((stp p a rows).1, (stp p a rows).2.map (List.take k)) := by
  unfold stp
  rw [cut_take h0 h1]
  cases cutR a rows with
  | none => rfl
  | some q =>
    show (1, _) = (1, _)
    congr 1
    rw [List.map_map, List.map_map]
    refine List.map_congr_left fun r _ => ?_
    show clr p a (scl p a (q.1.take k)) (r.take k) = (clr p a (scl p a q.1) r).take k
    rw [scl_take h0 h1, clr_take h0 h1]
theorem elim_take {p : Int} {k : Nat} : ∀ {as : List Int} {rows : List (List Int)}, (∀ a ∈ as, 0 ≤ a ∧ a < k) → elim p as (rows.map (List.take k)) = ((elim p as rows).1, (elim p as rows).2.map (List.take k))
  | [], rows, _ => rfl
  | a :: as, rows, h => by
    obtain ⟨h0, h1⟩ := h a List.mem_cons_self
    unfold elim
    rw [stp_take h0 h1, elim_take fun a h' => h a (List.mem_cons_of_mem _ h')]
theorem elim_app {p : Int} {bs : List Int} : ∀ {as : List Int} {rows : List (List Int)}, elim p (as ++ bs) rows = ((elim p as rows).1 + (elim p bs (elim p as rows).2).1, (elim p bs (elim p as rows).2).2)
  | [], rows => by
    show elim p bs rows = (0 + (elim p bs rows).1, (elim p bs rows).2)
    rw [Nat.zero_add]
  | a :: as, rows => by
    rw [List.cons_append, elim, elim_app, elim]
    simp only [Nat.add_assoc]
theorem cg_zip {f : Int → Int → Int} {r h : List Int} {j : Int} (h0 : 0 ≤ j) (hr : j < r.length) (hh : j < h.length) : cg (List.zipWith f r h) j = f (cg r j) (cg h j) := by
  unfold cg
  have a : j.toNat < r.length := by omega
  have b : j.toNat < h.length := by omega
  simp [List.getElem?_zipWith, List.getElem?_eq_getElem a, List.getElem?_eq_getElem b]
theorem cg_map {f : Int → Int} {r : List Int} {j : Int} (h0 : 0 ≤ j) (hr : j < r.length) : cg (r.map f) j = f (cg r j) := by
  unfold cg
  have a : j.toNat < r.length := by omega
  simp [List.getElem?_eq_getElem a]
structure Lin (p : Int) (w : Nat) (G : List Int → Int) : Prop where
  sub : ∀ (c : Int) (r h : List Int), r.length = w → h.length = w → Md p (G (List.zipWith (fun v x => (v - c * x) % p) r h)) (G r - c * G h)
  mul : ∀ (c : Int) (h : List Int), h.length = w → Md p (G (h.map fun v => v * c % p)) (c * G h)
theorem _root_.RF.Md.sub {m a b c d : Int} : Md m a b → Md m c d → Md m (a - c) (b - d) := fun ⟨k, h⟩ ⟨l, g⟩ => ⟨k - l, by rw [Int.mul_sub]; omega⟩
theorem Lin.stp {p a : Int} {w : Nat} {G : List Int → Int} (L : Lin p w G) (p0 : 0 < p) {rows : List (List Int)} (h : Rw p w rows) (z : ∀ r ∈ rows, Md p (G r) 0) : ∀ r ∈ (stp p a rows).2, Md p (G r) 0 := by
  unfold NA.stp
  split
  · exact z
  · next q e =>
    obtain ⟨_, b, c, d⟩ := cut_some (h := q.1) (t := q.2) e
    intro r hr
    obtain ⟨s, hs, rfl⟩ := List.mem_map.mp hr
    have lh := (h _ b).2
    have e1 := L.sub (cg s a) s (scl p a q.1) (h s (c s hs)).2 (scl_rw p0 lh).2
    have e2 := L.mul (backI (cg q.1 a) p) q.1 lh
    have e3 := (e2.trans ((z _ b).mul (c := backI (cg q.1 a) p))).mul (c := cg s a)
    have e4 := e1.trans ((z s (c s hs)).sub e3)
    simp only [Int.mul_zero, Int.sub_zero] at e4
    exact e4
theorem Lin.elim {p : Int} {w : Nat} {G : List Int → Int} (L : Lin p w G) (p0 : 0 < p) : ∀ {as : List Int} {rows : List (List Int)}, Rw p w rows → (∀ r ∈ rows, Md p (G r) 0) → ∀ r ∈ (elim p as rows).2, Md p (G r) 0
  | [], _, _, z => z
  | a :: as, rows, h, z => L.elim p0 (as := as) (stp_rw p0 h).1 (L.stp p0 h z)
theorem Lin.at {p : Int} {w : Nat} {j : Int} (h0 : 0 ≤ j) (h1 : j < w) : Lin p w fun r => cg r j := by
  refine ⟨fun c r h hr hh => ?_, fun c h hh => ?_⟩
  · show Md p (cg _ j) _
    rw [cg_zip h0 (by omega) (by omega)]
    exact Md.rest
  · show Md p (cg _ j) _
    rw [cg_map h0 (by omega), Int.mul_comm c]
    exact Md.rest
theorem Lin.less {p : Int} {w : Nat} {G H : List Int → Int} (a : Lin p w G) (b : Lin p w H) : Lin p w fun r => G r - H r := by
  refine ⟨fun c r h hr hh => ?_, fun c h hh => ?_⟩
  · have := (a.sub c r h hr hh).sub (b.sub c r h hr hh)
    refine this.trans (Md.of ?_)
    rw [Int.mul_sub]
    omega
  · have := (a.mul c h hh).sub (b.mul c h hh)
    refine this.trans (Md.of ?_)
    rw [Int.mul_sub]
theorem Lin.drop {p : Int} {w k : Nat} {G : List Int → Int} (a : Lin p w G) : Lin p (k + w) fun r => G (r.drop k) := by
  refine ⟨fun c r h hr hh => ?_, fun c h hh => ?_⟩
  · show Md p (G (List.drop k _)) _
    rw [List.drop_zipWith]
    exact a.sub c _ _ (by rw [List.length_drop]; omega) (by rw [List.length_drop]; omega)
  · show Md p (G (List.drop k _)) _
    rw [← List.map_drop]
    exact a.mul c _ (by rw [List.length_drop]; omega)
def dt : List Int → List Int → Int
  | x :: xs, r :: rs => x * r + dt xs rs
  | _, _ => 0
theorem dt_nil {xs : List Int} : dt xs [] = 0 := by cases xs <;> rfl
theorem dt_comm : ∀ {xs rs : List Int}, dt xs rs = dt rs xs
  | [], rs => by rw [dt_nil]; rfl
  | x :: xs, [] => rfl
  | x :: xs, r :: rs => by
    unfold dt
    rw [Int.mul_comm, dt_comm]
theorem dt_sub {p c : Int} : ∀ {x r h : List Int}, r.length = h.length → Md p (dt x (List.zipWith (fun v x => (v - c * x) % p) r h)) (dt x r - c * dt x h)
  | [], r, h, _ => Md.of (by simp [dt])
  | x :: xs, [], [], _ => Md.of (by simp [dt])
  | x :: xs, r :: rs, h :: hs, e => by
    have ih := dt_sub (p := p) (c := c) (x := xs) (r := rs) (h := hs) (by simpa using e)
    rw [List.zipWith_cons_cons]
    unfold dt
    refine ((Md.rest (m := p) (a := r - c * h)).mul (c := x) |>.add ih).trans (Md.of ?_)
    rw [Int.mul_sub, Int.mul_add, Int.mul_left_comm]
    omega
theorem dt_mul {p c : Int} : ∀ {x h : List Int}, Md p (dt x (h.map fun v => v * c % p)) (c * dt x h)
  | [], h => Md.of (by simp [dt])
  | x :: xs, [] => Md.of (by simp [dt])
  | x :: xs, h :: hs => by
    have ih := dt_mul (p := p) (c := c) (x := xs) (h := hs)
    rw [List.map_cons]
    unfold dt
    refine ((Md.rest (m := p) (a := h * c)).mul (c := x) |>.add ih).trans (Md.of ?_)
    rw [Int.mul_add, Int.mul_left_comm c x h, Int.mul_comm h c]
theorem Lin.dt {p : Int} {w : Nat} {x : List Int} : Lin p w fun r => dt x r := ⟨fun c r h hr hh => dt_sub (by omega), fun c h hh => dt_mul⟩
theorem Lin.dtr {p : Int} {w : Nat} {x : List Int} : Lin p w fun r => NA.dt r x := by
  have := Lin.dt (p := p) (w := w) (x := x)
  have e : (fun r => NA.dt r x) = fun r => NA.dt x r := funext fun r => dt_comm
  rw [e]
  exact this
theorem dt_set {v a : Int} (h0 : 0 ≤ a) : ∀ {x r : List Int}, a < x.length → a < r.length → dt (x.set a.toNat v) r = dt x r + (v - cg x a) * cg r a := by
  obtain ⟨k, rfl⟩ := Int.eq_ofNat_of_zero_le h0
  intro x r
  clear h0
  simp only [Int.toNat_natCast]
  unfold cg
  simp only [Int.toNat_natCast]
  induction x generalizing k r with
  | nil => intro h; simp at h; omega
  | cons y xs ih =>
    cases r with
    | nil => intro _ h; simp at h; omega
    | cons z rs =>
      intro h1 h2
      cases k with
      | zero =>
        simp only [List.set_cons_zero, List.getElem?_cons_zero, Option.getD_some]
        unfold dt
        rw [Int.sub_mul]
        omega
      | succ k =>
        simp only [List.set_cons_succ, List.getElem?_cons_succ]
        unfold dt
        have := ih (k := k) (r := rs) (by simp at h1; omega) (by simp at h2; omega)
        rw [this]
        omega
theorem dt_app {x a b : List Int} (h : x.length ≤ a.length) : dt x (a ++ b) = dt x a := by
  induction x generalizing a with
  | nil => rfl
  | cons y xs ih =>
    cases a with
    | nil => simp at h
    | cons z as =>
      rw [List.cons_append]
      unfold dt
      rw [ih (by simpa using h)]
theorem dt_zero {p : Int} : ∀ {x T : List Int}, (∀ j : Nat, j < x.length → Md p (cg T j) 0) → Md p (dt x T) 0
  | [], _, _ => Md.refl
  | _ :: _, [], _ => Md.refl
  | x :: xs, t :: T, h => by
    have h0 : Md p (cg (t :: T) ((0 : Nat) : Int)) 0 := h 0 (by simp)
    have h0 : Md p t 0 := h0
    have ih : Md p (dt xs T) 0 := dt_zero fun j hj => h (j + 1) (by simpa using hj)
    unfold dt
    have := (h0.mul (c := x)).add ih
    simpa using this
theorem dt_zeros {n : Nat} : ∀ {r : List Int}, dt (List.replicate n 0) r = 0 := by
  induction n with
  | zero => intro r; rfl
  | succ n ih =>
    intro r
    cases r with
    | nil => exact dt_nil
    | cons y r =>
      rw [List.replicate_succ]
      unfold dt
      rw [ih]
      omega
theorem scl_one {p a : Int} {h : List Int} (hp : p ∈ primes6) (a0 : 0 ≤ a) (a1 : a < h.length) (ph : Pn p h) (nz : cg h a ≠ 0) : cg (scl p a h) a = 1 := by
  have hb := ph _ (cg_mem a0 a1)
  unfold scl
  rw [cg_map a0 a1, Int.mul_comm]
  exact (back_ok hp (by omega) hb.2).2.2
theorem p6_pos {p : Int} (hp : p ∈ primes6) : 2 ≤ p := by
  simp only [primes6, List.mem_cons, List.not_mem_nil, or_false] at hp
  omega
theorem md_pn {p x : Int} (h0 : 0 ≤ x) (h1 : x < p) (h : Md p x 0) : x = 0 := h.eq h0 h1 (Int.le_refl _) (by omega)
theorem stp_zero {p a : Int} {w : Nat} {rows : List (List Int)} (hp : p ∈ primes6) (a0 : 0 ≤ a) (a1 : a < w) (h : Rw p w rows) : ∀ r ∈ (stp p a rows).2, cg r a = 0 := by
  unfold stp
  split
  · next e => exact cut_none e
  · next q e =>
    obtain ⟨nz, b, c, d⟩ := cut_some (h := q.1) (t := q.2) e
    intro r hr
    obtain ⟨s, hs, rfl⟩ := List.mem_map.mp hr
    have := p6_pos hp
    have lh := (h _ b).2
    have ls := (h s (c s hs)).2
    have lc := (scl_rw (p := p) (at0 := a) (by omega) lh).2
    unfold clr
    rw [cg_zip a0 (by omega) (by omega), scl_one hp a0 (by omega) (h _ b).1 nz, Int.mul_one, Int.sub_self, Int.zero_emod]
theorem zero_keep {p j : Int} {w : Nat} {as : List Int} {rows : List (List Int)} (p0 : 0 < p) (j0 : 0 ≤ j) (j1 : j < w) (h : Rw p w rows) (z : ∀ r ∈ rows, cg r j = 0) : ∀ r ∈ (elim p as rows).2, cg r j = 0 := fun r hr => by
  have := (Lin.at (p := p) j0 j1).elim p0 (as := as) h (fun r hr => Md.of (z r hr)) r hr
  obtain ⟨pr, lr⟩ := (elim_rw p0 h).1 r hr
  have hb := pr _ (cg_mem (a := r) j0 (by omega))
  exact md_pn hb.1 hb.2 this
theorem elim_zero {p : Int} {w : Nat} (hp : p ∈ primes6) : ∀ {as : List Int} {rows : List (List Int)}, Rw p w rows → (∀ a ∈ as, 0 ≤ a ∧ a < w) → ∀ a ∈ as, ∀ r ∈ (elim p as rows).2, cg r a = 0
  | [], _, _, _, a, h => by cases h
  | b :: as, rows, hr, hb, a, h => by
    have p0 : 0 < p := by have := p6_pos hp; omega
    obtain ⟨b0, b1⟩ := hb b List.mem_cons_self
    have h1 := (stp_rw (at0 := b) p0 hr).1
    rcases List.mem_cons.mp h with rfl | h
    · exact zero_keep (as := as) p0 b0 b1 h1 (stp_zero hp b0 b1 hr)
    · exact elim_zero hp (as := as) h1 (fun a h => hb a (List.mem_cons_of_mem _ h)) a h
def Sol (p : Int) (n : Nat) (x : List Int) (rows : List (List Int)) : Prop := ∀ r ∈ rows, Md p (cg r n - dt x r) 0
theorem cut_mem {a : Int} : ∀ {rows : List (List Int)} {h : List Int} {t : List (List Int)}, cutR a rows = some (h, t) → ∀ r ∈ rows, r = h ∨ r ∈ t
  | [], _, _, e => by cases e
  | s :: rs, h, t, e => by
    unfold cutR at e
    intro r hr
    split at e
    · cases e
      rcases List.mem_cons.mp hr with rfl | hr
      · exact .inl rfl
      · exact .inr hr
    · obtain ⟨q, e1, e2⟩ := Option.map_eq_some_iff.mp e
      cases e2
      rcases List.mem_cons.mp hr with rfl | hr
      · exact .inr List.mem_cons_self
      · rcases cut_mem (h := q.1) (t := q.2) e1 r hr with rfl | h
        · exact .inl rfl
        · exact .inr (List.mem_cons_of_mem _ h)
end NA

namespace NA
open PySem PySem.Spec PyProof.Rows L2 DL FL RF
local macro_rules | `(tactic| walk_at "fl") => `(tactic| simp only [ap_var, ap_c, ap_un, ap_unV, ap_op, ap_opO, ap_fn, ap_nil, ap_cons, ap_tr, ap_b, ap_tand, ap_tor, ap_tnot, ap_and, ap_or, ap_not, ap_if, ap_chain, ap_tup, ap_lst, ap_lstO, ap_dictO, ap_frz, ap_sl, ap_no, ap_part, ap_mut, ap_call, ap_callK, ap_get, ap_dict, ap_isi, ap_rep, ap_listO, ap_seq, ap_iargs, ap_lc, ap_lcO, ap_yes, ap_sq, ap_ret, ap_drop, ap_sif, ap_nx, ap_bk, ap_ct, ap_asg, ap_setR, ap_runT, ap_bb0, ap_bbs, ap_bbn, ap_bbd, ap_bbc, ap_bbb, ap_sfrz, ap_setI, ap_setK, ap_for, ap_par, ap_asgT, ap_run, ap_see, ap_seeo, ap_seer, ap_getC, ap_setC, ap_sees0, ap_sees1, ap_parN, ap_view, ap_frza0, ap_frza, ap_frzc, ap_frzb, ap_frzd, ap_frzn, ap_call1, ap_c1o, ap_sar0, ap_sar1, ap_frv, ap_fro, ap_tgN, ap_tgT, fin_val, fin_own, fin_ref, fin_nx, bors_nil, bors_d, bors_b, R.bind_ok, ofO_some, ofB_some, ofOL_list, seeV, frV, vals, setAllF, wipeF, restF, callR, refsOf, argVs, putBack, setR2, setI, setK, ap_glt, ap_gle, ap_ggt, ap_gge, ap_gsub, ap_gadd, ap_gneg, ap_gix, ap_cutl, ap_cutt, ap_gtup, ap_glist, ap_glen, ap_gint, ap_gintb, ap_gabs, ap_gmax, ap_gmin, ap_isN, ap_notN, ap_geq, ap_gne, ap_eqi, ap_eqb, ap_eqs, ap_iol, ap_iot, ap_gtn, ap_gtb, ap_gti, ap_gtl, ap_gtt, ap_isn0, ap_isni, ap_isnl, ap_isnt, ap_revl, ap_revt, ap_enum, ap_zipl, ap_zipt, intsOf_map, boolsOf_map, ap_cellL, startF, List.map_cons, List.map_nil, List.length_cons, List.length_nil, List.replicate_succ, List.replicate_zero, List.cons_append, List.nil_append, List.append_nil, List.getElem?_cons_zero, List.getElem?_cons_succ, List.getElem?_nil, List.set_cons_zero, List.set_cons_succ, List.set_nil, Option.map_some, Option.map_none, Option.bind_some, Option.bind_none, Nat.reduceSub, Nat.reduceAdd, if_true, if_false, Bool.false_eq_true, reduceIte, true_and, and_true, Nat.sub_zero, Nat.zero_add, reduceCtorEq, List.nodup_nil, List.nodup_cons, List.not_mem_nil, not_false_eq_true, and_self, Bool.not_true, Bool.not_false, Bool.not_not, decide_true, decide_false, Nat.reduceLeDiff, atI0, atI1, req_true])
def col (qs : List (List Int × Int)) (j : Int) : List Int := qs.map fun q => cg (q.1 ++ [q.2]) j
def Goo (p : Int) (n : Nat) (ws : List Int) (qs : List (List Int × Int)) : Prop := (∀ j : Nat, j < n → Md p (dt ws (col qs j)) 0) ∧ ¬ Md p (dt ws (col qs n)) 0
theorem dt_unit0 {i : Nat} : ∀ {v : List Int} {s : Nat}, i < s → dt ((List.range' s v.length).map fun (j : Nat) => if (i : Int) = (j : Int) then 1 else 0) v = 0
  | [], s, _ => rfl
  | x :: v, s, h => by
    rw [List.length_cons, List.range'_succ, List.map_cons, if_neg (by omega)]
    unfold dt
    rw [dt_unit0 (v := v) (s := s + 1) (by omega)]
    omega
theorem dt_unit {i : Nat} : ∀ {v : List Int} {s : Nat}, s ≤ i → i < s + v.length → dt ((List.range' s v.length).map fun (j : Nat) => if (i : Int) = (j : Int) then 1 else 0) v = cg v ((i - s : Nat) : Int)
  | [], s, _, h => by simp at h; omega
  | x :: v, s, h, h1 => by
    rw [List.length_cons, List.range'_succ, List.map_cons]
    unfold dt
    by_cases e : i = s
    · subst e
      rw [if_pos rfl, dt_unit0 (by omega), Nat.sub_self]
      show 1 * x + 0 = x
      omega
    · rw [if_neg (by omega), dt_unit (v := v) (s := s + 1) (by omega) (by simp at h1; omega)]
      have : i - s = (i - (s + 1)) + 1 := by omega
      rw [this]
      have e2 : cg (x :: v) ((i - (s + 1) + 1 : Nat) : Int) = cg v ((i - (s + 1) : Nat) : Int) := by
        unfold cg
        rw [Int.toNat_natCast, Int.toNat_natCast, List.getElem?_cons_succ]
      rw [e2]
      omega
theorem srows_mem {p : Int} {L : Nat} : ∀ {qs : List (List Int × Int)} {k : Nat}, ∀ r ∈ srows p L k qs, ∃ (i : Nat) (q : List Int × Int), qs[i]? = some q ∧ r = srow p L (k + i) q
  | [], _, _, h => by cases h
  | q :: qs, k, r, h => by
    rcases List.mem_cons.mp h with rfl | h
    · exact ⟨0, q, rfl, rfl⟩
    · obtain ⟨i, s, h1, h2⟩ := srows_mem (qs := qs) (k := k + 1) r h
      exact ⟨i + 1, s, h1, by rw [h2, show k + 1 + i = k + (i + 1) by omega]⟩
theorem srow_mem {p : Int} {L : Nat} : ∀ {qs : List (List Int × Int)} {k : Nat}, ∀ q ∈ qs, ∃ i, srow p L i q ∈ srows p L k qs
  | [], _, _, h => by cases h
  | q :: qs, k, r, h => by
    rcases List.mem_cons.mp h with rfl | h
    · exact ⟨k, List.mem_cons_self⟩
    · obtain ⟨i, h⟩ := srow_mem (qs := qs) (k := k + 1) r h
      exact ⟨i, List.mem_cons_of_mem _ h⟩
theorem srow_cg {p : Int} {L k n : Nat} {q : List Int × Int} {j : Int} (h0 : 0 ≤ j) (h1 : j ≤ n) (hl : q.1.length = n) : cg (srow p L k q) j = cg (q.1 ++ [q.2]) j % p := by
  have e := cg_map (f := (· % p)) (r := q.1 ++ [q.2]) h0 (by rw [List.length_append, List.length_singleton]; omega)
  rw [← e]
  unfold srow cg
  rw [List.getElem?_append_left (by rw [List.length_map, List.length_append, List.length_singleton]; omega)]
theorem srow_drop {p : Int} {L k n : Nat} {q : List Int × Int} (hl : q.1.length = n) : (srow p L k q).drop (n + 1) = (List.range L).map fun (j : Nat) => if (k : Int) = (j : Int) then 1 else 0 := by
  unfold srow
  rw [List.drop_append_of_le_length (by rw [List.length_map, List.length_append, List.length_singleton]; omega), List.drop_eq_nil_of_le (by rw [List.length_map, List.length_append, List.length_singleton]; omega), List.nil_append]
theorem srows_lin {p : Int} {n : Nat} {qs : List (List Int × Int)} {j : Int} (h0 : 0 ≤ j) (h1 : j ≤ n) (hq : ∀ q ∈ qs, q.1.length = n) : ∀ r ∈ srows p qs.length 0 qs, Md p (cg r j - dt (r.drop (n + 1)) (col qs j)) 0 := fun r hr => by
  obtain ⟨i, q, hi, rfl⟩ := srows_mem r hr
  have lq := hq q (List.mem_of_getElem? hi)
  have li : i < qs.length := (List.getElem?_eq_some_iff.mp hi).1
  rw [Nat.zero_add, srow_drop lq, srow_cg h0 h1 lq]
  have lc : qs.length = (col qs j).length := by simp [col]
  have e := dt_unit (i := i) (v := col qs j) (s := 0) (by omega) (by omega)
  rw [← lc, ← List.range_eq_range', Nat.sub_zero] at e
  rw [e]
  have e2 : cg (col qs j) (i : Int) = cg (q.1 ++ [q.2]) j := by
    unfold col
    show (((qs.map _)[((i : Int)).toNat]?).getD 0) = _
    rw [Int.toNat_natCast, List.getElem?_map, hi]
    rfl
  rw [e2]
  have := (Md.rest (m := p) (a := cg (q.1 ++ [q.2]) j)).sub (Md.refl (a := cg (q.1 ++ [q.2]) j))
  rw [Int.sub_self] at this
  exact this
theorem upN_mem {n : Nat} : ∀ a ∈ upN n, 0 ≤ a ∧ a < n := fun a h => by
  unfold upN at h
  obtain ⟨i, hi, rfl⟩ := List.mem_map.mp h
  have := List.mem_range.mp hi
  omega
theorem upN_has {n j : Nat} (h : j < n) : (j : Int) ∈ upN n := List.mem_map.mpr ⟨j, List.mem_range.mpr h, rfl⟩
theorem bad_none {n : Nat} {rows : List (List Int)} : bad n rows = none ↔ ∀ r ∈ rows, cg r n = 0 := by
  unfold bad
  rw [List.find?_eq_none]
  constructor
  · intro h r hr
    simpa using h r hr
  · intro h r hr
    simpa using h r hr
theorem bad_some {n : Nat} {rows : List (List Int)} {r : List Int} (h : bad n rows = some r) : r ∈ rows ∧ cg r n ≠ 0 := by
  unfold bad at h
  refine ⟨List.mem_of_find?_eq_some h, ?_⟩
  have := List.find?_some h
  simpa using this
theorem rest_good {p : Int} {n : Nat} {qs : List (List Int × Int)} (hp : p ∈ primes6) (hq : ∀ q ∈ qs, q.1.length = n) : ∀ r ∈ restR p n qs, Pn p (r.drop (n + 1)) ∧ (r.drop (n + 1)).length = qs.length ∧ (cg r n ≠ 0 → Goo p n (r.drop (n + 1)) qs) := fun r hr => by
  have p2 := p6_pos hp
  have p0 : 0 < p := by omega
  have hR : Rw p (n + 1 + qs.length) (srows p qs.length 0 qs) := srows_rw p2 hq
  obtain ⟨pr, lr⟩ := (elim_rw p0 (as := upN n) hR).1 r hr
  have key : ∀ j : Nat, j ≤ n → Md p (cg r j) (dt (r.drop (n + 1)) (col qs j)) := fun j hj => by
    have L : Lin p (n + 1 + qs.length) fun r => cg r j - dt (r.drop (n + 1)) (col qs j) := (Lin.at (by omega) (by omega)).less (Lin.drop (k := n + 1) (G := fun ws => dt ws (col qs j)) Lin.dtr)
    have := L.elim p0 (as := upN n) hR (srows_lin (by omega) (by omega) hq) r hr
    have := this.add (Md.refl (m := p) (a := dt (r.drop (n + 1)) (col qs j)))
    rw [Int.sub_add_cancel, Int.zero_add] at this
    exact this
  refine ⟨fun x hx => pr x (List.mem_of_mem_drop hx), by rw [List.length_drop]; omega, fun nz => ⟨fun j hj => ?_, fun h => nz ?_⟩⟩
  · have z := elim_zero hp (as := upN n) hR (fun a h => by have := upN_mem a h; omega) (j : Int) (upN_has hj) r hr
    have k := key j (by omega)
    rw [z] at k
    exact k.symm
  · have hb := pr _ (cg_mem (a := r) (i := (n : Int)) (by omega) (by omega))
    exact md_pn hb.1 hb.2 ((key n (by omega)).trans h)
theorem ref_some {n : Nat} {qs : List (List Int × Int)} (hq : ∀ q ∈ qs, q.1.length = n) {p : Int} {ws : List Int} : ∀ {ps : List Int}, (∀ p ∈ ps, p ∈ primes6) → refL n qs ps = some (p, ws) → p ∈ ps ∧ Pn p ws ∧ ws.length = qs.length ∧ Goo p n ws qs
  | [], _, h => by cases h
  | q :: ps, hp, h => by
    unfold refL at h
    cases e : bad n (restR q n qs) with
    | none =>
      rw [e] at h
      obtain ⟨a, b⟩ := ref_some hq (ps := ps) (fun p h => hp p (List.mem_cons_of_mem _ h)) h
      exact ⟨List.mem_cons_of_mem _ a, b⟩
    | some r =>
      rw [e] at h
      cases h
      obtain ⟨hr, nz⟩ := bad_some e
      obtain ⟨a, b, c⟩ := rest_good (hp _ List.mem_cons_self) hq r hr
      exact ⟨List.mem_cons_self, a, b, c nz⟩
theorem ref_none {n : Nat} {qs : List (List Int × Int)} : ∀ {ps : List Int}, refL n qs ps = none ↔ ∀ p ∈ ps, bad n (restR p n qs) = none
  | [] => ⟨fun _ _ h => (by cases h), fun _ => rfl⟩
  | q :: ps => by
    unfold refL
    cases e : bad n (restR q n qs) with
    | none =>
      refine Iff.trans (ref_none (ps := ps)) ⟨fun h p hp => ?_, fun h p hp => h p (List.mem_cons_of_mem _ hp)⟩
      rcases List.mem_cons.mp hp with rfl | hp
      · exact e
      · exact h p hp
    | some r =>
      refine ⟨fun h => (by cases h), fun h => ?_⟩
      have := h q List.mem_cons_self
      rw [e] at this
      cases this
theorem acc_cg {n : Nat} {j : Int} (h0 : 0 ≤ j) (h1 : j ≤ n) : ∀ {ws : List Int} {qs : List (List Int × Int)} {T : List Int}, T.length = n + 1 → (∀ q ∈ qs, q.1.length = n) → cg (accL ws qs T) j = cg T j + dt ws (col qs j)
  | [], qs, T, _, _ => by
    show cg T j = cg T j + 0
    omega
  | w :: ws, [], T, _, _ => by
    show cg T j = cg T j + 0
    omega
  | w :: ws, q :: qs, T, hT, hq => by
    have lq := hq q List.mem_cons_self
    have lr : (q.1 ++ [q.2]).length = n + 1 := by rw [List.length_append, List.length_singleton, lq]
    show cg (accL ws qs (addL T w q)) j = cg T j + (w * cg (q.1 ++ [q.2]) j + dt ws (col qs j))
    rw [acc_cg h0 h1 (by unfold addL; rw [List.length_zipWith]; omega) fun q h => hq q (List.mem_cons_of_mem _ h)]
    unfold addL
    rw [cg_zip h0 (by omega) (by omega)]
    omega
theorem okL_iff {p : Int} {n : Nat} {T : List Int} (h : T.length = n + 1) : okL p n T = true ↔ (∀ j : Nat, j < n → Md p (cg T j) 0) ∧ ¬ Md p (cg T n) 0 := by
  have e : ∀ x : Int, Md p x 0 ↔ x % p = 0 := fun x => by
    unfold Md
    rw [Int.sub_zero]
    exact Int.dvd_iff_emod_eq_zero
  have g : ∀ j : Nat, j < n + 1 → (T.map fun t => decide (t % p = 0))[j]? = some (decide (cg T j % p = 0)) := fun j hj => by
    have hj2 : j < T.length := by omega
    rw [List.getElem?_map]
    unfold cg
    rw [Int.toNat_natCast, List.getElem?_eq_getElem hj2]
    rfl
  unfold okL
  rw [decide_eq_true_iff]
  constructor
  · intro a
    refine ⟨fun j hj => ?_, ?_⟩
    · have := g j (by omega)
      rw [a, List.getElem?_append_left (by rw [List.length_replicate]; exact hj), List.getElem?_replicate_of_lt hj] at this
      exact (e _).mpr (by simpa using this.symm)
    · have := g n (by omega)
      rw [a, List.getElem?_append_right (by rw [List.length_replicate]; omega), List.length_replicate, Nat.sub_self] at this
      exact fun h => by simpa [(e _).mp h] using this
  · rintro ⟨a, b⟩
    refine List.ext_getElem? fun j => ?_
    by_cases hj : j < n
    · rw [g j (by omega), List.getElem?_append_left (by rw [List.length_replicate]; exact hj), List.getElem?_replicate_of_lt hj, decide_eq_true ((e _).mp (a j hj))]
    · by_cases hj2 : j = n
      · subst hj2
        rw [g j (by omega), List.getElem?_append_right (by rw [List.length_replicate]; omega), List.length_replicate, Nat.sub_self, decide_eq_false fun h => b ((e _).mpr h)]
        rfl
      · rw [List.getElem?_eq_none (by rw [List.length_map]; omega), List.getElem?_eq_none (by rw [List.length_append, List.length_replicate, List.length_singleton]; omega)]
theorem cg_zeros {n : Nat} {j : Int} : cg (List.replicate n 0) j = 0 := by
  unfold cg
  by_cases h : j.toNat < n
  · rw [List.getElem?_replicate_of_lt h]
    rfl
  · rw [List.getElem?_eq_none (by rw [List.length_replicate]; omega)]
    rfl
theorem okL_goo {p : Int} {n : Nat} {ws : List Int} {qs : List (List Int × Int)} (hq : ∀ q ∈ qs, q.1.length = n) : okL p n (accL ws qs (List.replicate (n + 1) 0)) = true ↔ Goo p n ws qs := by
  have lT : (List.replicate (n + 1) (0 : Int)).length = n + 1 := List.length_replicate
  rw [okL_iff (accL_len lT hq)]
  have e : ∀ j : Nat, j ≤ n → cg (accL ws qs (List.replicate (n + 1) 0)) j = dt ws (col qs j) := fun j hj => by
    rw [acc_cg (by omega) (by omega) lT hq, cg_zeros]
    omega
  unfold Goo
  rw [e n (by omega)]
  exact and_congr_left' ⟨fun h j hj => e j (by omega) ▸ h j hj, fun h j hj => by rw [e j (by omega)]; exact h j hj⟩
theorem acc_sol {p : Int} {n : Nat} {x : List Int} (lx : x.length = n) : ∀ {ws : List Int} {qs : List (List Int × Int)} {T : List Int}, T.length = n + 1 → (∀ q ∈ qs, q.1.length = n) → (∀ q ∈ qs, Md p (cg (q.1 ++ [q.2]) n - dt x (q.1 ++ [q.2])) 0) → Md p (cg T n - dt x T) 0 → Md p (cg (accL ws qs T) n - dt x (accL ws qs T)) 0
  | [], qs, T, _, _, _, h => h
  | w :: ws, [], T, _, _, _, h => h
  | w :: ws, q :: qs, T, hT, hq, hs, h => by
    have lq := hq q List.mem_cons_self
    have lr : (q.1 ++ [q.2]).length = n + 1 := by rw [List.length_append, List.length_singleton, lq]
    have hq0 := hs q List.mem_cons_self
    show Md p (cg (accL ws qs (addL T w q)) n - dt x (accL ws qs (addL T w q))) 0
    refine acc_sol lx (by unfold addL; rw [List.length_zipWith]; omega) (fun q h => hq q (List.mem_cons_of_mem _ h)) (fun q h => hs q (List.mem_cons_of_mem _ h)) ?_
    have e : ∀ {x T U : List Int}, T.length = U.length → dt x (List.zipWith (fun t v => t + w * v) T U) = dt x T + w * dt x U := fun {x} => by
      induction x with
      | nil => intro T U _; simp [dt]
      | cons y x ih =>
        intro T U h
        cases T with
        | nil => cases U with
          | nil => simp [dt]
          | cons _ _ => cases h
        | cons t T => cases U with
          | nil => cases h
          | cons u U =>
            rw [List.zipWith_cons_cons]
            unfold dt
            rw [ih (by simpa using h), Int.mul_add, Int.mul_add, Int.mul_left_comm]
            omega
    unfold addL
    rw [cg_zip (by omega) (by omega) (by omega), e (by omega)]
    have := h.add (hq0.mul (c := w))
    rw [Int.mul_zero, Int.add_zero, Int.mul_sub] at this
    refine (Md.of ?_).trans this
    omega
theorem sol_no {p : Int} {n : Nat} {x ws : List Int} {qs : List (List Int × Int)} (lx : x.length = n) (hq : ∀ q ∈ qs, q.1.length = n) (hs : ∀ q ∈ qs, Md p (cg (q.1 ++ [q.2]) n - dt x (q.1 ++ [q.2])) 0) : ¬ Goo p n ws qs := fun g => by
  have lT : (List.replicate (n + 1) (0 : Int)).length = n + 1 := List.length_replicate
  obtain ⟨a, b⟩ := (okL_iff (accL_len lT hq)).mp ((okL_goo hq).mpr g)
  have s0 : Md p (cg (List.replicate (n + 1) 0) n - dt x (List.replicate (n + 1) 0)) 0 := by
    rw [cg_zeros, dt_comm, dt_zeros]
    exact Md.refl
  have s := acc_sol (ws := ws) lx lT hq hs s0
  have z := dt_zero (x := x) (T := accL ws qs (List.replicate (n + 1) 0)) (p := p) (by rw [lx]; exact a)
  have := s.add z
  rw [Int.sub_add_cancel, Int.zero_add] at this
  exact b this
end NA

namespace NA
open PySem PySem.Spec PyProof.Rows L2 DL FL RF
local macro_rules | `(tactic| walk_at "fl") => `(tactic| simp only [ap_var, ap_c, ap_un, ap_unV, ap_op, ap_opO, ap_fn, ap_nil, ap_cons, ap_tr, ap_b, ap_tand, ap_tor, ap_tnot, ap_and, ap_or, ap_not, ap_if, ap_chain, ap_tup, ap_lst, ap_lstO, ap_dictO, ap_frz, ap_sl, ap_no, ap_part, ap_mut, ap_call, ap_callK, ap_get, ap_dict, ap_isi, ap_rep, ap_listO, ap_seq, ap_iargs, ap_lc, ap_lcO, ap_yes, ap_sq, ap_ret, ap_drop, ap_sif, ap_nx, ap_bk, ap_ct, ap_asg, ap_setR, ap_runT, ap_bb0, ap_bbs, ap_bbn, ap_bbd, ap_bbc, ap_bbb, ap_sfrz, ap_setI, ap_setK, ap_for, ap_par, ap_asgT, ap_run, ap_see, ap_seeo, ap_seer, ap_getC, ap_setC, ap_sees0, ap_sees1, ap_parN, ap_view, ap_frza0, ap_frza, ap_frzc, ap_frzb, ap_frzd, ap_frzn, ap_call1, ap_c1o, ap_sar0, ap_sar1, ap_frv, ap_fro, ap_tgN, ap_tgT, fin_val, fin_own, fin_ref, fin_nx, bors_nil, bors_d, bors_b, R.bind_ok, ofO_some, ofB_some, ofOL_list, seeV, frV, vals, setAllF, wipeF, restF, callR, refsOf, argVs, putBack, setR2, setI, setK, ap_glt, ap_gle, ap_ggt, ap_gge, ap_gsub, ap_gadd, ap_gneg, ap_gix, ap_cutl, ap_cutt, ap_gtup, ap_glist, ap_glen, ap_gint, ap_gintb, ap_gabs, ap_gmax, ap_gmin, ap_isN, ap_notN, ap_geq, ap_gne, ap_eqi, ap_eqb, ap_eqs, ap_iol, ap_iot, ap_gtn, ap_gtb, ap_gti, ap_gtl, ap_gtt, ap_isn0, ap_isni, ap_isnl, ap_isnt, ap_revl, ap_revt, ap_enum, ap_zipl, ap_zipt, intsOf_map, boolsOf_map, ap_cellL, startF, List.map_cons, List.map_nil, List.length_cons, List.length_nil, List.replicate_succ, List.replicate_zero, List.cons_append, List.nil_append, List.append_nil, List.getElem?_cons_zero, List.getElem?_cons_succ, List.getElem?_nil, List.set_cons_zero, List.set_cons_succ, List.set_nil, Option.map_some, Option.map_none, Option.bind_some, Option.bind_none, Nat.reduceSub, Nat.reduceAdd, if_true, if_false, Bool.false_eq_true, reduceIte, true_and, and_true, Nat.sub_zero, Nat.zero_add, reduceCtorEq, List.nodup_nil, List.nodup_cons, List.not_mem_nil, not_false_eq_true, and_self, Bool.not_true, Bool.not_false, Bool.not_not, decide_true, decide_false, Nat.reduceLeDiff, atI0, atI1, req_true])
theorem mulT_zeros {C : Nat} (hC : C ≤ 1000) : gMulT (.tuple [.int 0]) (.int (C : Int)) = some (.tuple (iv (List.replicate C 0))) := by
  refine (req_pos ⟨?_, by omega, by omega, ?_⟩).trans ?_
  · rw [Int.toNat_natCast]
    congr 2
    unfold iv
    rw [List.map_replicate]
    have : ∀ k : Nat, (List.replicate k [PyData.int 0]).flatten = List.replicate k (PyData.int 0) := fun k => by
      induction k with
      | zero => rfl
      | succ k ih => rw [List.replicate_succ, List.flatten_cons, ih, List.replicate_succ]; rfl
    rw [this]
  · simp
  · first | (simp; done) | (simp; omega)
end NA

namespace NA
open PySem PySem.Spec PyProof.Rows L2 DL FL RF
local macro_rules | `(tactic| walk_at "fl") => `(tactic| simp only [ap_var, ap_c, ap_un, ap_unV, ap_op, ap_opO, ap_fn, ap_nil, ap_cons, ap_tr, ap_b, ap_tand, ap_tor, ap_tnot, ap_and, ap_or, ap_not, ap_if, ap_chain, ap_tup, ap_lst, ap_lstO, ap_dictO, ap_frz, ap_sl, ap_no, ap_part, ap_mut, ap_call, ap_callK, ap_get, ap_dict, ap_isi, ap_rep, ap_listO, ap_seq, ap_iargs, ap_lc, ap_lcO, ap_yes, ap_sq, ap_ret, ap_drop, ap_sif, ap_nx, ap_bk, ap_ct, ap_asg, ap_setR, ap_runT, ap_bb0, ap_bbs, ap_bbn, ap_bbd, ap_bbc, ap_bbb, ap_sfrz, ap_setI, ap_setK, ap_for, ap_par, ap_asgT, ap_run, ap_see, ap_seeo, ap_seer, ap_getC, ap_setC, ap_sees0, ap_sees1, ap_parN, ap_view, ap_frza0, ap_frza, ap_frzc, ap_frzb, ap_frzd, ap_frzn, ap_call1, ap_c1o, ap_sar0, ap_sar1, ap_frv, ap_fro, ap_tgN, ap_tgT, fin_val, fin_own, fin_ref, fin_nx, bors_nil, bors_d, bors_b, R.bind_ok, ofO_some, ofB_some, ofOL_list, seeV, frV, vals, setAllF, wipeF, restF, callR, refsOf, argVs, putBack, setR2, setI, setK, ap_glt, ap_gle, ap_ggt, ap_gge, ap_gsub, ap_gadd, ap_gneg, ap_gix, ap_cutl, ap_cutt, ap_gtup, ap_glist, ap_glen, ap_gint, ap_gintb, ap_gabs, ap_gmax, ap_gmin, ap_isN, ap_notN, ap_geq, ap_gne, ap_eqi, ap_eqb, ap_eqs, ap_iol, ap_iot, ap_gtn, ap_gtb, ap_gti, ap_gtl, ap_gtt, ap_isn0, ap_isni, ap_isnl, ap_isnt, ap_revl, ap_revt, ap_enum, ap_zipl, ap_zipt, intsOf_map, boolsOf_map, ap_cellL, startF, List.map_cons, List.map_nil, List.length_cons, List.length_nil, List.replicate_succ, List.replicate_zero, List.cons_append, List.nil_append, List.append_nil, List.getElem?_cons_zero, List.getElem?_cons_succ, List.getElem?_nil, List.set_cons_zero, List.set_cons_succ, List.set_nil, Option.map_some, Option.map_none, Option.bind_some, Option.bind_none, Nat.reduceSub, Nat.reduceAdd, if_true, if_false, Bool.false_eq_true, reduceIte, true_and, and_true, Nat.sub_zero, Nat.zero_add, reduceCtorEq, List.nodup_nil, List.nodup_cons, List.not_mem_nil, not_false_eq_true, and_self, Bool.not_true, Bool.not_false, Bool.not_not, decide_true, decide_false, Nat.reduceLeDiff, atI0, atI1, req_true])
def up14 (p : Int) : List Int := (List.range p.toNat).map fun (i : Nat) => (i : Int)
theorem up14_mem {p x : Int} : x ∈ up14 p ↔ 0 ≤ x ∧ x < p := by
  unfold up14
  rw [List.mem_map]
  constructor
  · rintro ⟨i, hi, rfl⟩
    have := List.mem_range.mp hi
    omega
  · intro h
    exact ⟨x.toNat, List.mem_range.mpr (by omega), by omega⟩
mutual
/-- leaves that are short, told by their size -/
def okI : PyData → Bool
  | .none => true
  | .bool _ => true
  | .int i => decide (i.natAbs < 10 ^ 63)
  | .str x => x.cps.toList.all fun c => decide (c < 16 ^ 8)
  | .list xs => okIA xs
  | .tuple xs => okIA xs
  | .dict kvs => okIK kvs
def okIA : List PyData → Bool
  | [] => true
  | x :: xs => okI x && okIA xs
def okIK : List (PyData × PyData) → Bool
  | [] => true
  | (k, v) :: r => okI k && okI v && okIK r
end
mutual
theorem okI_l : ∀ d : PyData, okI d = true → d.leavesShort 70 = true ∧ d.showable = true
  | .none, _ => by simp [PyData.leavesShort, PyData.showable]
  | .bool _, _ => by simp [PyData.leavesShort, PyData.showable]
  | .int i, h => by
    have h' : i.natAbs < 10 ^ 63 := by simpa only [okI, decide_eq_true_eq] using h
    refine ⟨?_, ?_⟩
    · have e : (PyData.shown (.int i)).length ≤ 70 := by
        show (Str.ofString (toString i)).length ≤ 70
        rw [PySem.ofString_length]
        exact Nat.le_trans (int_text_length_le10 (k := 63) (by decide) h') (by decide)
      simp only [PyData.leavesShort, decide_eq_true_eq]
      exact e
    · simp only [PyData.showable, decide_eq_true_eq]
      by_cases h0 : i.natAbs = 0
      · rw [h0]; decide
      · exact Nat.lt_of_lt_of_le ((Nat.log2_lt h0).mpr (Nat.lt_of_lt_of_le h' (by decide : 10 ^ 63 ≤ 2 ^ 210))) (by decide)
  | .str x, h => ⟨by simpa only [okI, PyData.leavesShort] using h, by simp [PyData.showable]⟩
  | .list xs, h => by
    have := okIA_l xs (by simpa only [okI] using h)
    simpa only [PyData.leavesShort, PyData.showable] using this
  | .tuple xs, h => by
    have := okIA_l xs (by simpa only [okI] using h)
    simpa only [PyData.leavesShort, PyData.showable] using this
  | .dict kvs, h => by
    have := okIK_l kvs (by simpa only [okI] using h)
    simpa only [PyData.leavesShort, PyData.showable] using this
theorem okIA_l : ∀ xs : List PyData, okIA xs = true → PyData.leavesShortAll 70 xs = true ∧ PyData.showableAll xs = true
  | [], _ => by simp [PyData.leavesShortAll, PyData.showableAll]
  | x :: xs, h => by
    simp only [okIA, Bool.and_eq_true] at h
    have a := okI_l x h.1
    have b := okIA_l xs h.2
    simp [PyData.leavesShortAll, PyData.showableAll, a, b]
theorem okIK_l : ∀ xs : List (PyData × PyData), okIK xs = true → PyData.leavesShortKv 70 xs = true ∧ PyData.showableKv xs = true
  | [], _ => by simp [PyData.leavesShortKv, PyData.showableKv]
  | (k, v) :: xs, h => by
    simp only [okIK, Bool.and_eq_true] at h
    have a := okI_l k h.1.1
    have a2 := okI_l v h.1.2
    have b := okIK_l xs h.2
    simp [PyData.leavesShortKv, PyData.showableKv, a, a2, b]
end
theorem okIA_all : ∀ {xs : List PyData}, (∀ x ∈ xs, okI x = true) → okIA xs = true
  | [], _ => rfl
  | x :: xs, h => by
    simp only [okIA, h x List.mem_cons_self, Bool.true_and]
    exact okIA_all fun y hy => h y (List.mem_cons_of_mem _ hy)
theorem nodict_all : ∀ {xs : List PyData}, (∀ x ∈ xs, x.hasDict = false) → PyData.hasDictAll xs = false
  | [], _ => by simp [PyData.hasDictAll]
  | x :: xs, h => by
    simp only [PyData.hasDictAll, h x List.mem_cons_self, Bool.false_or]
    exact nodict_all fun y hy => h y (List.mem_cons_of_mem _ hy)
structure Sh (k n : Nat) (d : PyData) : Prop where
  ok : okI d = true
  dp : d.depth ≤ k
  bk : d.bulk ≤ n
  nd : d.hasDict = false
theorem Sh.mono {k n k' n' : Nat} {d : PyData} (h : Sh k n d) (hk : k ≤ k') (hn : n ≤ n') : Sh k' n' d := ⟨h.ok, Nat.le_trans h.dp hk, Nat.le_trans h.bk hn, h.nd⟩
theorem shown_sz {n : Nat} {d : PyData} (h : okI d = true) (hb : d.bulk ≤ n) (hn : n ≤ 100000) : d.shown.length ≤ sizeLine := by
  have h1 := PyData.shown_le_bulk 70 (by decide) d (okI_l d h).1
  rw [sizeLine_eq]
  have h3 : (70 + 2) * d.bulk ≤ 72 * 100000 := Nat.mul_le_mul (by decide) (by omega)
  omega
theorem Sh.show {k n : Nat} {d : PyData} (h : Sh k n d) (hk : k ≤ 60) (hn : n ≤ 100000) : Show d :=
  ⟨(okI_l d h.ok).2, shown_sz h.ok h.bk hn, Nat.le_trans h.dp hk, fun z => by rw [h.nd] at z; cases z⟩
theorem Sh.int {i : Int} (h : i.natAbs < 10 ^ 63) : Sh 0 0 (.int i) := ⟨by simp only [okI, h, decide_true], by simp [PyData.depth], by simp [PyData.bulk], by simp [PyData.hasDict]⟩
theorem Sh.none : Sh 0 0 .none := ⟨rfl, by simp [PyData.depth], by simp [PyData.bulk], by simp [PyData.hasDict]⟩
theorem Sh.bool {b : Bool} : Sh 0 0 (.bool b) := ⟨rfl, by simp [PyData.depth], by simp [PyData.bulk], by simp [PyData.hasDict]⟩
theorem Sh.tup {k n : Nat} {xs : List PyData} (m : Nat) (h : ∀ x ∈ xs, Sh k n x) (hl : xs.length ≤ m) : Sh (k + 1) (m * (n + 1)) (.tuple xs) := by
  refine ⟨by simp only [okI]; exact okIA_all fun x hx => (h x hx).ok, ?_, ?_, by simp only [PyData.hasDict]; exact nodict_all fun x hx => (h x hx).nd⟩
  · simp only [PyData.depth]
    have := depthAll_le (k := k) fun x hx => (h x hx).dp
    omega
  · simp only [PyData.bulk]
    exact Nat.le_trans (bulkAll_le (n := n) fun x hx => (h x hx).bk) (Nat.mul_le_mul_right _ hl)
theorem Sh.lst {k n : Nat} {xs : List PyData} (m : Nat) (h : ∀ x ∈ xs, Sh k n x) (hl : xs.length ≤ m) : Sh (k + 1) (m * (n + 1)) (.list xs) := by
  refine ⟨by simp only [okI]; exact okIA_all fun x hx => (h x hx).ok, ?_, ?_, by simp only [PyData.hasDict]; exact nodict_all fun x hx => (h x hx).nd⟩
  · simp only [PyData.depth]
    have := depthAll_le (k := k) fun x hx => (h x hx).dp
    omega
  · simp only [PyData.bulk]
    exact Nat.le_trans (bulkAll_le (n := n) fun x hx => (h x hx).bk) (Nat.mul_le_mul_right _ hl)
theorem Sh.str {i : Int} (h0 : 0 ≤ i) (h1 : i ≤ 13) : Sh 0 5 (.str (toString i)) := by
  have key : ∀ j ∈ up14 14, okI (.str (toString j)) = true ∧ (PyData.str (toString j)).bulk ≤ 5 := by
    have e : up14 14 = [0, 1, 2, 3, 4, 5, 6, 7, 8, 9, 10, 11, 12, 13] := by decide
    rw [e]
    intro j hj
    simp only [List.mem_cons, List.not_mem_nil, or_false] at hj
    rcases hj with rfl | rfl | rfl | rfl | rfl | rfl | rfl | rfl | rfl | rfl | rfl | rfl | rfl | rfl <;> exact ⟨by decide +kernel, by simp only [PyData.bulk]; decide +kernel⟩
  obtain ⟨h2, h3⟩ := key i (up14_mem.mpr (by omega))
  exact ⟨h2, by simp [PyData.depth], h3, by simp [PyData.hasDict]⟩
theorem Sh.pair {k n : Nat} {x y : PyData} (h1 : Sh k n x) (h2 : Sh k n y) : Sh (k + 1) (2 * (n + 1)) (.tuple [x, y]) := Sh.tup 2 (fun z hz => by
  simp only [List.mem_cons, List.not_mem_nil, or_false] at hz
  rcases hz with rfl | rfl
  · exact h1
  · exact h2) (by simp)
end NA

namespace NA
open PySem PySem.Spec PyProof.Rows L2 DL FL RF
local macro_rules | `(tactic| walk_at "fl") => `(tactic| simp only [ap_var, ap_c, ap_un, ap_unV, ap_op, ap_opO, ap_fn, ap_nil, ap_cons, ap_tr, ap_b, ap_tand, ap_tor, ap_tnot, ap_and, ap_or, ap_not, ap_if, ap_chain, ap_tup, ap_lst, ap_lstO, ap_dictO, ap_frz, ap_sl, ap_no, ap_part, ap_mut, ap_call, ap_callK, ap_get, ap_dict, ap_isi, ap_rep, ap_listO, ap_seq, ap_iargs, ap_lc, ap_lcO, ap_yes, ap_sq, ap_ret, ap_drop, ap_sif, ap_nx, ap_bk, ap_ct, ap_asg, ap_setR, ap_runT, ap_bb0, ap_bbs, ap_bbn, ap_bbd, ap_bbc, ap_bbb, ap_sfrz, ap_setI, ap_setK, ap_for, ap_par, ap_asgT, ap_run, ap_see, ap_seeo, ap_seer, ap_getC, ap_setC, ap_sees0, ap_sees1, ap_parN, ap_view, ap_frza0, ap_frza, ap_frzc, ap_frzb, ap_frzd, ap_frzn, ap_call1, ap_c1o, ap_sar0, ap_sar1, ap_frv, ap_fro, ap_tgN, ap_tgT, fin_val, fin_own, fin_ref, fin_nx, bors_nil, bors_d, bors_b, R.bind_ok, ofO_some, ofB_some, ofOL_list, seeV, frV, vals, setAllF, wipeF, restF, callR, refsOf, argVs, putBack, setR2, setI, setK, ap_glt, ap_gle, ap_ggt, ap_gge, ap_gsub, ap_gadd, ap_gneg, ap_gix, ap_cutl, ap_cutt, ap_gtup, ap_glist, ap_glen, ap_gint, ap_gintb, ap_gabs, ap_gmax, ap_gmin, ap_isN, ap_notN, ap_geq, ap_gne, ap_eqi, ap_eqb, ap_eqs, ap_iol, ap_iot, ap_gtn, ap_gtb, ap_gti, ap_gtl, ap_gtt, ap_isn0, ap_isni, ap_isnl, ap_isnt, ap_revl, ap_revt, ap_enum, ap_zipl, ap_zipt, intsOf_map, boolsOf_map, ap_cellL, startF, List.map_cons, List.map_nil, List.length_cons, List.length_nil, List.replicate_succ, List.replicate_zero, List.cons_append, List.nil_append, List.append_nil, List.getElem?_cons_zero, List.getElem?_cons_succ, List.getElem?_nil, List.set_cons_zero, List.set_cons_succ, List.set_nil, Option.map_some, Option.map_none, Option.bind_some, Option.bind_none, Nat.reduceSub, Nat.reduceAdd, if_true, if_false, Bool.false_eq_true, reduceIte, true_and, and_true, Nat.sub_zero, Nat.zero_add, reduceCtorEq, List.nodup_nil, List.nodup_cons, List.not_mem_nil, not_false_eq_true, and_self, Bool.not_true, Bool.not_false, Bool.not_not, decide_true, decide_false, Nat.reduceLeDiff, atI0, atI1, req_true])
def oneN (p m : Int) : List Int := (List.range (turnsC 0 m (m / p))).map fun (i : Nat) => 0 + (i : Int) * (m / p)
def oneL (p m : Int) : List Int := (oneN p m).filter fun r => decide (r % p = 1)
def oneI (p m : Int) : Int := (oneL p m).headD 0
theorem one_tab : ∀ m ∈ mods, ∀ p ∈ primesOf m, 2 ≤ p ∧ p ≤ m ∧ m % p = 0 ∧ 0 < m / p ∧ m / p ≤ m ∧ oneL p m ≠ [] ∧ 0 ≤ oneI p m ∧ oneI p m < m ∧ oneI p m % p = 1 ∧ ∀ q ∈ primesOf m, q ≠ p → oneI p m % q = 0 := by decide
def pd (ts : List Tm) : List PyData := ts.map tm
theorem primes_ne {m : Int} (hm : m ∈ mods) : primesOf m ≠ [] := by
  have : ∀ m ∈ mods, primesOf m ≠ [] := by decide
  exact this m hm
end NA

namespace NA
open PySem PySem.Spec PyProof.Rows L2 DL FL RF
local macro_rules | `(tactic| walk_at "fl") => `(tactic| simp only [ap_var, ap_c, ap_un, ap_unV, ap_op, ap_opO, ap_fn, ap_nil, ap_cons, ap_tr, ap_b, ap_tand, ap_tor, ap_tnot, ap_and, ap_or, ap_not, ap_if, ap_chain, ap_tup, ap_lst, ap_lstO, ap_dictO, ap_frz, ap_sl, ap_no, ap_part, ap_mut, ap_call, ap_callK, ap_get, ap_dict, ap_isi, ap_rep, ap_listO, ap_seq, ap_iargs, ap_lc, ap_lcO, ap_yes, ap_sq, ap_ret, ap_drop, ap_sif, ap_nx, ap_bk, ap_ct, ap_asg, ap_setR, ap_runT, ap_bb0, ap_bbs, ap_bbn, ap_bbd, ap_bbc, ap_bbb, ap_sfrz, ap_setI, ap_setK, ap_for, ap_par, ap_asgT, ap_run, ap_see, ap_seeo, ap_seer, ap_getC, ap_setC, ap_sees0, ap_sees1, ap_parN, ap_view, ap_frza0, ap_frza, ap_frzc, ap_frzb, ap_frzd, ap_frzn, ap_call1, ap_c1o, ap_sar0, ap_sar1, ap_frv, ap_fro, ap_tgN, ap_tgT, fin_val, fin_own, fin_ref, fin_nx, bors_nil, bors_d, bors_b, R.bind_ok, ofO_some, ofB_some, ofOL_list, seeV, frV, vals, setAllF, wipeF, restF, callR, refsOf, argVs, putBack, setR2, setI, setK, ap_glt, ap_gle, ap_ggt, ap_gge, ap_gsub, ap_gadd, ap_gneg, ap_gix, ap_cutl, ap_cutt, ap_gtup, ap_glist, ap_glen, ap_gint, ap_gintb, ap_gabs, ap_gmax, ap_gmin, ap_isN, ap_notN, ap_geq, ap_gne, ap_eqi, ap_eqb, ap_eqs, ap_iol, ap_iot, ap_gtn, ap_gtb, ap_gti, ap_gtl, ap_gtt, ap_isn0, ap_isni, ap_isnl, ap_isnt, ap_revl, ap_revt, ap_enum, ap_zipl, ap_zipt, intsOf_map, boolsOf_map, ap_cellL, startF, List.map_cons, List.map_nil, List.length_cons, List.length_nil, List.replicate_succ, List.replicate_zero, List.cons_append, List.nil_append, List.append_nil, List.getElem?_cons_zero, List.getElem?_cons_succ, List.getElem?_nil, List.set_cons_zero, List.set_cons_succ, List.set_nil, Option.map_some, Option.map_none, Option.bind_some, Option.bind_none, Nat.reduceSub, Nat.reduceAdd, if_true, if_false, Bool.false_eq_true, reduceIte, true_and, and_true, Nat.sub_zero, Nat.zero_add, reduceCtorEq, List.nodup_nil, List.nodup_cons, List.not_mem_nil, not_false_eq_true, and_self, Bool.not_true, Bool.not_false, Bool.not_not, decide_true, decide_false, Nat.reduceLeDiff, atI0, atI1, req_true])
theorem sol_back {p a : Int} {n w : Nat} {x : List Int} {rows pv : List (List Int)} (hp : p ∈ primes6) (a0 : 0 ≤ a) (a1 : a < w) (hn : n < w) (h : Rw p w rows) (hv : Rw p w pv) (s1 : Sol p n x (pst p a rows pv)) (s2 : Sol p n x (stp p a rows).2) : Sol p n x pv ∧ Sol p n x rows := by
  have p2 := p6_pos hp
  have p0 : 0 < p := by omega
  have LG : Lin p w fun r => cg r n - dt x r := (Lin.at (by omega) (by omega)).less Lin.dt
  unfold pst at s1
  unfold stp at s2
  cases e : cutR a rows with
  | none =>
    rw [e] at s1 s2
    exact ⟨s1, s2⟩
  | some q =>
    rw [e] at s1 s2
    obtain ⟨nz, b, c, d⟩ := cut_some (h := q.1) (t := q.2) e
    obtain ⟨ph, lh⟩ := h _ b
    have lc := (scl_rw (p := p) (at0 := a) p0 lh).2
    have hb := ph _ (cg_mem (a := q.1) a0 (by omega))
    have bk := back_ok hp (by omega) hb.2
    have g1 : Md p (cg (scl p a q.1) n - dt x (scl p a q.1)) 0 := s1 _ (List.mem_append.mpr (.inr (List.mem_singleton.mpr rfl)))
    have g2 : Md p (cg q.1 n - dt x q.1) 0 := by
      have m1 : Md p (cg (scl p a q.1) n - dt x (scl p a q.1)) (backI (cg q.1 a) p * (cg q.1 n - dt x q.1)) := LG.mul (backI (cg q.1 a) p) q.1 lh
      have m2 := (m1.symm.trans g1).mul (c := cg q.1 a)
      rw [Int.mul_zero, ← Int.mul_assoc] at m2
      have m3 : Md p (cg q.1 a * backI (cg q.1 a) p) 1 := by
        have := Md.rest (m := p) (a := backI (cg q.1 a) p * cg q.1 a)
        rw [bk.2.2] at this
        rw [Int.mul_comm]
        exact this.symm
      have m4 := m3.mulr (c := cg q.1 n - dt x q.1)
      rw [Int.one_mul] at m4
      exact m4.symm.trans m2
    have back : ∀ r : List Int, r.length = w → Md p (cg (clr p a (scl p a q.1) r) n - dt x (clr p a (scl p a q.1) r)) 0 → Md p (cg r n - dt x r) 0 := fun r lr hr => by
      have k : Md p (cg (clr p a (scl p a q.1) r) n - dt x (clr p a (scl p a q.1) r)) ((cg r n - dt x r) - cg r a * (cg (scl p a q.1) n - dt x (scl p a q.1))) := LG.sub (cg r a) r (scl p a q.1) lr lc
      have k2 := (k.symm.trans hr).add (g1.mul (c := cg r a))
      rw [Int.sub_add_cancel, Int.mul_zero, Int.add_zero] at k2
      exact k2
    refine ⟨fun r hr => back r (hv r hr).2 (s1 _ (List.mem_append.mpr (.inl (List.mem_map_of_mem hr)))), fun r hr => ?_⟩
    rcases cut_mem (h := q.1) (t := q.2) e r hr with rfl | hr
    · exact g2
    · exact back r (h r (c r hr)).2 (s2 _ (List.mem_map_of_mem hr))
/-- each pivot is 1 at its own place, and 0 at those of the others -/
structure Kr (p : Int) (w : Nat) (rows pv : List (List Int)) (ix : List Int) (top : Int) : Prop where
  rw1 : Rw p w rows
  rw2 : Rw p w pv
  len : pv.length = ix.length
  kr : ∀ (k l : Nat) (v : List Int) (a : Int), pv[k]? = some v → ix[l]? = some a → cg v a = if k = l then 1 else 0
  zr : ∀ r ∈ rows, ∀ a ∈ ix, cg r a = 0
  rg : ∀ a ∈ ix, 0 ≤ a ∧ a < top
  nd : ix.Nodup
theorem Kr.step {p a : Int} {w : Nat} {rows pv : List (List Int)} {ix : List Int} (K : Kr p w rows pv ix a) (hp : p ∈ primes6) (a0 : 0 ≤ a) (a1 : a < w) : Kr p w (stp p a rows).2 (pst p a rows pv) (ist a rows ix) (a + 1) := by
  have p2 := p6_pos hp
  have p0 : 0 < p := by omega
  obtain ⟨w2, l2⟩ := pst_rw (a := a) p0 K.rw1 K.rw2
  have l3 := ist_len (p := p) (a := a) (rows := rows) (ix := ix)
  have w1 := (stp_rw (at0 := a) p0 K.rw1).1
  have sz := stp_zero hp a0 a1 K.rw1
  have zk : ∀ r ∈ (stp p a rows).2, ∀ b ∈ ix, cg r b = 0 := fun r hr b hb => by
    have := K.rg b hb
    exact zero_keep (as := [a]) p0 this.1 (by omega) K.rw1 (fun r hr => K.zr r hr b hb) r hr
  refine ⟨w1, w2, by rw [l2, l3, K.len], ?_, ?_, ?_, ?_⟩
  · intro k l v b hv hb
    unfold pst at hv
    unfold ist at hb
    cases e : cutR a rows with
    | none =>
      rw [e] at hv hb
      exact K.kr k l v b hv hb
    | some q =>
      rw [e] at hv hb
      obtain ⟨nz, hm, _, _⟩ := cut_some (h := q.1) (t := q.2) e
      obtain ⟨ph, lh⟩ := K.rw1 _ hm
      obtain ⟨ps, ls⟩ := scl_rw (p := p) (at0 := a) (h := q.1) p0 lh
      have one := scl_one hp a0 (by omega) ph nz
      have hz : ∀ b ∈ ix, cg (scl p a q.1) b = 0 := fun b hb => by
        have r1 := K.rg b hb
        unfold scl
        rw [cg_map r1.1 (by omega), K.zr _ hm b hb, Int.zero_mul, Int.zero_emod]
      simp only at hv hb
      by_cases hk : k < pv.length
      · rw [List.getElem?_append_left (by rw [List.length_map]; exact hk), List.getElem?_map] at hv
        obtain ⟨u, hu, rfl⟩ := Option.map_eq_some_iff.mp hv
        obtain ⟨pu, lu⟩ := K.rw2 u (List.mem_of_getElem? hu)
        by_cases hl : l < ix.length
        · rw [List.getElem?_append_left hl] at hb
          have hb' := List.mem_of_getElem? hb
          have r1 := K.rg b hb'
          have e1 : cg (clr p a (scl p a q.1) u) b = (cg u b - cg u a * cg (scl p a q.1) b) % p := cg_zip r1.1 (by omega) (by omega)
          have := pu _ (cg_mem (a := u) r1.1 (by omega))
          rw [e1, hz b hb', Int.mul_zero, Int.sub_zero, Int.emod_eq_of_lt this.1 this.2]
          exact K.kr k l u b hu hb
        · rw [List.getElem?_append_right (by omega)] at hb
          have hl2 : l - ix.length = 0 := by
            have := (List.getElem?_eq_some_iff.mp hb).1
            simp at this
            omega
          rw [hl2] at hb
          cases hb
          have e1 : cg (clr p a (scl p a q.1) u) a = (cg u a - cg u a * cg (scl p a q.1) a) % p := cg_zip a0 (by omega) (by omega)
          rw [e1, one, Int.mul_one, Int.sub_self, Int.zero_emod, if_neg (by have := K.len; omega)]
      · rw [List.getElem?_append_right (by rw [List.length_map]; omega), List.length_map] at hv
        have hk2 : k - pv.length = 0 := by
          have := (List.getElem?_eq_some_iff.mp hv).1
          simp at this
          omega
        rw [hk2] at hv
        cases hv
        by_cases hl : l < ix.length
        · rw [List.getElem?_append_left hl] at hb
          rw [hz b (List.mem_of_getElem? hb), if_neg (by have := K.len; omega)]
        · rw [List.getElem?_append_right (by omega)] at hb
          have hl2 : l - ix.length = 0 := by
            have := (List.getElem?_eq_some_iff.mp hb).1
            simp at this
            omega
          rw [hl2] at hb
          cases hb
          rw [one, if_pos (by have := K.len; omega)]
  · intro r hr b hb
    unfold ist at hb
    cases e : cutR a rows with
    | none => rw [e] at hb; exact zk r hr b hb
    | some q =>
      rw [e] at hb
      rcases List.mem_append.mp hb with hb | hb
      · exact zk r hr b hb
      · rw [List.mem_singleton.mp hb]; exact sz r hr
  · intro b hb
    unfold ist at hb
    cases e : cutR a rows with
    | none => rw [e] at hb; have := K.rg b hb; omega
    | some q =>
      rw [e] at hb
      rcases List.mem_append.mp hb with hb | hb
      · have := K.rg b hb; omega
      · rw [List.mem_singleton.mp hb]; omega
  · unfold ist
    cases e : cutR a rows with
    | none => exact K.nd
    | some q =>
      refine List.nodup_append.mpr ⟨K.nd, by simp, fun x hx y hy => ?_⟩
      rw [List.mem_singleton.mp hy]
      have := K.rg x hx
      omega
theorem Kr.all {p : Int} {w : Nat} (hp : p ∈ primes6) : ∀ (k : Nat) {s : Nat} {rows pv : List (List Int)} {ix : List Int}, s + k ≤ w → Kr p w rows pv ix s → Kr p w (elim p ((List.range' s k).map fun (i : Nat) => (i : Int)) rows).2 (pel p ((List.range' s k).map fun (i : Nat) => (i : Int)) rows pv) (iel p ((List.range' s k).map fun (i : Nat) => (i : Int)) rows ix) ((s + k : Nat) : Int)
  | 0, s, rows, pv, ix, _, K => K
  | k + 1, s, rows, pv, ix, hs, K => by
    have K1 := K.step hp (by omega) (by omega)
    have K1 : Kr p w (stp p s rows).2 (pst p s rows pv) (ist s rows ix) ((s + 1 : Nat) : Int) := by
      rw [show ((s + 1 : Nat) : Int) = (s : Int) + 1 by omega]
      exact K1
    have K2 := Kr.all hp k (s := s + 1) (by omega) K1
    rw [List.range'_succ, List.map_cons, show s + (k + 1) = s + 1 + k by omega]
    exact K2
def ixR (p : Int) (n : Nat) (qs : List (List Int × Int)) : List Int := iel p (upN n) (srows p qs.length 0 qs) []
theorem dt_md {p : Int} : ∀ {x T : List Int}, Md p (dt x (T.map (· % p))) (dt x T)
  | [], _ => Md.refl
  | _ :: _, [] => Md.refl
  | y :: x, t :: T => by
    rw [List.map_cons]
    unfold dt
    exact (Md.rest.mul).add dt_md
theorem cg_last {a : List Int} {b : Int} {n : Nat} (h : a.length = n) : cg (a ++ [b]) (n : Int) = b := by
  subst h
  unfold cg
  rw [Int.toNat_natCast, List.getElem?_append_right (Nat.le_refl _), Nat.sub_self]
  rfl
theorem sol_row {p : Int} {n L i : Nat} {x : List Int} {q : List Int × Int} (lx : x.length = n) (lq : q.1.length = n) : Md p (cg (srow p L i q) n - dt x (srow p L i q)) (q.2 - dt x q.1) := by
  rw [srow_cg (by omega) (by omega) lq, cg_last lq]
  unfold srow
  rw [dt_app (by rw [List.length_map, List.length_append, List.length_singleton]; omega)]
  refine Md.rest.sub (dt_md.trans (Md.of ?_))
  exact dt_app (by omega)
theorem sol_iff {p : Int} {n : Nat} {x : List Int} {qs : List (List Int × Int)} (lx : x.length = n) (hq : ∀ q ∈ qs, q.1.length = n) : Sol p n x (srows p qs.length 0 qs) ↔ ∀ q ∈ qs, Md p (q.2 - dt x q.1) 0 := by
  constructor
  · intro s q h
    obtain ⟨i, hm⟩ := srow_mem (p := p) (L := qs.length) (k := 0) q h
    exact (sol_row lx (hq q h)).symm.trans (s _ hm)
  · intro s r hr
    obtain ⟨i, q, hi, rfl⟩ := srows_mem r hr
    have hm := List.mem_of_getElem? hi
    exact (sol_row lx (hq q hm)).trans (s q hm)
end NA

namespace NA
open PySem PySem.Spec PyProof.Rows L2 DL FL RF
local macro_rules | `(tactic| walk_at "fl") => `(tactic| simp only [ap_var, ap_c, ap_un, ap_unV, ap_op, ap_opO, ap_fn, ap_nil, ap_cons, ap_tr, ap_b, ap_tand, ap_tor, ap_tnot, ap_and, ap_or, ap_not, ap_if, ap_chain, ap_tup, ap_lst, ap_lstO, ap_dictO, ap_frz, ap_sl, ap_no, ap_part, ap_mut, ap_call, ap_callK, ap_get, ap_dict, ap_isi, ap_rep, ap_listO, ap_seq, ap_iargs, ap_lc, ap_lcO, ap_yes, ap_sq, ap_ret, ap_drop, ap_sif, ap_nx, ap_bk, ap_ct, ap_asg, ap_setR, ap_runT, ap_bb0, ap_bbs, ap_bbn, ap_bbd, ap_bbc, ap_bbb, ap_sfrz, ap_setI, ap_setK, ap_for, ap_par, ap_asgT, ap_run, ap_see, ap_seeo, ap_seer, ap_getC, ap_setC, ap_sees0, ap_sees1, ap_parN, ap_view, ap_frza0, ap_frza, ap_frzc, ap_frzb, ap_frzd, ap_frzn, ap_call1, ap_c1o, ap_sar0, ap_sar1, ap_frv, ap_fro, ap_tgN, ap_tgT, fin_val, fin_own, fin_ref, fin_nx, bors_nil, bors_d, bors_b, R.bind_ok, ofO_some, ofB_some, ofOL_list, seeV, frV, vals, setAllF, wipeF, restF, callR, refsOf, argVs, putBack, setR2, setI, setK, ap_glt, ap_gle, ap_ggt, ap_gge, ap_gsub, ap_gadd, ap_gneg, ap_gix, ap_cutl, ap_cutt, ap_gtup, ap_glist, ap_glen, ap_gint, ap_gintb, ap_gabs, ap_gmax, ap_gmin, ap_isN, ap_notN, ap_geq, ap_gne, ap_eqi, ap_eqb, ap_eqs, ap_iol, ap_iot, ap_gtn, ap_gtb, ap_gti, ap_gtl, ap_gtt, ap_isn0, ap_isni, ap_isnl, ap_isnt, ap_revl, ap_revt, ap_enum, ap_zipl, ap_zipt, intsOf_map, boolsOf_map, ap_cellL, startF, List.map_cons, List.map_nil, List.length_cons, List.length_nil, List.replicate_succ, List.replicate_zero, List.cons_append, List.nil_append, List.append_nil, List.getElem?_cons_zero, List.getElem?_cons_succ, List.getElem?_nil, List.set_cons_zero, List.set_cons_succ, List.set_nil, Option.map_some, Option.map_none, Option.bind_some, Option.bind_none, Nat.reduceSub, Nat.reduceAdd, if_true, if_false, Bool.false_eq_true, reduceIte, true_and, and_true, Nat.sub_zero, Nat.zero_add, reduceCtorEq, List.nodup_nil, List.nodup_cons, List.not_mem_nil, not_false_eq_true, and_self, Bool.not_true, Bool.not_false, Bool.not_not, decide_true, decide_false, Nat.reduceLeDiff, atI0, atI1, req_true])
theorem sum_app {l k : List Nat} : (l ++ k).sum = l.sum + k.sum := by
  induction l with
  | nil => simp
  | cons a l ih => rw [List.cons_append, List.sum_cons, List.sum_cons, ih, Nat.add_assoc]
theorem sum_flat {α β : Type} (F : β → Nat) (g : α → List β) : ∀ l : List α, ((l.flatMap g).map F).sum = (l.map fun a => ((g a).map F).sum).sum
  | [] => rfl
  | a :: l => by rw [List.flatMap_cons, List.map_append, sum_app, sum_flat F g l, List.map_cons, List.sum_cons]
theorem sum_add {α : Type} (A B : α → Nat) : ∀ l : List α, (l.map fun a => A a + B a).sum = (l.map A).sum + (l.map B).sum
  | [] => rfl
  | a :: l => by
    rw [List.map_cons, List.map_cons, List.map_cons, List.sum_cons, List.sum_cons, List.sum_cons, sum_add A B l]
    omega
theorem sumZ {α : Type} : ∀ l : List α, (l.map fun _ => 0).sum = 0
  | [] => rfl
  | a :: l => by rw [List.map_cons, List.sum_cons, sumZ l]
theorem sum_swap {α β : Type} (F : α → β → Nat) (k : List β) : ∀ l : List α, (l.map fun a => (k.map fun b => F a b).sum).sum = (k.map fun b => (l.map fun a => F a b).sum).sum
  | [] => by
    show 0 = (k.map fun _ => 0).sum
    rw [sumZ]
  | a :: l => by
    rw [List.map_cons, List.sum_cons, sum_swap F k l, ← sum_add]
    rfl
theorem sum_mul {α : Type} (c : Nat) (F : α → Nat) : ∀ l : List α, (l.map fun a => c * F a).sum = c * (l.map F).sum
  | [] => rfl
  | a :: l => by rw [List.map_cons, List.map_cons, List.sum_cons, List.sum_cons, sum_mul c F l, Nat.mul_add]
theorem sum_same {α : Type} (c : Nat) : ∀ l : List α, (l.map fun _ => c).sum = l.length * c
  | [] => by simp
  | a :: l => by
    rw [List.map_cons, List.sum_cons, sum_same c l, List.length_cons, Nat.add_mul, Nat.one_mul, Nat.add_comm]
theorem len_filter {α : Type} (P : α → Bool) : ∀ l : List α, (l.filter P).length = (l.map fun x => (P x).toNat).sum
  | [] => rfl
  | a :: l => by
    rw [List.map_cons, List.sum_cons, ← len_filter P l]
    cases h : P a with
    | true => rw [List.filter_cons_of_pos h, List.length_cons]; simp [Nat.add_comm]
    | false => rw [List.filter_cons_of_neg (by rw [h]; simp)]; simp
def allT (M : Nat) : Nat → List (List Int)
  | 0 => [[]]
  | n + 1 => (allT M n).flatMap fun f => (upN M).map fun v => f ++ [v]
theorem allT_mem {M : Nat} : ∀ {n : Nat}, ∀ f ∈ allT M n, f.length = n ∧ Pn M f
  | 0, f, h => by
    rw [List.mem_singleton.mp h]
    exact ⟨rfl, fun x h => by cases h⟩
  | n + 1, f, h => by
    obtain ⟨g, hg, h⟩ := List.mem_flatMap.mp h
    obtain ⟨v, hv, rfl⟩ := List.mem_map.mp h
    obtain ⟨l, p⟩ := allT_mem g hg
    have := upN_mem v hv
    refine ⟨by rw [List.length_append, List.length_singleton, l], fun x hx => ?_⟩
    rcases List.mem_append.mp hx with hx | hx
    · exact p x hx
    · rw [List.mem_singleton.mp hx]; omega
def tot (M n : Nat) (F : List Int → Nat) : Nat := ((allT M n).map F).sum
theorem tot_succ {M n : Nat} {F : List Int → Nat} : tot M (n + 1) F = tot M n fun f => ((upN M).map fun v => F (f ++ [v])).sum := by
  unfold tot
  rw [show allT M (n + 1) = (allT M n).flatMap fun f => (upN M).map fun v => f ++ [v] from rfl, sum_flat]
  congr 1
  refine List.map_congr_left fun f _ => ?_
  rw [List.map_map]
  rfl
theorem tot_congr {M n : Nat} {F G : List Int → Nat} (h : ∀ f, f.length = n → Pn M f → F f = G f) : tot M n F = tot M n G := by
  unfold tot
  congr 1
  refine List.map_congr_left fun f hf => ?_
  obtain ⟨a, b⟩ := allT_mem f hf
  exact h f a b
theorem upN_len {M : Nat} : (upN M).length = M := by simp [upN]
theorem allT_len {M : Nat} : ∀ {n : Nat}, (allT M n).length = M ^ n
  | 0 => rfl
  | n + 1 => by
    have h := sum_flat (fun _ : List Int => 1) (fun f : List Int => (upN M).map fun v => f ++ [v]) (allT M n)
    rw [sum_same, Nat.mul_one] at h
    show ((allT M n).flatMap fun f => (upN M).map fun v => f ++ [v]).length = _
    rw [h]
    have e : (fun f : List Int => (((upN M).map fun v => f ++ [v]).map fun _ => 1).sum) = fun _ => M := funext fun f => by
      rw [sum_same, List.length_map, upN_len, Nat.mul_one]
    rw [e, sum_same, allT_len (n := n), Nat.pow_succ]
theorem coord {M a : Nat} : ∀ {n : Nat} {F : List Int → Nat}, a < n → tot M n (fun f => ((upN M).map fun v => F (f.set a v)).sum) = M * tot M n F
  | 0, _, h => by omega
  | n + 1, F, h => by
    rw [tot_succ, tot_succ]
    by_cases e : a = n
    · subst e
      have k : tot M a (fun f => ((upN M).map fun v => ((upN M).map fun u => F ((f ++ [v]).set a u)).sum).sum) = tot M a fun f => M * ((upN M).map fun v => F (f ++ [v])).sum := tot_congr fun f lf _ => by
        have e2 : ∀ v u : Int, (f ++ [v]).set a u = f ++ [u] := fun v u => by
          rw [List.set_append_right a u (by omega), lf, Nat.sub_self]
          rfl
        simp only [e2]
        rw [sum_same, upN_len]
      rw [k]
      exact sum_mul M _ _
    · have ha : a < n := by omega
      have k : tot M n (fun f => ((upN M).map fun v => ((upN M).map fun u => F ((f ++ [v]).set a u)).sum).sum) = tot M n fun f => ((upN M).map fun u => ((upN M).map fun v => F (f.set a u ++ [v])).sum).sum := tot_congr fun f lf _ => by
        rw [sum_swap]
        congr 1
        refine List.map_congr_left fun u _ => ?_
        congr 1
        refine List.map_congr_left fun v _ => ?_
        rw [List.set_append_left a u (by omega)]
      rw [k, coord (F := fun f => ((upN M).map fun v => F (f ++ [v])).sum) ha]
theorem hit_nat {k : Nat} : ∀ {M : Nat}, ((List.range M).map fun i => (decide (i = k)).toNat).sum = if k < M then 1 else 0
  | 0 => rfl
  | M + 1 => by
    rw [List.range_succ, List.map_append, sum_app, hit_nat]
    by_cases h : k < M
    · rw [if_pos h, if_pos (by omega)]
      have : decide (M = k) = false := decide_eq_false (by omega)
      simp [this]
    · rw [if_neg h]
      by_cases e : M = k
      · rw [if_pos (by omega)]
        simp [e]
      · rw [if_neg (by omega)]
        simp [e]
theorem one_hit {M : Nat} {K : Int} (h : 0 < M) : ((upN M).map fun v => (decide ((K - v) % (M : Int) = 0)).toNat).sum = 1 := by
  have m0 : (0 : Int) < M := by omega
  have k0 := Int.emod_nonneg K (show (M : Int) ≠ 0 by omega)
  have k1 := Int.emod_lt_of_pos K m0
  have e : ((upN M).map fun v => (decide ((K - v) % (M : Int) = 0)).toNat) = (List.range M).map fun i => (decide (i = (K % M).toNat)).toNat := by
    unfold upN
    rw [List.map_map]
    refine List.map_congr_left fun i hi => ?_
    have hi := List.mem_range.mp hi
    show (decide ((K - (i : Int)) % (M : Int) = 0)).toNat = _
    congr 1
    have : (K - (i : Int)) % (M : Int) = 0 ↔ i = (K % M).toNat := by
      rw [← Int.emod_sub_emod]
      constructor
      · intro h
        obtain ⟨c, hc⟩ := Int.dvd_of_emod_eq_zero h
        have c0 : c = 0 := by
          rcases Int.lt_trichotomy c 0 with hc0 | hc0 | hc0
          · have : (M : Int) * c ≤ (M : Int) * (-1) := Int.mul_le_mul_of_nonneg_left (by omega) (by omega)
            omega
          · exact hc0
          · have : (M : Int) * 1 ≤ (M : Int) * c := Int.mul_le_mul_of_nonneg_left (by omega) (by omega)
            omega
        rw [c0, Int.mul_zero] at hc
        omega
      · intro h
        have : K % (M : Int) - (i : Int) = 0 := by omega
        rw [this, Int.zero_emod]
    exact decide_eq_decide.mpr this
  rw [e, hit_nat, if_pos (by omega)]
def solB (p : Int) (n : Nat) (rows : List (List Int)) (f : List Int) : Bool := rows.all fun r => decide ((cg r n - dt f r) % p = 0)
theorem md0 {p x : Int} : Md p x 0 ↔ x % p = 0 := by
  unfold Md
  rw [Int.sub_zero]
  exact Int.dvd_iff_emod_eq_zero
theorem solB_iff {p : Int} {n : Nat} {rows : List (List Int)} {f : List Int} : solB p n rows f = true ↔ Sol p n f rows := by
  unfold solB Sol
  rw [List.all_eq_true]
  exact ⟨fun h r hr => md0.mpr (by simpa using h r hr), fun h r hr => by simpa using md0.mp (h r hr)⟩
theorem solB_stp {p : Int} {a n w : Nat} {rows : List (List Int)} {f : List Int} {q : List Int × List (List Int)} {v : Int} (hp : p ∈ primes6) (ha : a < n) (hn : n < w) (lf : f.length = n) (h : Rw p w rows) (e : cutR (a : Int) rows = some q) :
    solB p n rows (f.set a v) = (decide ((cg (scl p a q.1) n - dt f (scl p a q.1) + cg f a - v) % p = 0) && solB p n (stp p a rows).2 f) := by
  have p2 := p6_pos hp
  have p0 : 0 < p := by omega
  obtain ⟨nz, b, c, d⟩ := cut_some (h := q.1) (t := q.2) e
  obtain ⟨ph, lh⟩ := h _ b
  have lc := (scl_rw (p := p) (at0 := (a : Int)) p0 lh).2
  have one := scl_one hp (by omega) (by omega) ph nz
  have lg : (f.set a v).length = n := by rw [List.length_set, lf]
  have LG : Lin p w fun r => cg r n - dt (f.set a v) r := (Lin.at (by omega) (by omega)).less Lin.dt
  have ds : ∀ r : List Int, r.length = w → dt (f.set a v) r = dt f r + (v - cg f a) * cg r a := fun r lr => by
    have := dt_set (v := v) (a := (a : Int)) (by omega) (x := f) (r := r) (by omega) (by omega)
    rw [Int.toNat_natCast] at this
    exact this
  have w1 := (stp_rw (at0 := (a : Int)) p0 h).1
  have sz := stp_zero hp (a := (a : Int)) (by omega) (by omega) h
  have eK : cg (scl p a q.1) n - dt (f.set a v) (scl p a q.1) = cg (scl p a q.1) n - dt f (scl p a q.1) + cg f a - v := by
    rw [ds _ lc, one, Int.mul_one]
    omega
  have e1 : Sol p n (f.set a v) (stp p a rows).2 ↔ Sol p n f (stp p a rows).2 := by
    unfold Sol
    constructor
    · intro s r hr
      have := s r hr
      rw [ds r (w1 r hr).2, sz r hr, Int.mul_zero, Int.add_zero] at this
      exact this
    · intro s r hr
      rw [ds r (w1 r hr).2, sz r hr, Int.mul_zero, Int.add_zero]
      exact s r hr
  rw [Bool.eq_iff_iff, Bool.and_eq_true, solB_iff, solB_iff, decide_eq_true_eq, ← md0, ← eK, ← e1]
  constructor
  · intro s
    have sh := s _ b
    refine ⟨?_, LG.stp p0 h s⟩
    have m1 : Md p (cg (scl p a q.1) n - dt (f.set a v) (scl p a q.1)) (backI (cg q.1 a) p * (cg q.1 n - dt (f.set a v) q.1)) := LG.mul (backI (cg q.1 a) p) q.1 lh
    have m2 := m1.trans (sh.mul (c := backI (cg q.1 a) p))
    rw [Int.mul_zero] at m2
    exact m2
  · rintro ⟨s1, s2⟩
    refine (sol_back (pv := []) hp (by omega) (by omega) hn h (fun r h => by cases h) ?_ s2).2
    unfold pst
    rw [e]
    intro r hr
    rw [List.mem_singleton.mp (show r ∈ [scl p (a : Int) q.1] from hr)]
    exact s1
theorem tot_stp {p : Int} {P a n w : Nat} {rows : List (List Int)} (hP : (P : Int) = p) (hp : p ∈ primes6) (ha : a < n) (hn : n < w) (h : Rw p w rows) :
    tot P n (fun f => (solB p n (stp p a rows).2 f).toNat) = P ^ (stp p a rows).1 * tot P n fun f => (solB p n rows f).toNat := by
  have p2 := p6_pos hp
  cases e : cutR (a : Int) rows with
  | none =>
    have es : stp p a rows = (0, rows) := by unfold stp; rw [e]
    rw [es, Nat.pow_zero, Nat.one_mul]
  | some q =>
    have es : (stp p a rows).1 = 1 := by unfold stp; rw [e]
    rw [es, Nat.pow_one, ← coord ha]
    refine tot_congr fun f lf _ => ?_
    have k : ((upN P).map fun v => (solB p n rows (f.set a v)).toNat) = (upN P).map fun v => (decide ((cg (scl p a q.1) n - dt f (scl p a q.1) + cg f a - v) % (P : Int) = 0) && solB p n (stp p a rows).2 f).toNat := List.map_congr_left fun v _ => by
      rw [solB_stp hp ha hn lf h e, hP]
    rw [k]
    cases solB p n (stp p a rows).2 f with
    | false =>
      simp only [Bool.and_false, Bool.toNat_false]
      rw [sumZ]
    | true =>
      simp only [Bool.and_true, Bool.toNat_true]
      rw [one_hit (by omega)]
theorem tot_elim {p : Int} {P n w : Nat} (hP : (P : Int) = p) (hp : p ∈ primes6) (hn : n < w) : ∀ {as : List Int} {rows : List (List Int)}, (∀ a ∈ as, 0 ≤ a ∧ a < n) → Rw p w rows →
    tot P n (fun f => (solB p n (elim p as rows).2 f).toNat) = P ^ (elim p as rows).1 * tot P n fun f => (solB p n rows f).toNat
  | [], rows, _, _ => by
    show _ = P ^ 0 * _
    rw [Nat.pow_zero, Nat.one_mul]
    rfl
  | a :: as, rows, ha, h => by
    have p0 : 0 < p := by have := p6_pos hp; omega
    obtain ⟨a0, a1⟩ := ha a List.mem_cons_self
    obtain ⟨b, rfl⟩ := Int.eq_ofNat_of_zero_le a0
    have h1 := tot_stp (a := b) hP hp (by omega) hn h
    have h2 := tot_elim hP hp hn (as := as) (fun a h => ha a (List.mem_cons_of_mem _ h)) (stp_rw (at0 := (b : Int)) p0 h).1
    rw [elim_cons, Nat.pow_add, Nat.mul_comm (P ^ _), Nat.mul_assoc, ← h1, ← h2]
    rfl
def rkR (p : Int) (n : Nat) (qs : List (List Int × Int)) : Nat := (elim p (upN n) (srows p qs.length 0 qs)).1
theorem elim_le {p : Int} : ∀ {as : List Int} {rows : List (List Int)}, (elim p as rows).1 ≤ as.length
  | [], _ => Nat.le_refl _
  | a :: as, rows => by
    have h := elim_le (p := p) (as := as) (rows := (stp p a rows).2)
    have h1 : (stp p a rows).1 ≤ 1 := by
      unfold stp
      split <;> simp
    rw [elim_cons, List.length_cons]
    omega
def fitP (p : Int) (qs : List (List Int × Int)) (f : List Int) : Bool := qs.all fun q => decide ((q.2 - dt f q.1) % p = 0)
theorem fitP_iff {p : Int} {qs : List (List Int × Int)} {f : List Int} : fitP p qs f = true ↔ ∀ q ∈ qs, Md p (q.2 - dt f q.1) 0 := by
  unfold fitP
  rw [List.all_eq_true]
  exact ⟨fun h r hr => md0.mpr (by simpa using h r hr), fun h r hr => by simpa using md0.mp (h r hr)⟩
theorem fit_sol {p : Int} {n : Nat} {f : List Int} {qs : List (List Int × Int)} (lf : f.length = n) (hq : ∀ q ∈ qs, q.1.length = n) : fitP p qs f = solB p n (srows p qs.length 0 qs) f := by
  rw [Bool.eq_iff_iff, fitP_iff, solB_iff, sol_iff lf hq]
theorem tot_fit {p : Int} {P n : Nat} {qs : List (List Int × Int)} (hP : (P : Int) = p) (hp : p ∈ primes6) (hq : ∀ q ∈ qs, q.1.length = n) :
    tot P n (fun f => (fitP p qs f).toNat) = if bad n (restR p n qs) = none then P ^ (n - rkR p n qs) else 0 := by
  have p2 := p6_pos hp
  have hR : Rw p (n + 1 + qs.length) (srows p qs.length 0 qs) := srows_rw p2 hq
  have P0 : 0 < P := by omega
  have hle : rkR p n qs ≤ n := Nat.le_trans elim_le (by rw [upN_len]; exact Nat.le_refl _)
  have e := tot_elim (n := n) hP hp (by omega) (as := upN n) upN_mem hR
  have e1 : tot P n (fun f => (fitP p qs f).toNat) = tot P n fun f => (solB p n (srows p qs.length 0 qs) f).toNat := tot_congr fun f lf _ => by rw [fit_sol lf hq]
  have e2 : tot P n (fun f => (solB p n (restR p n qs) f).toNat) = if bad n (restR p n qs) = none then P ^ n else 0 := by
    have hr := (elim_rw (p := p) (as := upN n) (by omega) hR).1
    have hz := elim_zero hp (as := upN n) hR (fun a h => by have := upN_mem a h; omega)
    have e3 : tot P n (fun f => (solB p n (restR p n qs) f).toNat) = tot P n fun _ => if bad n (restR p n qs) = none then 1 else 0 := tot_congr fun f lf _ => by
      have hd : ∀ r ∈ restR p n qs, Md p (dt f r) 0 := fun r h => dt_zero fun j hj => Md.of (hz j (upN_has (by omega)) r h)
      by_cases hb : bad n (restR p n qs) = none
      · rw [if_pos hb]
        have : solB p n (restR p n qs) f = true := solB_iff.mpr fun r h => by
          have := (Md.of (m := p) (bad_none.mp hb r h)).sub (hd r h)
          rw [Int.sub_zero] at this
          exact this
        rw [this]
        rfl
      · rw [if_neg hb]
        have : solB p n (restR p n qs) f = false := by
          cases hs : solB p n (restR p n qs) f with
          | false => rfl
          | true =>
            refine absurd (bad_none.mpr fun r h => ?_) hb
            obtain ⟨pr, lr⟩ := hr r h
            have hb := pr _ (cg_mem (a := r) (i := (n : Int)) (by omega) (by omega))
            have := (solB_iff.mp hs r h).add (hd r h)
            rw [Int.sub_add_cancel, Int.zero_add] at this
            exact md_pn hb.1 hb.2 this
        rw [this]
        rfl
    rw [e3]
    unfold tot
    rw [sum_same, allT_len]
    split <;> simp
  have e : tot P n (fun f => (solB p n (restR p n qs) f).toNat) = P ^ rkR p n qs * tot P n fun f => (solB p n (srows p qs.length 0 qs) f).toNat := e
  rw [e2, ← e1] at e
  have pp : 0 < P ^ rkR p n qs := Nat.pow_pos P0
  by_cases hb : bad n (restR p n qs) = none
  · rw [if_pos hb] at e ⊢
    refine Nat.eq_of_mul_eq_mul_left pp ?_
    rw [← e, ← Nat.pow_add]
    congr 1
    omega
  · rw [if_neg hb] at e ⊢
    rcases Nat.mul_eq_zero.mp e.symm with h | h
    · omega
    · exact h
end NA

namespace NA
open PySem PySem.Spec PyProof.Rows L2 DL FL RF
local macro_rules | `(tactic| walk_at "fl") => `(tactic| simp only [ap_var, ap_c, ap_un, ap_unV, ap_op, ap_opO, ap_fn, ap_nil, ap_cons, ap_tr, ap_b, ap_tand, ap_tor, ap_tnot, ap_and, ap_or, ap_not, ap_if, ap_chain, ap_tup, ap_lst, ap_lstO, ap_dictO, ap_frz, ap_sl, ap_no, ap_part, ap_mut, ap_call, ap_callK, ap_get, ap_dict, ap_isi, ap_rep, ap_listO, ap_seq, ap_iargs, ap_lc, ap_lcO, ap_yes, ap_sq, ap_ret, ap_drop, ap_sif, ap_nx, ap_bk, ap_ct, ap_asg, ap_setR, ap_runT, ap_bb0, ap_bbs, ap_bbn, ap_bbd, ap_bbc, ap_bbb, ap_sfrz, ap_setI, ap_setK, ap_for, ap_par, ap_asgT, ap_run, ap_see, ap_seeo, ap_seer, ap_getC, ap_setC, ap_sees0, ap_sees1, ap_parN, ap_view, ap_frza0, ap_frza, ap_frzc, ap_frzb, ap_frzd, ap_frzn, ap_call1, ap_c1o, ap_sar0, ap_sar1, ap_frv, ap_fro, ap_tgN, ap_tgT, fin_val, fin_own, fin_ref, fin_nx, bors_nil, bors_d, bors_b, R.bind_ok, ofO_some, ofB_some, ofOL_list, seeV, frV, vals, setAllF, wipeF, restF, callR, refsOf, argVs, putBack, setR2, setI, setK, ap_glt, ap_gle, ap_ggt, ap_gge, ap_gsub, ap_gadd, ap_gneg, ap_gix, ap_cutl, ap_cutt, ap_gtup, ap_glist, ap_glen, ap_gint, ap_gintb, ap_gabs, ap_gmax, ap_gmin, ap_isN, ap_notN, ap_geq, ap_gne, ap_eqi, ap_eqb, ap_eqs, ap_iol, ap_iot, ap_gtn, ap_gtb, ap_gti, ap_gtl, ap_gtt, ap_isn0, ap_isni, ap_isnl, ap_isnt, ap_revl, ap_revt, ap_enum, ap_zipl, ap_zipt, intsOf_map, boolsOf_map, ap_cellL, startF, List.map_cons, List.map_nil, List.length_cons, List.length_nil, List.replicate_succ, List.replicate_zero, List.cons_append, List.nil_append, List.append_nil, List.getElem?_cons_zero, List.getElem?_cons_succ, List.getElem?_nil, List.set_cons_zero, List.set_cons_succ, List.set_nil, Option.map_some, Option.map_none, Option.bind_some, Option.bind_none, Nat.reduceSub, Nat.reduceAdd, if_true, if_false, Bool.false_eq_true, reduceIte, true_and, and_true, Nat.sub_zero, Nat.zero_add, reduceCtorEq, List.nodup_nil, List.nodup_cons, List.not_mem_nil, not_false_eq_true, and_self, Bool.not_true, Bool.not_false, Bool.not_not, decide_true, decide_false, Nat.reduceLeDiff, atI0, atI1, req_true])
theorem crt6 (F G : Int → Nat) : ((upN 6).map fun v => F (v % 2) * G (v % 3)).sum = ((upN 2).map F).sum * ((upN 3).map G).sum := by
  have e : upN 6 = [0, 1, 2, 3, 4, 5] := by decide
  have e1 : upN 2 = [0, 1] := by decide
  have e2 : upN 3 = [0, 1, 2] := by decide
  rw [e, e1, e2]
  simp [Nat.add_mul, Nat.mul_add]
  omega
theorem crt10 (F G : Int → Nat) : ((upN 10).map fun v => F (v % 2) * G (v % 5)).sum = ((upN 2).map F).sum * ((upN 5).map G).sum := by
  have e : upN 10 = [0, 1, 2, 3, 4, 5, 6, 7, 8, 9] := by decide
  have e1 : upN 2 = [0, 1] := by decide
  have e2 : upN 5 = [0, 1, 2, 3, 4] := by decide
  rw [e, e1, e2]
  simp [Nat.add_mul, Nat.mul_add]
  omega
theorem crt14 (F G : Int → Nat) : ((upN 14).map fun v => F (v % 2) * G (v % 7)).sum = ((upN 2).map F).sum * ((upN 7).map G).sum := by
  have e : upN 14 = [0, 1, 2, 3, 4, 5, 6, 7, 8, 9, 10, 11, 12, 13] := by decide
  have e1 : upN 2 = [0, 1] := by decide
  have e2 : upN 7 = [0, 1, 2, 3, 4, 5, 6] := by decide
  rw [e, e1, e2]
  simp [Nat.add_mul, Nat.mul_add]
  omega
theorem crt15 (F G : Int → Nat) : ((upN 15).map fun v => F (v % 3) * G (v % 5)).sum = ((upN 3).map F).sum * ((upN 5).map G).sum := by
  have e : upN 15 = [0, 1, 2, 3, 4, 5, 6, 7, 8, 9, 10, 11, 12, 13, 14] := by decide
  have e1 : upN 3 = [0, 1, 2] := by decide
  have e2 : upN 5 = [0, 1, 2, 3, 4] := by decide
  rw [e, e1, e2]
  simp [Nat.add_mul, Nat.mul_add]
  omega
theorem crt_one {m p q : Int} (hm : m ∈ mods) (e : primesOf m = [p, q]) (F G : Int → Nat) : ((upN m.toNat).map fun v => F (v % p) * G (v % q)).sum = ((upN p.toNat).map F).sum * ((upN q.toNat).map G).sum := by
  simp only [mods, List.mem_cons, List.not_mem_nil, or_false] at hm
  rcases hm with rfl | rfl | rfl | rfl | rfl | rfl | rfl | rfl | rfl | rfl
  · rw [show primesOf 2 = [2] by decide] at e; cases e
  · rw [show primesOf 3 = [3] by decide] at e; cases e
  · rw [show primesOf 5 = [5] by decide] at e; cases e
  · rw [show primesOf 6 = [2, 3] by decide] at e; cases e; exact crt6 F G
  · rw [show primesOf 7 = [7] by decide] at e; cases e
  · rw [show primesOf 10 = [2, 5] by decide] at e; cases e; exact crt10 F G
  · rw [show primesOf 11 = [11] by decide] at e; cases e
  · rw [show primesOf 13 = [13] by decide] at e; cases e
  · rw [show primesOf 14 = [2, 7] by decide] at e; cases e; exact crt14 F G
  · rw [show primesOf 15 = [3, 5] by decide] at e; cases e; exact crt15 F G
theorem tot_crt {m p q : Int} (hm : m ∈ mods) (e : primesOf m = [p, q]) : ∀ {n : Nat} {F G : List Int → Nat}, tot m.toNat n (fun f => F (f.map (· % p)) * G (f.map (· % q))) = tot p.toNat n F * tot q.toNat n G
  | 0, F, G => by
    show (F [] * G [] + 0) = (F [] + 0) * (G [] + 0)
    simp
  | n + 1, F, G => by
    rw [tot_succ, tot_succ, tot_succ, ← tot_crt hm e]
    refine tot_congr fun f _ _ => ?_
    rw [← crt_one hm e]
    congr 1
    refine List.map_congr_left fun v _ => ?_
    rw [List.map_append, List.map_append]
    rfl
def fitM (m : Int) (qs : List (List Int × Int)) (f : List Int) : Bool := qs.all fun q => decide (dt f q.1 % m = q.2)
theorem mods_dvd {m : Int} (hm : m ∈ mods) (x : Int) : x % m = 0 ↔ ∀ p ∈ primesOf m, x % p = 0 := by
  simp only [mods, List.mem_cons, List.not_mem_nil, or_false] at hm
  rcases hm with rfl | rfl | rfl | rfl | rfl | rfl | rfl | rfl | rfl | rfl
  · rw [show primesOf 2 = [2] by decide]; simp
  · rw [show primesOf 3 = [3] by decide]; simp
  · rw [show primesOf 5 = [5] by decide]; simp
  · rw [show primesOf 6 = [2, 3] by decide]; simp; omega
  · rw [show primesOf 7 = [7] by decide]; simp
  · rw [show primesOf 10 = [2, 5] by decide]; simp; omega
  · rw [show primesOf 11 = [11] by decide]; simp
  · rw [show primesOf 13 = [13] by decide]; simp
  · rw [show primesOf 14 = [2, 7] by decide]; simp; omega
  · rw [show primesOf 15 = [3, 5] by decide]; simp; omega
theorem mod_is {m x y : Int} (m0 : 0 < m) (y0 : 0 ≤ y) (y1 : y < m) : x % m = y ↔ (y - x) % m = 0 := by
  constructor
  · intro h
    rw [← h, Int.sub_emod, Int.emod_emod, Int.sub_self, Int.zero_emod]
  · intro h
    obtain ⟨c, hc⟩ := Int.dvd_of_emod_eq_zero h
    have : x = y + m * (-c) := by rw [Int.mul_neg]; omega
    rw [this, Int.add_mul_emod_self_left, Int.emod_eq_of_lt y0 y1]
theorem fitM_all {m : Int} {n : Nat} {qs : List (List Int × Int)} {f : List Int} (hm : m ∈ mods) (h : Lks m n qs) : fitM m qs f = (primesOf m).all fun p => fitP p qs f := by
  have mb := modsB hm
  rw [Bool.eq_iff_iff]
  unfold fitM fitP
  simp only [List.all_eq_true, decide_eq_true_eq]
  constructor
  · intro a p hp q hq
    obtain ⟨_, _, y0, y1⟩ := h.ok q hq
    exact (mods_dvd hm _).mp ((mod_is (by omega) y0 y1).mp (a q hq)) p hp
  · intro a q hq
    obtain ⟨_, _, y0, y1⟩ := h.ok q hq
    exact (mod_is (by omega) y0 y1).mpr ((mods_dvd hm _).mpr fun p hp => a p hp q hq)
theorem fitP_mod {p : Int} {qs : List (List Int × Int)} {f : List Int} : fitP p qs (f.map (· % p)) = fitP p qs f := by
  rw [Bool.eq_iff_iff, fitP_iff, fitP_iff]
  have e : ∀ y : List Int, Md p (dt (f.map (· % p)) y) (dt f y) := fun y => by
    rw [dt_comm, dt_comm (xs := f)]
    exact dt_md
  exact ⟨fun h q hq => (Md.refl.sub (e q.1).symm).trans (h q hq), fun h q hq => (Md.refl.sub (e q.1)).trans (h q hq)⟩
def prodR (n : Nat) (qs : List (List Int × Int)) : List Int → Nat
  | [] => 1
  | p :: ps => p.toNat ^ (n - rkR p n qs) * prodR n qs ps
def cntR (m : Int) (n : Nat) (qs : List (List Int × Int)) : Nat := if refL n qs (primesOf m) = none then prodR n qs (primesOf m) else 0
theorem two_primes {m : Int} (hm : m ∈ mods) : (primesOf m = [m]) ∨ ∃ p q, primesOf m = [p, q] := by
  simp only [mods, List.mem_cons, List.not_mem_nil, or_false] at hm
  rcases hm with rfl | rfl | rfl | rfl | rfl | rfl | rfl | rfl | rfl | rfl
  · exact .inl (by decide)
  · exact .inl (by decide)
  · exact .inl (by decide)
  · exact .inr ⟨2, 3, by decide⟩
  · exact .inl (by decide)
  · exact .inr ⟨2, 5, by decide⟩
  · exact .inl (by decide)
  · exact .inl (by decide)
  · exact .inr ⟨2, 7, by decide⟩
  · exact .inr ⟨3, 5, by decide⟩
theorem count_all {m : Int} {n : Nat} {qs : List (List Int × Int)} (hm : m ∈ mods) (h : Lks m n qs) : ((allT m.toNat n).filter (fitM m qs)).length = cntR m n qs := by
  have mb := modsB hm
  have hq : ∀ q ∈ qs, q.1.length = n := fun q hq => (h.ok q hq).2.1
  rw [len_filter]
  show tot m.toNat n (fun f => (fitM m qs f).toNat) = _
  have one : ∀ p ∈ primesOf m, tot p.toNat n (fun f => (fitP p qs f).toNat) = if bad n (restR p n qs) = none then p.toNat ^ (n - rkR p n qs) else 0 := fun p hp => by
    have p6 := primes_six p hp
    have p2 := p6_pos p6
    exact tot_fit (by omega) p6 hq
  unfold cntR
  rcases two_primes hm with e | ⟨p, q, e⟩
  · have e1 : tot m.toNat n (fun f => (fitM m qs f).toNat) = tot m.toNat n fun f => (fitP m qs f).toNat := tot_congr fun f _ _ => by
      rw [fitM_all hm h, e]
      simp
    rw [e1, one m (by rw [e]; exact List.mem_cons_self), e]
    have : refL n qs [m] = none ↔ bad n (restR m n qs) = none := by
      rw [ref_none]
      simp
    by_cases hb : bad n (restR m n qs) = none
    · rw [if_pos hb, if_pos (this.mpr hb)]
      simp [prodR]
    · rw [if_neg hb, if_neg fun z => hb (this.mp z)]
  · have e1 : tot m.toNat n (fun f => (fitM m qs f).toNat) = tot m.toNat n fun f => (fitP p qs (f.map (· % p))).toNat * (fitP q qs (f.map (· % q))).toNat := tot_congr fun f _ _ => by
      rw [fitM_all hm h, e, fitP_mod, fitP_mod]
      show (fitP p qs f && (fitP q qs f && true)).toNat = _
      cases fitP p qs f <;> cases fitP q qs f <;> rfl
    rw [e1, tot_crt (F := fun f => (fitP p qs f).toNat) (G := fun f => (fitP q qs f).toNat) hm e, one p (by rw [e]; exact List.mem_cons_self), one q (by rw [e]; exact List.mem_cons_of_mem _ List.mem_cons_self), e]
    have : refL n qs [p, q] = none ↔ bad n (restR p n qs) = none ∧ bad n (restR q n qs) = none := by
      rw [ref_none]
      simp
    by_cases hb : bad n (restR p n qs) = none
    · by_cases hc : bad n (restR q n qs) = none
      · rw [if_pos hb, if_pos hc, if_pos (this.mpr ⟨hb, hc⟩)]
        simp [prodR]
      · rw [if_neg hc, if_neg fun z => hc (this.mp z).2, Nat.mul_zero]
    · rw [if_neg hb, if_neg fun z => hb (this.mp z).1, Nat.zero_mul]
end NA

namespace NA
open PySem PySem.Spec PyProof.Rows L2 DL FL RF
local macro_rules | `(tactic| walk_at "fl") => `(tactic| simp only [ap_var, ap_c, ap_un, ap_unV, ap_op, ap_opO, ap_fn, ap_nil, ap_cons, ap_tr, ap_b, ap_tand, ap_tor, ap_tnot, ap_and, ap_or, ap_not, ap_if, ap_chain, ap_tup, ap_lst, ap_lstO, ap_dictO, ap_frz, ap_sl, ap_no, ap_part, ap_mut, ap_call, ap_callK, ap_get, ap_dict, ap_isi, ap_rep, ap_listO, ap_seq, ap_iargs, ap_lc, ap_lcO, ap_yes, ap_sq, ap_ret, ap_drop, ap_sif, ap_nx, ap_bk, ap_ct, ap_asg, ap_setR, ap_runT, ap_bb0, ap_bbs, ap_bbn, ap_bbd, ap_bbc, ap_bbb, ap_sfrz, ap_setI, ap_setK, ap_for, ap_par, ap_asgT, ap_run, ap_see, ap_seeo, ap_seer, ap_getC, ap_setC, ap_sees0, ap_sees1, ap_parN, ap_view, ap_frza0, ap_frza, ap_frzc, ap_frzb, ap_frzd, ap_frzn, ap_call1, ap_c1o, ap_sar0, ap_sar1, ap_frv, ap_fro, ap_tgN, ap_tgT, fin_val, fin_own, fin_ref, fin_nx, bors_nil, bors_d, bors_b, R.bind_ok, ofO_some, ofB_some, ofOL_list, seeV, frV, vals, setAllF, wipeF, restF, callR, refsOf, argVs, putBack, setR2, setI, setK, ap_glt, ap_gle, ap_ggt, ap_gge, ap_gsub, ap_gadd, ap_gneg, ap_gix, ap_cutl, ap_cutt, ap_gtup, ap_glist, ap_glen, ap_gint, ap_gintb, ap_gabs, ap_gmax, ap_gmin, ap_isN, ap_notN, ap_geq, ap_gne, ap_eqi, ap_eqb, ap_eqs, ap_iol, ap_iot, ap_gtn, ap_gtb, ap_gti, ap_gtl, ap_gtt, ap_isn0, ap_isni, ap_isnl, ap_isnt, ap_revl, ap_revt, ap_enum, ap_zipl, ap_zipt, intsOf_map, boolsOf_map, ap_cellL, startF, List.map_cons, List.map_nil, List.length_cons, List.length_nil, List.replicate_succ, List.replicate_zero, List.cons_append, List.nil_append, List.append_nil, List.getElem?_cons_zero, List.getElem?_cons_succ, List.getElem?_nil, List.set_cons_zero, List.set_cons_succ, List.set_nil, Option.map_some, Option.map_none, Option.bind_some, Option.bind_none, Nat.reduceSub, Nat.reduceAdd, if_true, if_false, Bool.false_eq_true, reduceIte, true_and, and_true, Nat.sub_zero, Nat.zero_add, reduceCtorEq, List.nodup_nil, List.nodup_cons, List.not_mem_nil, not_false_eq_true, and_self, Bool.not_true, Bool.not_false, Bool.not_not, decide_true, decide_false, Nat.reduceLeDiff, atI0, atI1, req_true])
end NA

namespace NA
open PySem PySem.Spec PyProof.Rows L2 DL FL RF
local macro_rules | `(tactic| walk_at "fl") => `(tactic| simp only [ap_var, ap_c, ap_un, ap_unV, ap_op, ap_opO, ap_fn, ap_nil, ap_cons, ap_tr, ap_b, ap_tand, ap_tor, ap_tnot, ap_and, ap_or, ap_not, ap_if, ap_chain, ap_tup, ap_lst, ap_lstO, ap_dictO, ap_frz, ap_sl, ap_no, ap_part, ap_mut, ap_call, ap_callK, ap_get, ap_dict, ap_isi, ap_rep, ap_listO, ap_seq, ap_iargs, ap_lc, ap_lcO, ap_yes, ap_sq, ap_ret, ap_drop, ap_sif, ap_nx, ap_bk, ap_ct, ap_asg, ap_setR, ap_runT, ap_bb0, ap_bbs, ap_bbn, ap_bbd, ap_bbc, ap_bbb, ap_sfrz, ap_setI, ap_setK, ap_for, ap_par, ap_asgT, ap_run, ap_see, ap_seeo, ap_seer, ap_getC, ap_setC, ap_sees0, ap_sees1, ap_parN, ap_view, ap_frza0, ap_frza, ap_frzc, ap_frzb, ap_frzd, ap_frzn, ap_call1, ap_c1o, ap_sar0, ap_sar1, ap_frv, ap_fro, ap_tgN, ap_tgT, fin_val, fin_own, fin_ref, fin_nx, bors_nil, bors_d, bors_b, R.bind_ok, ofO_some, ofB_some, ofOL_list, seeV, frV, vals, setAllF, wipeF, restF, callR, refsOf, argVs, putBack, setR2, setI, setK, ap_glt, ap_gle, ap_ggt, ap_gge, ap_gsub, ap_gadd, ap_gneg, ap_gix, ap_cutl, ap_cutt, ap_gtup, ap_glist, ap_glen, ap_gint, ap_gintb, ap_gabs, ap_gmax, ap_gmin, ap_isN, ap_notN, ap_geq, ap_gne, ap_eqi, ap_eqb, ap_eqs, ap_iol, ap_iot, ap_gtn, ap_gtb, ap_gti, ap_gtl, ap_gtt, ap_isn0, ap_isni, ap_isnl, ap_isnt, ap_revl, ap_revt, ap_enum, ap_zipl, ap_zipt, intsOf_map, boolsOf_map, ap_cellL, startF, List.map_cons, List.map_nil, List.length_cons, List.length_nil, List.replicate_succ, List.replicate_zero, List.cons_append, List.nil_append, List.append_nil, List.getElem?_cons_zero, List.getElem?_cons_succ, List.getElem?_nil, List.set_cons_zero, List.set_cons_succ, List.set_nil, Option.map_some, Option.map_none, Option.bind_some, Option.bind_none, Nat.reduceSub, Nat.reduceAdd, if_true, if_false, Bool.false_eq_true, reduceIte, true_and, and_true, Nat.sub_zero, Nat.zero_add, reduceCtorEq, List.nodup_nil, List.nodup_cons, List.not_mem_nil, not_false_eq_true, and_self, Bool.not_true, Bool.not_false, Bool.not_not, decide_true, decide_false, Nat.reduceLeDiff, atI0, atI1, req_true])
theorem ix_len {p : Int} {n : Nat} {qs : List (List Int × Int)} : (ixR p n qs).length = rkR p n qs := by
  have := iel_len (p := p) (as := upN n) (rows := srows p qs.length 0 qs) (ix := [])
  rw [List.length_nil, Nat.zero_add] at this
  exact this
theorem rk_le {p : Int} {n : Nat} {qs : List (List Int × Int)} : rkR p n qs ≤ n := Nat.le_trans elim_le (by rw [upN_len]; exact Nat.le_refl _)
end NA

namespace NA
open PySem PySem.Spec PyProof.Rows L2 DL FL RF
local macro_rules | `(tactic| walk_at "fl") => `(tactic| simp only [ap_var, ap_c, ap_un, ap_unV, ap_op, ap_opO, ap_fn, ap_nil, ap_cons, ap_tr, ap_b, ap_tand, ap_tor, ap_tnot, ap_and, ap_or, ap_not, ap_if, ap_chain, ap_tup, ap_lst, ap_lstO, ap_dictO, ap_frz, ap_sl, ap_no, ap_part, ap_mut, ap_call, ap_callK, ap_get, ap_dict, ap_isi, ap_rep, ap_listO, ap_seq, ap_iargs, ap_lc, ap_lcO, ap_yes, ap_sq, ap_ret, ap_drop, ap_sif, ap_nx, ap_bk, ap_ct, ap_asg, ap_setR, ap_runT, ap_bb0, ap_bbs, ap_bbn, ap_bbd, ap_bbc, ap_bbb, ap_sfrz, ap_setI, ap_setK, ap_for, ap_par, ap_asgT, ap_run, ap_see, ap_seeo, ap_seer, ap_getC, ap_setC, ap_sees0, ap_sees1, ap_parN, ap_view, ap_frza0, ap_frza, ap_frzc, ap_frzb, ap_frzd, ap_frzn, ap_call1, ap_c1o, ap_sar0, ap_sar1, ap_frv, ap_fro, ap_tgN, ap_tgT, fin_val, fin_own, fin_ref, fin_nx, bors_nil, bors_d, bors_b, R.bind_ok, ofO_some, ofB_some, ofOL_list, seeV, frV, vals, setAllF, wipeF, restF, callR, refsOf, argVs, putBack, setR2, setI, setK, ap_glt, ap_gle, ap_ggt, ap_gge, ap_gsub, ap_gadd, ap_gneg, ap_gix, ap_cutl, ap_cutt, ap_gtup, ap_glist, ap_glen, ap_gint, ap_gintb, ap_gabs, ap_gmax, ap_gmin, ap_isN, ap_notN, ap_geq, ap_gne, ap_eqi, ap_eqb, ap_eqs, ap_iol, ap_iot, ap_gtn, ap_gtb, ap_gti, ap_gtl, ap_gtt, ap_isn0, ap_isni, ap_isnl, ap_isnt, ap_revl, ap_revt, ap_enum, ap_zipl, ap_zipt, intsOf_map, boolsOf_map, ap_cellL, startF, List.map_cons, List.map_nil, List.length_cons, List.length_nil, List.replicate_succ, List.replicate_zero, List.cons_append, List.nil_append, List.append_nil, List.getElem?_cons_zero, List.getElem?_cons_succ, List.getElem?_nil, List.set_cons_zero, List.set_cons_succ, List.set_nil, Option.map_some, Option.map_none, Option.bind_some, Option.bind_none, Nat.reduceSub, Nat.reduceAdd, if_true, if_false, Bool.false_eq_true, reduceIte, true_and, and_true, Nat.sub_zero, Nat.zero_add, reduceCtorEq, List.nodup_nil, List.nodup_cons, List.not_mem_nil, not_false_eq_true, and_self, Bool.not_true, Bool.not_false, Bool.not_not, decide_true, decide_false, Nat.reduceLeDiff, atI0, atI1, req_true])
theorem cut_snoc {a : Int} {r : List Int} : ∀ {R : List (List Int)}, cutR a (R ++ [r]) = match cutR a R with
    | some q => some (q.1, q.2 ++ [r])
    | none => if cg r a ≠ 0 then some (r, R) else none
  | [] => by
    show cutR a [r] = if cg r a ≠ 0 then some (r, []) else none
    unfold cutR
    split
    · rfl
    · rfl
  | s :: R => by
    have ih := cut_snoc (a := a) (r := r) (R := R)
    rw [List.cons_append]
    unfold cutR
    by_cases h : cg s a ≠ 0
    · rw [if_pos h, if_pos h]
    · rw [if_neg h, if_neg h, ih]
      cases cutR a R with
      | some q => rfl
      | none =>
        simp only [Option.map_none]
        split <;> rfl
theorem clr_all {p a : Int} {w : Nat} {R : List (List Int)} {h : List Int} (hR : Rw p w R) (lh : h.length = w) (z : ∀ s ∈ R, cg s a = 0) : R.map (clr p a h) = R := by
  have : R.map (clr p a h) = R.map id := List.map_congr_left fun s hs => clr_same (hR s hs).1 (by rw [lh, (hR s hs).2]) (z s hs)
  rw [this, List.map_id]
theorem ist_ix {a : Int} {R : List (List Int)} {ix : List Int} : ist a R ix = ix ++ ist a R [] := by
  unfold ist
  cases cutR a R <;> simp
theorem iel_ix {p : Int} : ∀ {as : List Int} {R : List (List Int)} {ix : List Int}, iel p as R ix = ix ++ iel p as R []
  | [], R, ix => by
    show ix = ix ++ []
    simp
  | a :: as, R, ix => by
    show iel p as _ (ist a R ix) = ix ++ iel p as _ (ist a R [])
    rw [iel_ix (ix := ist a R ix), iel_ix (ix := ist a R []), ist_ix, List.append_assoc]
theorem iel_app {p : Int} {bs : List Int} : ∀ {as : List Int} {R : List (List Int)} {ix : List Int}, iel p (as ++ bs) R ix = iel p bs (elim p as R).2 (iel p as R ix)
  | [], R, ix => rfl
  | a :: as, R, ix => by
    show iel p (as ++ bs) _ (ist a R ix) = _
    rw [iel_app]
    rfl
theorem row_zero {p a : Int} {w : Nat} {R : List (List Int)} {r ix : List Int} (p0 : 0 < p) (hR : Rw p w R) (pr : Pn p r) (lr : r.length = w) (z : cg r a = 0) : stp p a (R ++ [r]) = ((stp p a R).1, (stp p a R).2 ++ [r]) ∧ ist a (R ++ [r]) ix = ist a R ix := by
  unfold stp ist
  rw [cut_snoc]
  cases e : cutR a R with
  | none =>
    simp only [z, ne_eq, not_true_eq_false, if_false]
    exact ⟨trivial, trivial⟩
  | some q =>
    obtain ⟨_, hm, _, _⟩ := cut_some (h := q.1) (t := q.2) e
    have lh := (scl_rw (p := p) (at0 := a) p0 (hR _ hm).2).2
    simp only [List.map_append, List.map_cons, List.map_nil]
    rw [clr_same pr (by rw [lh, lr]) z]
    first | exact ⟨rfl, trivial⟩ | exact ⟨rfl, rfl⟩
theorem rows_zero {p : Int} {w : Nat} {r : List Int} (p0 : 0 < p) (pr : Pn p r) (lr : r.length = w) : ∀ {as : List Int} {R : List (List Int)} {ix : List Int}, Rw p w R → (∀ a ∈ as, cg r a = 0) → elim p as (R ++ [r]) = ((elim p as R).1, (elim p as R).2 ++ [r]) ∧ iel p as (R ++ [r]) ix = iel p as R ix
  | [], R, ix, _, _ => ⟨rfl, rfl⟩
  | a :: as, R, ix, hR, z => by
    obtain ⟨e1, e2⟩ := row_zero (ix := ix) p0 hR pr lr (z a List.mem_cons_self)
    obtain ⟨e3, e4⟩ := rows_zero p0 pr lr (as := as) (ix := ist a R ix) (stp_rw (at0 := a) p0 hR).1 fun b hb => z b (List.mem_cons_of_mem _ hb)
    constructor
    · unfold elim
      rw [e1]
      simp only
      rw [e3]
    · show iel p as (stp p a (R ++ [r])).2 (ist a (R ++ [r]) ix) = iel p as (stp p a R).2 (ist a R ix)
      rw [e1, e2, e4]
theorem rows_unit {p b : Int} {w : Nat} {r pre post : List Int} {R : List (List Int)} (p0 : 0 < p) (hR : Rw p w R) (pr : Pn p r) (lr : r.length = w) (z : ∀ a ∈ pre, cg r a = 0) (o : cg r b ≠ 0) (free : b ∉ iel p (pre ++ b :: post) R []) :
    (elim p (pre ++ b :: post) (R ++ [r])).1 = (elim p (pre ++ b :: post) R).1 + 1 ∧ ∀ a, a ∈ iel p (pre ++ b :: post) (R ++ [r]) [] ↔ a ∈ iel p (pre ++ b :: post) R [] ∨ a = b := by
  obtain ⟨e1, e2⟩ := rows_zero p0 pr lr (as := pre) (ix := []) hR z
  have hR1 := (elim_rw p0 (as := pre) hR).1
  have ec : cutR b (elim p pre R).2 = none := by
    cases e : cutR b (elim p pre R).2 with
    | none => rfl
    | some q =>
      refine absurd ?_ free
      rw [iel_app]
      show b ∈ iel p post _ (ist b (elim p pre R).2 (iel p pre R []))
      rw [iel_ix]
      refine List.mem_append.mpr (.inl ?_)
      unfold ist
      rw [e]
      simp
  have lc := (scl_rw (p := p) (at0 := b) (h := r) p0 lr).2
  have s1 : stp p b ((elim p pre R).2 ++ [r]) = (1, (elim p pre R).2) := by
    unfold stp
    rw [cut_snoc, ec]
    simp only [o, ne_eq, not_false_eq_true, if_true]
    rw [clr_all hR1 lc (cut_none ec)]
  have s2 : stp p b (elim p pre R).2 = (0, (elim p pre R).2) := by
    unfold stp
    rw [ec]
  have i1 : ∀ ix : List Int, ist b ((elim p pre R).2 ++ [r]) ix = ix ++ [b] := fun ix => by
    unfold ist
    rw [cut_snoc, ec]
    simp only [o, ne_eq, not_false_eq_true, if_true]
  have i2 : ∀ ix : List Int, ist b (elim p pre R).2 ix = ix := fun ix => by
    unfold ist
    rw [ec]
  constructor
  · rw [elim_app, elim_app, e1]
    show _ + ((stp p b ((elim p pre R).2 ++ [r])).1 + (elim p post (stp p b ((elim p pre R).2 ++ [r])).2).1) = _ + ((stp p b (elim p pre R).2).1 + (elim p post (stp p b (elim p pre R).2).2).1) + 1
    rw [s1, s2]
    simp only
    omega
  · intro a
    rw [iel_app, iel_app, e1, e2]
    show a ∈ iel p post (stp p b ((elim p pre R).2 ++ [r])).2 (ist b ((elim p pre R).2 ++ [r]) (iel p pre R [])) ↔ a ∈ iel p post (stp p b (elim p pre R).2).2 (ist b (elim p pre R).2 (iel p pre R [])) ∨ a = b
    rw [s1, s2, i1, i2, iel_ix, iel_ix (ix := iel p pre R [])]
    simp only [List.mem_append, List.mem_singleton]
    constructor
    · rintro ((h | h) | h)
      · exact .inl (.inl h)
      · exact .inr h
      · exact .inl (.inr h)
    · rintro ((h | h) | h)
      · exact .inl (.inl h)
      · exact .inr h
      · exact .inl (.inr h)
def lkR (p : Int) (qs : List (List Int × Int)) : List (List Int) := qs.map fun q => (q.1 ++ [q.2]).map fun x => x % p
theorem lkR_take {p : Int} {n : Nat} : ∀ {qs : List (List Int × Int)} {k L : Nat}, (∀ q ∈ qs, q.1.length = n) → lkR p qs = (srows p L k qs).map (List.take (n + 1))
  | [], _, _, _ => rfl
  | q :: qs, k, L, h => by
    have lq := h q List.mem_cons_self
    have ih := lkR_take (p := p) (qs := qs) (k := k + 1) (L := L) fun q h' => h q (List.mem_cons_of_mem _ h')
    rw [srows, List.map_cons, ← ih]
    show ((q.1 ++ [q.2]).map fun x => x % p) :: lkR p qs = _
    congr 1
    unfold srow
    rw [List.take_append_of_le_length (by rw [List.length_map, List.length_append, List.length_singleton]; omega), List.take_of_length_le (by rw [List.length_map, List.length_append, List.length_singleton]; omega)]
theorem ist_take {a : Int} {k : Nat} (h0 : 0 ≤ a) (h1 : a < k) {rows : List (List Int)} {ix : List Int} : ist a (rows.map (List.take k)) ix = ist a rows ix := by
  unfold ist
  rw [cut_take h0 h1]
  cases cutR a rows <;> rfl
theorem iel_take {p : Int} {k : Nat} : ∀ {as : List Int} {rows : List (List Int)} {ix : List Int}, (∀ a ∈ as, 0 ≤ a ∧ a < k) → iel p as (rows.map (List.take k)) ix = iel p as rows ix
  | [], _, _, _ => rfl
  | a :: as, rows, ix, h => by
    obtain ⟨h0, h1⟩ := h a List.mem_cons_self
    show iel p as (stp p a (rows.map (List.take k))).2 (ist a (rows.map (List.take k)) ix) = iel p as (stp p a rows).2 (ist a rows ix)
    rw [stp_take h0 h1, ist_take h0 h1]
    exact iel_take fun b hb => h b (List.mem_cons_of_mem _ hb)
theorem rk_lk {p : Int} {n : Nat} {qs : List (List Int × Int)} (h : ∀ q ∈ qs, q.1.length = n) : rkR p n qs = (elim p (upN n) (lkR p qs)).1 ∧ ixR p n qs = iel p (upN n) (lkR p qs) [] := by
  rw [lkR_take (k := 0) (L := qs.length) h, elim_take fun a h => (by have := upN_mem a h; omega), iel_take fun a h => (by have := upN_mem a h; omega)]
  exact ⟨rfl, rfl⟩
theorem lkR_rw {p : Int} {n : Nat} {qs : List (List Int × Int)} (p0 : 0 < p) (h : ∀ q ∈ qs, q.1.length = n) : Rw p (n + 1) (lkR p qs) := fun r hr => by
  unfold lkR at hr
  obtain ⟨q, hq, rfl⟩ := List.mem_map.mp hr
  refine ⟨fun x hx => ?_, by rw [List.length_map, List.length_append, List.length_singleton, h q hq]⟩
  obtain ⟨v, _, rfl⟩ := List.mem_map.mp hx
  exact ⟨Int.emod_nonneg _ (by omega), Int.emod_lt_of_pos _ p0⟩
theorem lk_cg {p : Int} {n : Nat} {q : List Int × Int} {j : Int} (lq : q.1.length = n) (h0 : 0 ≤ j) (h1 : j < n) : cg ((q.1 ++ [q.2]).map fun x => x % p) j = cg q.1 j % p := by
  rw [cg_map h0 (by rw [List.length_append, List.length_singleton]; omega)]
  congr 1
  unfold cg
  rw [List.getElem?_append_left (by omega)]
theorem upN_split {n b : Nat} (h : b < n) : upN n = upN b ++ (b : Int) :: (List.range' (b + 1) (n - b - 1)).map fun (i : Nat) => (i : Int) := by
  unfold upN
  rw [List.range_eq_range', List.range_eq_range', show n = b + (1 + (n - b - 1)) by omega, ← List.range'_append_1, List.map_append]
  congr 1
  rw [show b + (1 + (n - b - 1)) - b - 1 = n - b - 1 by omega, Nat.zero_add, ← List.range'_append_1]
  simp
theorem rk_more0 {p : Int} {n : Nat} {qs : List (List Int × Int)} {q : List Int × Int} (hp : p ∈ primes6) (h : ∀ q ∈ qs, q.1.length = n) (lq : q.1.length = n) (z : ∀ j : Nat, j < n → cg q.1 j % p = 0) : rkR p n (qs ++ [q]) = rkR p n qs ∧ ixR p n (qs ++ [q]) = ixR p n qs := by
  have p0 : 0 < p := by have := p6_pos hp; omega
  have h2 : ∀ s ∈ qs ++ [q], s.1.length = n := fun s hs => by
    rcases List.mem_append.mp hs with hs | hs
    · exact h s hs
    · rw [List.mem_singleton.mp hs]; exact lq
  obtain ⟨a1, a2⟩ := rk_lk (p := p) h
  obtain ⟨b1, b2⟩ := rk_lk (p := p) h2
  have e : lkR p (qs ++ [q]) = lkR p qs ++ [(q.1 ++ [q.2]).map fun x => x % p] := by unfold lkR; rw [List.map_append]; rfl
  have hq := lkR_rw (p := p) p0 h2 _ (by rw [e]; exact List.mem_append.mpr (.inr (List.mem_singleton.mpr rfl)))
  obtain ⟨c1, c2⟩ := rows_zero p0 hq.1 hq.2 (as := upN n) (ix := []) (lkR_rw p0 h) fun a ha => by
    obtain ⟨i, hi, rfl⟩ := List.mem_map.mp ha
    have hi := List.mem_range.mp hi
    rw [lk_cg lq (by omega) (by omega)]
    exact z i hi
  rw [a1, a2, b1, b2, e, c1, c2]
  exact ⟨rfl, rfl⟩
theorem rk_more1 {p : Int} {n b : Nat} {qs : List (List Int × Int)} {q : List Int × Int} (hp : p ∈ primes6) (h : ∀ q ∈ qs, q.1.length = n) (lq : q.1.length = n) (hb : b < n) (z : ∀ j : Nat, j < n → j ≠ b → cg q.1 j % p = 0) (o : cg q.1 b % p ≠ 0) (free : (b : Int) ∉ ixR p n qs) :
    rkR p n (qs ++ [q]) = rkR p n qs + 1 ∧ ∀ a, a ∈ ixR p n (qs ++ [q]) ↔ a ∈ ixR p n qs ∨ a = b := by
  have p0 : 0 < p := by have := p6_pos hp; omega
  have h2 : ∀ s ∈ qs ++ [q], s.1.length = n := fun s hs => by
    rcases List.mem_append.mp hs with hs | hs
    · exact h s hs
    · rw [List.mem_singleton.mp hs]; exact lq
  obtain ⟨a1, a2⟩ := rk_lk (p := p) h
  obtain ⟨b1, b2⟩ := rk_lk (p := p) h2
  have e : lkR p (qs ++ [q]) = lkR p qs ++ [(q.1 ++ [q.2]).map fun x => x % p] := by unfold lkR; rw [List.map_append]; rfl
  have hq := lkR_rw (p := p) p0 h2 _ (by rw [e]; exact List.mem_append.mpr (.inr (List.mem_singleton.mpr rfl)))
  rw [a2] at free
  rw [a1, a2, b1, b2, e]
  rw [upN_split hb] at free ⊢
  refine rows_unit p0 (lkR_rw p0 h) hq.1 hq.2 (fun a ha => ?_) ?_ free
  · obtain ⟨i, hi, rfl⟩ := List.mem_map.mp ha
    have hi := List.mem_range.mp hi
    rw [lk_cg lq (by omega) (by omega)]
    exact z i (by omega) (by omega)
  · rw [lk_cg lq (by omega) (by omega)]
    exact o
theorem ref_fit {m : Int} {n : Nat} {qs : List (List Int × Int)} {f : List Int} (hm : m ∈ mods) (h : Lks m n qs) (lf : f.length = n) (hf : ∀ q ∈ qs, dt f q.1 % m = q.2) : refL n qs (primesOf m) = none := by
  have mb : 2 ≤ m ∧ m ≤ 15 := modsB hm
  have hq : ∀ q ∈ qs, q.1.length = n := fun q hq => (h.ok q hq).2.1
  cases e : refL n qs (primesOf m) with
  | none => rfl
  | some s =>
    obtain ⟨p, ws⟩ := s
    obtain ⟨hp, _, _, go⟩ := ref_some hq primes_six e
    refine absurd go (sol_no lf hq fun q hq' => ?_)
    obtain ⟨_, lq, y0, y1⟩ := h.ok q hq'
    rw [cg_last lq, dt_app (by omega)]
    exact md0.mpr ((mods_dvd hm _).mp ((mod_is (by omega) y0 y1).mp (hf q hq')) p hp)
def freeR (p : Int) (n : Nat) (qs : List (List Int × Int)) : List Int := (upN n).filter fun a => !decide (a ∈ ixR p n qs)
theorem iel_sub {p : Int} : ∀ {as : List Int} {R : List (List Int)}, ∀ a ∈ iel p as R [], a ∈ as
  | [], _, _, h => by cases h
  | b :: as, R, a, h => by
    have h : a ∈ iel p as (stp p b R).2 (ist b R []) := h
    rw [iel_ix] at h
    rcases List.mem_append.mp h with h | h
    · unfold ist at h
      cases e : cutR b R with
      | none => rw [e] at h; cases h
      | some q =>
        rw [e] at h
        rw [List.mem_singleton.mp (show a ∈ [b] from h)]
        exact List.mem_cons_self
    · exact List.mem_cons_of_mem _ (iel_sub a h)
theorem iel_free {p : Int} : ∀ {as : List Int} {R : List (List Int)}, as.Nodup → (as.filter fun a => !decide (a ∈ iel p as R [])).length + (iel p as R []).length = as.length
  | [], _, _ => rfl
  | b :: as, R, nd => by
    obtain ⟨nb, nd2⟩ := List.nodup_cons.mp nd
    have ih := iel_free (p := p) (R := (stp p b R).2) nd2
    have sub := iel_sub (p := p) (as := as) (R := (stp p b R).2)
    have e0 : iel p (b :: as) R [] = ist b R [] ++ iel p as (stp p b R).2 [] := by
      show iel p as (stp p b R).2 (ist b R []) = _
      rw [iel_ix]
    have nb2 : b ∉ iel p as (stp p b R).2 [] := fun h => nb (sub b h)
    rw [e0]
    unfold ist
    cases e : cutR b R with
    | none =>
      simp only [List.nil_append]
      rw [List.filter_cons_of_pos (by simp [nb2]), List.length_cons, List.length_cons]
      omega
    | some q =>
      simp only [List.nil_append, List.singleton_append]
      rw [List.filter_cons_of_neg (by simp), List.length_cons, List.length_cons]
      have e1 : (as.filter fun a => !decide (a ∈ b :: iel p as (stp p b R).2 [])) = as.filter fun a => !decide (a ∈ iel p as (stp p b R).2 []) := by
        refine List.filter_congr fun a ha => ?_
        have : a ≠ b := fun z => nb (z ▸ ha)
        simp [this]
      rw [e1]
      omega
theorem upN_nodup {n : Nat} : (upN n).Nodup := by
  unfold upN
  exact List.Pairwise.map _ (fun a b (h : a ≠ b) => by omega) List.nodup_range
theorem free_len {p : Int} {n : Nat} {qs : List (List Int × Int)} : (freeR p n qs).length + rkR p n qs = n := by
  have := iel_free (p := p) (R := srows p qs.length 0 qs) (upN_nodup (n := n))
  rw [upN_len] at this
  have il := ix_len (p := p) (n := n) (qs := qs)
  unfold freeR
  unfold ixR at il ⊢
  omega
theorem free_nodup {p : Int} {n : Nat} {qs : List (List Int × Int)} : (freeR p n qs).Nodup := List.Pairwise.filter _ upN_nodup
theorem free_mem {p : Int} {n : Nat} {qs : List (List Int × Int)} : ∀ a ∈ freeR p n qs, (0 ≤ a ∧ a < n) ∧ a ∉ ixR p n qs := fun a h => by
  obtain ⟨h1, h2⟩ := List.mem_filter.mp h
  exact ⟨upN_mem a h1, by simpa using h2⟩
end NA

namespace NA
open PySem PySem.Spec PyProof.Rows L2 DL FL RF
local macro_rules | `(tactic| walk_at "fl") => `(tactic| simp only [ap_var, ap_c, ap_un, ap_unV, ap_op, ap_opO, ap_fn, ap_nil, ap_cons, ap_tr, ap_b, ap_tand, ap_tor, ap_tnot, ap_and, ap_or, ap_not, ap_if, ap_chain, ap_tup, ap_lst, ap_lstO, ap_dictO, ap_frz, ap_sl, ap_no, ap_part, ap_mut, ap_call, ap_callK, ap_get, ap_dict, ap_isi, ap_rep, ap_listO, ap_seq, ap_iargs, ap_lc, ap_lcO, ap_yes, ap_sq, ap_ret, ap_drop, ap_sif, ap_nx, ap_bk, ap_ct, ap_asg, ap_setR, ap_runT, ap_bb0, ap_bbs, ap_bbn, ap_bbd, ap_bbc, ap_bbb, ap_sfrz, ap_setI, ap_setK, ap_for, ap_par, ap_asgT, ap_run, ap_see, ap_seeo, ap_seer, ap_getC, ap_setC, ap_sees0, ap_sees1, ap_parN, ap_view, ap_frza0, ap_frza, ap_frzc, ap_frzb, ap_frzd, ap_frzn, ap_call1, ap_c1o, ap_sar0, ap_sar1, ap_frv, ap_fro, ap_tgN, ap_tgT, fin_val, fin_own, fin_ref, fin_nx, bors_nil, bors_d, bors_b, R.bind_ok, ofO_some, ofB_some, ofOL_list, seeV, frV, vals, setAllF, wipeF, restF, callR, refsOf, argVs, putBack, setR2, setI, setK, ap_glt, ap_gle, ap_ggt, ap_gge, ap_gsub, ap_gadd, ap_gneg, ap_gix, ap_cutl, ap_cutt, ap_gtup, ap_glist, ap_glen, ap_gint, ap_gintb, ap_gabs, ap_gmax, ap_gmin, ap_isN, ap_notN, ap_geq, ap_gne, ap_eqi, ap_eqb, ap_eqs, ap_iol, ap_iot, ap_gtn, ap_gtb, ap_gti, ap_gtl, ap_gtt, ap_isn0, ap_isni, ap_isnl, ap_isnt, ap_revl, ap_revt, ap_enum, ap_zipl, ap_zipt, intsOf_map, boolsOf_map, ap_cellL, startF, List.map_cons, List.map_nil, List.length_cons, List.length_nil, List.replicate_succ, List.replicate_zero, List.cons_append, List.nil_append, List.append_nil, List.getElem?_cons_zero, List.getElem?_cons_succ, List.getElem?_nil, List.set_cons_zero, List.set_cons_succ, List.set_nil, Option.map_some, Option.map_none, Option.bind_some, Option.bind_none, Nat.reduceSub, Nat.reduceAdd, if_true, if_false, Bool.false_eq_true, reduceIte, true_and, and_true, Nat.sub_zero, Nat.zero_add, reduceCtorEq, List.nodup_nil, List.nodup_cons, List.not_mem_nil, not_false_eq_true, and_self, Bool.not_true, Bool.not_false, Bool.not_not, decide_true, decide_false, Nat.reduceLeDiff, atI0, atI1, req_true])
def unitsK (m : Int) (n : Nat) (qs : List (List Int × Int)) (ps : List Int) (k : Nat) : List (Int × Int) := (ps.filter fun p => decide (k < (freeR p n qs).length)).map fun p => (cg (freeR p n qs) k, oneI p m)
def cellK (m : Int) (n : Nat) (qs : List (List Int × Int)) (ps : List Int) (k : Nat) : List Int := (upN n).map fun pl => (((unitsK m n qs ps k).filter fun u => decide (u.1 = pl)).map (·.2)).sum % m
def most (n : Nat) (qs : List (List Int × Int)) (ps : List Int) : Nat := (ps.map fun p => (freeR p n qs).length).foldr max 0
theorem cellK_ok {m : Int} {n k : Nat} {qs : List (List Int × Int)} {ps : List Int} (m0 : 0 < m) : Pn m (cellK m n qs ps k) ∧ (cellK m n qs ps k).length = n := by
  refine ⟨fun x hx => ?_, by unfold cellK; rw [List.length_map, upN_len]⟩
  unfold cellK at hx
  obtain ⟨v, _, rfl⟩ := List.mem_map.mp hx
  exact ⟨Int.emod_nonneg _ (by omega), Int.emod_lt_of_pos _ m0⟩
theorem most_le {n : Nat} {qs : List (List Int × Int)} : ∀ {ps : List Int}, most n qs ps ≤ n
  | [] => Nat.zero_le _
  | p :: ps => by
    have ih := most_le (n := n) (qs := qs) (ps := ps)
    have := free_len (p := p) (n := n) (qs := qs)
    show max (freeR p n qs).length (most n qs ps) ≤ n
    omega
theorem most_ge {n : Nat} {qs : List (List Int × Int)} : ∀ {ps : List Int}, ∀ p ∈ ps, (freeR p n qs).length ≤ most n qs ps
  | [], _, h => by cases h
  | q :: ps, p, h => by
    show _ ≤ max (freeR q n qs).length (most n qs ps)
    rcases List.mem_cons.mp h with rfl | h
    · omega
    · have := most_ge (n := n) (qs := qs) p h
      omega
theorem most_at {n : Nat} {qs : List (List Int × Int)} : ∀ {ps : List Int}, ps ≠ [] → ∃ p ∈ ps, most n qs ps = (freeR p n qs).length
  | [], h => (h rfl).elim
  | q :: ps, _ => by
    by_cases e : ps = []
    · subst e
      refine ⟨q, List.mem_cons_self, ?_⟩
      show max (freeR q n qs).length 0 = _
      omega
    · obtain ⟨p, hp, h⟩ := most_at (n := n) (qs := qs) e
      rcases Nat.le_total (freeR q n qs).length (most n qs ps) with hle | hle
      · refine ⟨p, List.mem_cons_of_mem _ hp, ?_⟩
        show max (freeR q n qs).length (most n qs ps) = _
        omega
      · refine ⟨q, List.mem_cons_self, ?_⟩
        show max (freeR q n qs).length (most n qs ps) = _
        omega
end NA

namespace NA
open PySem PySem.Spec PyProof.Rows L2 DL FL RF
local macro_rules | `(tactic| walk_at "fl") => `(tactic| simp only [ap_var, ap_c, ap_un, ap_unV, ap_op, ap_opO, ap_fn, ap_nil, ap_cons, ap_tr, ap_b, ap_tand, ap_tor, ap_tnot, ap_and, ap_or, ap_not, ap_if, ap_chain, ap_tup, ap_lst, ap_lstO, ap_dictO, ap_frz, ap_sl, ap_no, ap_part, ap_mut, ap_call, ap_callK, ap_get, ap_dict, ap_isi, ap_rep, ap_listO, ap_seq, ap_iargs, ap_lc, ap_lcO, ap_yes, ap_sq, ap_ret, ap_drop, ap_sif, ap_nx, ap_bk, ap_ct, ap_asg, ap_setR, ap_runT, ap_bb0, ap_bbs, ap_bbn, ap_bbd, ap_bbc, ap_bbb, ap_sfrz, ap_setI, ap_setK, ap_for, ap_par, ap_asgT, ap_run, ap_see, ap_seeo, ap_seer, ap_getC, ap_setC, ap_sees0, ap_sees1, ap_parN, ap_view, ap_frza0, ap_frza, ap_frzc, ap_frzb, ap_frzd, ap_frzn, ap_call1, ap_c1o, ap_sar0, ap_sar1, ap_frv, ap_fro, ap_tgN, ap_tgT, fin_val, fin_own, fin_ref, fin_nx, bors_nil, bors_d, bors_b, R.bind_ok, ofO_some, ofB_some, ofOL_list, seeV, frV, vals, setAllF, wipeF, restF, callR, refsOf, argVs, putBack, setR2, setI, setK, ap_glt, ap_gle, ap_ggt, ap_gge, ap_gsub, ap_gadd, ap_gneg, ap_gix, ap_cutl, ap_cutt, ap_gtup, ap_glist, ap_glen, ap_gint, ap_gintb, ap_gabs, ap_gmax, ap_gmin, ap_isN, ap_notN, ap_geq, ap_gne, ap_eqi, ap_eqb, ap_eqs, ap_iol, ap_iot, ap_gtn, ap_gtb, ap_gti, ap_gtl, ap_gtt, ap_isn0, ap_isni, ap_isnl, ap_isnt, ap_revl, ap_revt, ap_enum, ap_zipl, ap_zipt, intsOf_map, boolsOf_map, ap_cellL, startF, List.map_cons, List.map_nil, List.length_cons, List.length_nil, List.replicate_succ, List.replicate_zero, List.cons_append, List.nil_append, List.append_nil, List.getElem?_cons_zero, List.getElem?_cons_succ, List.getElem?_nil, List.set_cons_zero, List.set_cons_succ, List.set_nil, Option.map_some, Option.map_none, Option.bind_some, Option.bind_none, Nat.reduceSub, Nat.reduceAdd, if_true, if_false, Bool.false_eq_true, reduceIte, true_and, and_true, Nat.sub_zero, Nat.zero_add, reduceCtorEq, List.nodup_nil, List.nodup_cons, List.not_mem_nil, not_false_eq_true, and_self, Bool.not_true, Bool.not_false, Bool.not_not, decide_true, decide_false, Nat.reduceLeDiff, atI0, atI1, req_true])
end NA

namespace NA
open PySem PySem.Spec PyProof.Rows L2 DL FL RF
local macro_rules | `(tactic| walk_at "fl") => `(tactic| simp only [ap_var, ap_c, ap_un, ap_unV, ap_op, ap_opO, ap_fn, ap_nil, ap_cons, ap_tr, ap_b, ap_tand, ap_tor, ap_tnot, ap_and, ap_or, ap_not, ap_if, ap_chain, ap_tup, ap_lst, ap_lstO, ap_dictO, ap_frz, ap_sl, ap_no, ap_part, ap_mut, ap_call, ap_callK, ap_get, ap_dict, ap_isi, ap_rep, ap_listO, ap_seq, ap_iargs, ap_lc, ap_lcO, ap_yes, ap_sq, ap_ret, ap_drop, ap_sif, ap_nx, ap_bk, ap_ct, ap_asg, ap_setR, ap_runT, ap_bb0, ap_bbs, ap_bbn, ap_bbd, ap_bbc, ap_bbb, ap_sfrz, ap_setI, ap_setK, ap_for, ap_par, ap_asgT, ap_run, ap_see, ap_seeo, ap_seer, ap_getC, ap_setC, ap_sees0, ap_sees1, ap_parN, ap_view, ap_frza0, ap_frza, ap_frzc, ap_frzb, ap_frzd, ap_frzn, ap_call1, ap_c1o, ap_sar0, ap_sar1, ap_frv, ap_fro, ap_tgN, ap_tgT, fin_val, fin_own, fin_ref, fin_nx, bors_nil, bors_d, bors_b, R.bind_ok, ofO_some, ofB_some, ofOL_list, seeV, frV, vals, setAllF, wipeF, restF, callR, refsOf, argVs, putBack, setR2, setI, setK, ap_glt, ap_gle, ap_ggt, ap_gge, ap_gsub, ap_gadd, ap_gneg, ap_gix, ap_cutl, ap_cutt, ap_gtup, ap_glist, ap_glen, ap_gint, ap_gintb, ap_gabs, ap_gmax, ap_gmin, ap_isN, ap_notN, ap_geq, ap_gne, ap_eqi, ap_eqb, ap_eqs, ap_iol, ap_iot, ap_gtn, ap_gtb, ap_gti, ap_gtl, ap_gtt, ap_isn0, ap_isni, ap_isnl, ap_isnt, ap_revl, ap_revt, ap_enum, ap_zipl, ap_zipt, intsOf_map, boolsOf_map, ap_cellL, startF, List.map_cons, List.map_nil, List.length_cons, List.length_nil, List.replicate_succ, List.replicate_zero, List.cons_append, List.nil_append, List.append_nil, List.getElem?_cons_zero, List.getElem?_cons_succ, List.getElem?_nil, List.set_cons_zero, List.set_cons_succ, List.set_nil, Option.map_some, Option.map_none, Option.bind_some, Option.bind_none, Nat.reduceSub, Nat.reduceAdd, if_true, if_false, Bool.false_eq_true, reduceIte, true_and, and_true, Nat.sub_zero, Nat.zero_add, reduceCtorEq, List.nodup_nil, List.nodup_cons, List.not_mem_nil, not_false_eq_true, and_self, Bool.not_true, Bool.not_false, Bool.not_not, decide_true, decide_false, Nat.reduceLeDiff, atI0, atI1, req_true])
end NA

namespace NA
open PySem PySem.Spec PyProof.Rows L2 DL FL RF
local macro_rules | `(tactic| walk_at "fl") => `(tactic| simp only [ap_var, ap_c, ap_un, ap_unV, ap_op, ap_opO, ap_fn, ap_nil, ap_cons, ap_tr, ap_b, ap_tand, ap_tor, ap_tnot, ap_and, ap_or, ap_not, ap_if, ap_chain, ap_tup, ap_lst, ap_lstO, ap_dictO, ap_frz, ap_sl, ap_no, ap_part, ap_mut, ap_call, ap_callK, ap_get, ap_dict, ap_isi, ap_rep, ap_listO, ap_seq, ap_iargs, ap_lc, ap_lcO, ap_yes, ap_sq, ap_ret, ap_drop, ap_sif, ap_nx, ap_bk, ap_ct, ap_asg, ap_setR, ap_runT, ap_bb0, ap_bbs, ap_bbn, ap_bbd, ap_bbc, ap_bbb, ap_sfrz, ap_setI, ap_setK, ap_for, ap_par, ap_asgT, ap_run, ap_see, ap_seeo, ap_seer, ap_getC, ap_setC, ap_sees0, ap_sees1, ap_parN, ap_view, ap_frza0, ap_frza, ap_frzc, ap_frzb, ap_frzd, ap_frzn, ap_call1, ap_c1o, ap_sar0, ap_sar1, ap_frv, ap_fro, ap_tgN, ap_tgT, fin_val, fin_own, fin_ref, fin_nx, bors_nil, bors_d, bors_b, R.bind_ok, ofO_some, ofB_some, ofOL_list, seeV, frV, vals, setAllF, wipeF, restF, callR, refsOf, argVs, putBack, setR2, setI, setK, ap_glt, ap_gle, ap_ggt, ap_gge, ap_gsub, ap_gadd, ap_gneg, ap_gix, ap_cutl, ap_cutt, ap_gtup, ap_glist, ap_glen, ap_gint, ap_gintb, ap_gabs, ap_gmax, ap_gmin, ap_isN, ap_notN, ap_geq, ap_gne, ap_eqi, ap_eqb, ap_eqs, ap_iol, ap_iot, ap_gtn, ap_gtb, ap_gti, ap_gtl, ap_gtt, ap_isn0, ap_isni, ap_isnl, ap_isnt, ap_revl, ap_revt, ap_enum, ap_zipl, ap_zipt, intsOf_map, boolsOf_map, ap_cellL, startF, List.map_cons, List.map_nil, List.length_cons, List.length_nil, List.replicate_succ, List.replicate_zero, List.cons_append, List.nil_append, List.append_nil, List.getElem?_cons_zero, List.getElem?_cons_succ, List.getElem?_nil, List.set_cons_zero, List.set_cons_succ, List.set_nil, Option.map_some, Option.map_none, Option.bind_some, Option.bind_none, Nat.reduceSub, Nat.reduceAdd, if_true, if_false, Bool.false_eq_true, reduceIte, true_and, and_true, Nat.sub_zero, Nat.zero_add, reduceCtorEq, List.nodup_nil, List.nodup_cons, List.not_mem_nil, not_false_eq_true, and_self, Bool.not_true, Bool.not_false, Bool.not_not, decide_true, decide_false, Nat.reduceLeDiff, atI0, atI1, req_true])
theorem nodup_primes {m : Int} : (primesOf m).Nodup := List.Pairwise.filter _ (by decide : ([2, 3, 5, 7, 11, 13] : List Int).Nodup)
def su (m : Int) (n : Nat) (qs : List (List Int × Int)) (k : Nat) (pl : Int) (ps : List Int) : Int := (((unitsK m n qs ps k).filter fun u => decide (u.1 = pl)).map (·.2)).sum
theorem su_cons {m : Int} {n k : Nat} {qs : List (List Int × Int)} {pl q : Int} {ps : List Int} : su m n qs k pl (q :: ps) = (if k < (freeR q n qs).length ∧ cg (freeR q n qs) k = pl then oneI q m else 0) + su m n qs k pl ps := by
  unfold su unitsK
  by_cases h : k < (freeR q n qs).length
  · by_cases e : cg (freeR q n qs) k = pl
    · simp [List.filter_cons, h, e]
    · simp [List.filter_cons, h, e]
  · simp [List.filter_cons, h]
theorem one_md {m p : Int} (hm : m ∈ mods) (hp : p ∈ primesOf m) : Md p (oneI p m) 1 := by
  obtain ⟨_, _, _, _, _, _, _, _, h, _⟩ := one_tab m hm p hp
  have := Md.rest (m := p) (a := oneI p m)
  rw [h] at this
  exact this.symm
theorem one_nil {m p q : Int} (hm : m ∈ mods) (hp : p ∈ primesOf m) (hq : q ∈ primesOf m) (ne : q ≠ p) : Md q (oneI p m) 0 := by
  obtain ⟨_, _, _, _, _, _, _, _, _, h⟩ := one_tab m hm p hp
  exact md0.mpr (h q hq ne)
theorem su_md {m p : Int} {n k : Nat} {qs : List (List Int × Int)} {pl : Int} (hm : m ∈ mods) (hp : p ∈ primesOf m) : ∀ {ps : List Int}, (∀ q ∈ ps, q ∈ primesOf m) → ps.Nodup → Md p (su m n qs k pl ps) (if p ∈ ps ∧ k < (freeR p n qs).length ∧ cg (freeR p n qs) k = pl then 1 else 0)
  | [], _, _ => by
    rw [if_neg fun h => by cases h.1]
    exact Md.refl
  | q :: ps, hq, nd => by
    obtain ⟨nq, nd2⟩ := List.nodup_cons.mp nd
    have ih := su_md (n := n) (k := k) (qs := qs) (pl := pl) hm hp (ps := ps) (fun r hr => hq r (List.mem_cons_of_mem _ hr)) nd2
    rw [su_cons]
    by_cases e : q = p
    · subst e
      rw [if_neg fun h => nq h.1] at ih
      by_cases c : k < (freeR q n qs).length ∧ cg (freeR q n qs) k = pl
      · rw [if_pos c, if_pos ⟨List.mem_cons_self, c⟩]
        exact (one_md hm hp).add ih
      · rw [if_neg c, if_neg fun h => c h.2]
        exact Md.refl.add ih
    · have z : Md p (if k < (freeR q n qs).length ∧ cg (freeR q n qs) k = pl then oneI q m else 0) 0 := by
        split
        · exact one_nil hm (hq q List.mem_cons_self) hp (fun z => e z.symm)
        · exact Md.refl
      have := z.add ih
      rw [Int.zero_add] at this
      refine this.trans (Md.of ?_)
      by_cases c : p ∈ ps ∧ k < (freeR p n qs).length ∧ cg (freeR p n qs) k = pl
      · rw [if_pos c, if_pos ⟨List.mem_cons_of_mem _ c.1, c.2⟩]
      · rw [if_neg c, if_neg fun h => c ⟨by
          rcases List.mem_cons.mp h.1 with h1 | h1
          · exact (e h1.symm).elim
          · exact h1, h.2⟩]
theorem cell_cg {m : Int} {n k j : Nat} {qs : List (List Int × Int)} {ps : List Int} (hj : j < n) : cg (cellK m n qs ps k) (j : Int) = su m n qs k (j : Int) ps % m := by
  unfold cellK cg upN
  rw [Int.toNat_natCast, List.getElem?_map, List.getElem?_map, List.getElem?_range hj]
  rfl
theorem cell_md {m p : Int} {n k j : Nat} {qs : List (List Int × Int)} (hm : m ∈ mods) (hp : p ∈ primesOf m) (hj : j < n) : Md p (cg (cellK m n qs (primesOf m) k) (j : Int)) (if k < (freeR p n qs).length ∧ cg (freeR p n qs) k = (j : Int) then 1 else 0) := by
  obtain ⟨_, _, hd, _⟩ := one_tab m hm p hp
  have h1 : Md m (cg (cellK m n qs (primesOf m) k) (j : Int)) (su m n qs k (j : Int) (primesOf m)) := by
    rw [cell_cg hj]
    exact Md.rest
  have h2 : Md p (cg (cellK m n qs (primesOf m) k) (j : Int)) (su m n qs k (j : Int) (primesOf m)) := Int.dvd_trans (Int.dvd_of_emod_eq_zero hd) h1
  have h3 := h2.trans (su_md (n := n) (k := k) (qs := qs) (pl := (j : Int)) hm hp (fun q hq => hq) nodup_primes)
  have e : (p ∈ primesOf m ∧ k < (freeR p n qs).length ∧ cg (freeR p n qs) k = (j : Int)) = (k < (freeR p n qs).length ∧ cg (freeR p n qs) k = (j : Int)) := by
    apply propext
    exact ⟨fun h => h.2, fun h => ⟨hp, h⟩⟩
  simp only [e] at h3
  exact h3
theorem cg_inj {F : List Int} (nd : F.Nodup) {i j : Nat} (hi : i < F.length) (hj : j < F.length) (e : cg F i = cg F j) : i = j := by
  unfold cg at e
  rw [Int.toNat_natCast, Int.toNat_natCast, List.getElem?_eq_getElem hi, List.getElem?_eq_getElem hj] at e
  exact (List.getElem_inj nd).mp e
def kn (m : Int) (n : Nat) (hid : List Int) (qs : List (List Int × Int)) : Nat → List (List Int × Int)
  | 0 => qs
  | j + 1 => kn m n hid qs j ++ [(cellK m n qs (primesOf m) j, dt hid (cellK m n qs (primesOf m) j) % m)]
theorem kn_len {m : Int} {n : Nat} {hid : List Int} {qs : List (List Int × Int)} : ∀ {j : Nat}, (kn m n hid qs j).length = qs.length + j
  | 0 => rfl
  | j + 1 => by
    show (kn m n hid qs j ++ _).length = _
    rw [List.length_append, kn_len, List.length_singleton]
    omega
theorem kn_ok {m : Int} {n : Nat} {hid : List Int} {qs : List (List Int × Int)} (m0 : 0 < m) (h : ∀ q ∈ qs, Pn m q.1 ∧ q.1.length = n ∧ 0 ≤ q.2 ∧ q.2 < m) (hf : ∀ q ∈ qs, dt hid q.1 % m = q.2) : ∀ {j : Nat}, (∀ q ∈ kn m n hid qs j, Pn m q.1 ∧ q.1.length = n ∧ 0 ≤ q.2 ∧ q.2 < m) ∧ ∀ q ∈ kn m n hid qs j, dt hid q.1 % m = q.2
  | 0 => ⟨h, hf⟩
  | j + 1 => by
    obtain ⟨h1, h2⟩ := kn_ok m0 h hf (j := j)
    have co := cellK_ok (m := m) (n := n) (k := j) (qs := qs) (ps := primesOf m) m0
    refine ⟨fun q hq => ?_, fun q hq => ?_⟩
    · rcases List.mem_append.mp (show q ∈ kn m n hid qs j ++ _ from hq) with hq | hq
      · exact h1 q hq
      · rw [List.mem_singleton.mp hq]
        exact ⟨co.1, co.2, Int.emod_nonneg _ (by omega), Int.emod_lt_of_pos _ m0⟩
    · rcases List.mem_append.mp (show q ∈ kn m n hid qs j ++ _ from hq) with hq | hq
      · exact h2 q hq
      · rw [List.mem_singleton.mp hq]
theorem kn_rk {m p : Int} {n : Nat} {hid : List Int} {qs : List (List Int × Int)} (hm : m ∈ mods) (hp : p ∈ primesOf m) (h : ∀ q ∈ qs, Pn m q.1 ∧ q.1.length = n ∧ 0 ≤ q.2 ∧ q.2 < m) (hf : ∀ q ∈ qs, dt hid q.1 % m = q.2) : ∀ {j : Nat}, rkR p n (kn m n hid qs j) = rkR p n qs + min j (freeR p n qs).length ∧ ∀ a, a ∈ ixR p n (kn m n hid qs j) ↔ a ∈ ixR p n qs ∨ ∃ i : Nat, i < j ∧ i < (freeR p n qs).length ∧ a = cg (freeR p n qs) i
  | 0 => by
    refine ⟨by rw [Nat.zero_min]; rfl, fun a => ⟨.inl, ?_⟩⟩
    rintro (h | ⟨i, hi, _⟩)
    · exact h
    · omega
  | j + 1 => by
    have mb := modsB hm
    have p6 := primes_six p hp
    have p2 := p6_pos p6
    obtain ⟨r1, r2⟩ := kn_rk (hid := hid) hm hp h hf (j := j)
    obtain ⟨k1, _⟩ := kn_ok (n := n) (by omega) h hf (j := j)
    have kq : ∀ q ∈ kn m n hid qs j, q.1.length = n := fun q hq => (k1 q hq).2.1
    have co := cellK_ok (m := m) (n := n) (k := j) (qs := qs) (ps := primesOf m) (by omega)
    by_cases c : j < (freeR p n qs).length
    · have hb := cg_mem (a := freeR p n qs) (i := (j : Int)) (by omega) (by omega)
      obtain ⟨⟨b0, b1⟩, nb⟩ := free_mem _ hb
      obtain ⟨b, eb⟩ := Int.eq_ofNat_of_zero_le b0
      have hbn : b < n := by omega
      obtain ⟨s1, s2⟩ := rk_more1 (p := p) (n := n) (b := b) (qs := kn m n hid qs j) (q := (cellK m n qs (primesOf m) j, dt hid (cellK m n qs (primesOf m) j) % m)) p6 kq co.2 hbn (fun i hi ne => by
        have := cell_md (k := j) (qs := qs) hm hp hi
        rw [if_neg fun z => ne (by have := z.2; omega)] at this
        exact md0.mp this) (by
        have := cell_md (k := j) (qs := qs) hm hp hbn
        rw [if_pos ⟨c, eb⟩] at this
        intro z
        have h2 := md0.mp (this.symm.trans (md0.mpr z))
        rw [Int.emod_eq_of_lt (by omega) (by omega)] at h2
        omega) (fun z => by
        rcases (r2 _).mp z with z | ⟨i, hi, hl, e⟩
        · rw [← eb] at z
          exact nb z
        · have := cg_inj free_nodup hl c (e.symm.trans eb.symm)
          omega)
      refine ⟨s1.trans (by rw [r1]; omega), fun a => (s2 a).trans ?_⟩
      rw [r2]
      constructor
      · rintro ((z | ⟨i, hi, hl, e⟩) | z)
        · exact .inl z
        · exact .inr ⟨i, by omega, hl, e⟩
        · exact .inr ⟨j, by omega, c, z.trans eb.symm⟩
      · rintro (z | ⟨i, hi, hl, e⟩)
        · exact .inl (.inl z)
        · by_cases ij : i = j
          · subst ij
            exact .inr (e.trans eb)
          · exact .inl (.inr ⟨i, by omega, hl, e⟩)
    · obtain ⟨s1, s2⟩ := rk_more0 (p := p) (n := n) (qs := kn m n hid qs j) (q := (cellK m n qs (primesOf m) j, dt hid (cellK m n qs (primesOf m) j) % m)) p6 kq co.2 (fun i hi => by
        have := cell_md (k := j) (qs := qs) hm hp hi
        rw [if_neg fun z => c z.1] at this
        exact md0.mp this)
      refine ⟨s1.trans (by rw [r1]; omega), fun a => ?_⟩
      show a ∈ ixR p n (kn m n hid qs j ++ _) ↔ _
      rw [s2, r2]
      constructor
      · rintro (z | ⟨i, hi, hl, e⟩)
        · exact .inl z
        · exact .inr ⟨i, by omega, hl, e⟩
      · rintro (z | ⟨i, hi, hl, e⟩)
        · exact .inl z
        · exact .inr ⟨i, by omega, hl, e⟩
theorem prod_less {n : Nat} {K K' : List (List Int × Int)} : ∀ {ps : List Int}, (∀ p ∈ ps, p ∈ primes6) → (∀ p ∈ ps, rkR p n K' = rkR p n K ∨ rkR p n K' = rkR p n K + 1) → ∃ D, 1 ≤ D ∧ prodR n K ps = D * prodR n K' ps ∧ ((∃ p ∈ ps, rkR p n K' = rkR p n K + 1) → 2 ≤ D)
  | [], _, _ => ⟨1, Nat.le_refl _, rfl, fun ⟨_, h, _⟩ => by cases h⟩
  | p :: ps, hp, h => by
    obtain ⟨D, d1, e, d2⟩ := prod_less (n := n) (K := K) (K' := K') (ps := ps) (fun q hq => hp q (List.mem_cons_of_mem _ hq)) (fun q hq => h q (List.mem_cons_of_mem _ hq))
    have p2 := p6_pos (hp p List.mem_cons_self)
    have rl := rk_le (p := p) (n := n) (qs := K')
    by_cases c : rkR p n K' = rkR p n K + 1
    · refine ⟨p.toNat * D, Nat.mul_pos (by omega) d1, ?_, fun _ => ?_⟩
      · show p.toNat ^ (n - rkR p n K) * prodR n K ps = p.toNat * D * (p.toNat ^ (n - rkR p n K') * prodR n K' ps)
        rw [e, show n - rkR p n K = (n - rkR p n K') + 1 by omega, Nat.pow_succ]
        simp only [Nat.mul_assoc, Nat.mul_left_comm, Nat.mul_comm]
      · have : 2 * 1 ≤ p.toNat * D := Nat.mul_le_mul (by omega) d1
        omega
    · have c2 : rkR p n K' = rkR p n K := by
        rcases h p List.mem_cons_self with z | z
        · exact z
        · exact (c z).elim
      refine ⟨D, d1, ?_, fun ⟨q, hq, z⟩ => ?_⟩
      · show p.toNat ^ (n - rkR p n K) * prodR n K ps = D * (p.toNat ^ (n - rkR p n K') * prodR n K' ps)
        rw [e, c2]
        simp only [Nat.mul_assoc, Nat.mul_left_comm, Nat.mul_comm]
      · rcases List.mem_cons.mp hq with rfl | hq
        · exact (c z).elim
        · exact d2 ⟨q, hq, z⟩
theorem prod_pos' {n : Nat} {K : List (List Int × Int)} : ∀ {ps : List Int}, (∀ p ∈ ps, p ∈ primes6) → 0 < prodR n K ps
  | [], _ => Nat.one_pos
  | p :: ps, hp => by
    have p2 := p6_pos (hp p List.mem_cons_self)
    exact Nat.mul_pos (Nat.pow_pos (by omega)) (prod_pos' fun q hq => hp q (List.mem_cons_of_mem _ hq))
theorem prod_one {n : Nat} {K : List (List Int × Int)} : ∀ {ps : List Int}, (∀ p ∈ ps, rkR p n K = n) → prodR n K ps = 1
  | [], _ => rfl
  | p :: ps, h => by
    show p.toNat ^ (n - rkR p n K) * prodR n K ps = 1
    rw [h p List.mem_cons_self, Nat.sub_self, prod_one fun q hq => h q (List.mem_cons_of_mem _ hq)]
    rfl
theorem allT_in {m : Int} (m0 : 0 < m) : ∀ {n : Nat} {f : List Int}, f.length = n → Pn m f → f ∈ allT m.toNat n
  | 0, f, l, _ => by
    rw [List.length_eq_zero_iff.mp l]
    exact List.mem_singleton.mpr rfl
  | n + 1, f, l, p => by
    have ne : f ≠ [] := by
      intro z
      rw [z] at l
      cases l
    have e := List.dropLast_concat_getLast ne
    have ih := allT_in m0 (n := n) (f := f.dropLast) (by rw [List.length_dropLast]; omega) fun x hx => p x ((List.dropLast_sublist f).subset hx)
    have pv := p _ (List.getLast_mem ne)
    refine List.mem_flatMap.mpr ⟨f.dropLast, ih, List.mem_map.mpr ⟨f.getLast ne, ?_, e⟩⟩
    unfold upN
    exact List.mem_map.mpr ⟨(f.getLast ne).toNat, List.mem_range.mpr (by omega), by omega⟩

theorem rk_cells {p : Int} {n : Nat} {qs : List (List Int × Int)} (h : ∀ q ∈ qs, q.1.length = n) : rkR p n qs = (elim p (upN n) (qs.map fun q => q.1.map fun x => x % p)).1 := by
  have e : (qs.map fun q => q.1.map fun x => x % p) = (lkR p qs).map (List.take n) := by
    unfold lkR
    rw [List.map_map]
    refine List.map_congr_left fun q hq => ?_
    show q.1.map (fun x => x % p) = List.take n ((q.1 ++ [q.2]).map fun x => x % p)
    rw [List.map_append, List.take_append_of_le_length (by rw [List.length_map, h q hq]; exact Nat.le_refl _), List.take_of_length_le (by rw [List.length_map, h q hq]; exact Nat.le_refl _)]
  rw [e, elim_take upN_mem]
  exact (rk_lk h).1
end NA

namespace NA
open PySem PySem.Spec PyProof.Rows L2 DL FL RF
local macro_rules | `(tactic| walk_at "fl") => `(tactic| simp only [ap_var, ap_c, ap_un, ap_unV, ap_op, ap_opO, ap_fn, ap_nil, ap_cons, ap_tr, ap_b, ap_tand, ap_tor, ap_tnot, ap_and, ap_or, ap_not, ap_if, ap_chain, ap_tup, ap_lst, ap_lstO, ap_dictO, ap_frz, ap_sl, ap_no, ap_part, ap_mut, ap_call, ap_callK, ap_get, ap_dict, ap_isi, ap_rep, ap_listO, ap_seq, ap_iargs, ap_lc, ap_lcO, ap_yes, ap_sq, ap_ret, ap_drop, ap_sif, ap_nx, ap_bk, ap_ct, ap_asg, ap_setR, ap_runT, ap_bb0, ap_bbs, ap_bbn, ap_bbd, ap_bbc, ap_bbb, ap_sfrz, ap_setI, ap_setK, ap_for, ap_par, ap_asgT, ap_run, ap_see, ap_seeo, ap_seer, ap_getC, ap_setC, ap_sees0, ap_sees1, ap_parN, ap_view, ap_frza0, ap_frza, ap_frzc, ap_frzb, ap_frzd, ap_frzn, ap_call1, ap_c1o, ap_sar0, ap_sar1, ap_frv, ap_fro, ap_tgN, ap_tgT, fin_val, fin_own, fin_ref, fin_nx, bors_nil, bors_d, bors_b, R.bind_ok, ofO_some, ofB_some, ofOL_list, seeV, frV, vals, setAllF, wipeF, restF, callR, refsOf, argVs, putBack, setR2, setI, setK, ap_glt, ap_gle, ap_ggt, ap_gge, ap_gsub, ap_gadd, ap_gneg, ap_gix, ap_cutl, ap_cutt, ap_gtup, ap_glist, ap_glen, ap_gint, ap_gintb, ap_gabs, ap_gmax, ap_gmin, ap_isN, ap_notN, ap_geq, ap_gne, ap_eqi, ap_eqb, ap_eqs, ap_iol, ap_iot, ap_gtn, ap_gtb, ap_gti, ap_gtl, ap_gtt, ap_isn0, ap_isni, ap_isnl, ap_isnt, ap_revl, ap_revt, ap_enum, ap_zipl, ap_zipt, intsOf_map, boolsOf_map, ap_cellL, startF, List.map_cons, List.map_nil, List.length_cons, List.length_nil, List.replicate_succ, List.replicate_zero, List.cons_append, List.nil_append, List.append_nil, List.getElem?_cons_zero, List.getElem?_cons_succ, List.getElem?_nil, List.set_cons_zero, List.set_cons_succ, List.set_nil, Option.map_some, Option.map_none, Option.bind_some, Option.bind_none, Nat.reduceSub, Nat.reduceAdd, if_true, if_false, Bool.false_eq_true, reduceIte, true_and, and_true, Nat.sub_zero, Nat.zero_add, reduceCtorEq, List.nodup_nil, List.nodup_cons, List.not_mem_nil, not_false_eq_true, and_self, Bool.not_true, Bool.not_false, Bool.not_not, decide_true, decide_false, Nat.reduceLeDiff, atI0, atI1, req_true])
structure Kn (m : Int) (g : Nat) (hid : List Int) (qs : List (List Int × Int)) : Prop where
  hm : m ∈ mods
  hg : g ≤ 3
  hq : Lks m (2 * g + 1) qs
  hl : qs.length ≤ 50
  ph : Pn m hid
  lh : hid.length = 2 * g + 1
  hf : ∀ q ∈ qs, dt hid q.1 % m = q.2
abbrev pS (m : Int) (g : Nat) (hid : List Int) (qs : List (List Int × Int)) (j : Nat) : Nat := prodR (2 * g + 1) (kn m (2 * g + 1) hid qs j) (primesOf m)
theorem Kn.lk {m : Int} {g : Nat} {hid : List Int} {qs : List (List Int × Int)} (k : Kn m g hid qs) {j : Nat} (hj : j ≤ 10) : Lks m (2 * g + 1) (kn m (2 * g + 1) hid qs j) := by
  have mb := modsB k.hm
  have := k.hl
  exact ⟨(kn_ok (by omega) k.hq.ok k.hf).1, by rw [kn_len]; omega⟩
theorem Kn.fit {m : Int} {g : Nat} {hid : List Int} {qs : List (List Int × Int)} (k : Kn m g hid qs) {j : Nat} : ∀ q ∈ kn m (2 * g + 1) hid qs j, dt hid q.1 % m = q.2 := by
  have mb := modsB k.hm
  exact (kn_ok (by omega) k.hq.ok k.hf).2
theorem Kn.ref {m : Int} {g : Nat} {hid : List Int} {qs : List (List Int × Int)} (k : Kn m g hid qs) {j : Nat} (hj : j ≤ 10) : refL (2 * g + 1) (kn m (2 * g + 1) hid qs j) (primesOf m) = none := ref_fit k.hm (k.lk hj) k.lh k.fit
theorem Kn.cnt {m : Int} {g : Nat} {hid : List Int} {qs : List (List Int × Int)} (k : Kn m g hid qs) {j : Nat} (hj : j ≤ 10) : cntR m (2 * g + 1) (kn m (2 * g + 1) hid qs j) = pS m g hid qs j := by
  unfold cntR
  rw [if_pos (k.ref hj)]
theorem Kn.step {m : Int} {g : Nat} {hid : List Int} {qs : List (List Int × Int)} (k : Kn m g hid qs) {j : Nat} (hj : j < most (2 * g + 1) qs (primesOf m)) : 0 < pS m g hid qs (j + 1) ∧ pS m g hid qs (j + 1) < pS m g hid qs j ∧ pS m g hid qs j % pS m g hid qs (j + 1) = 0 := by
  have r : ∀ p ∈ primesOf m, ∀ j, rkR p (2 * g + 1) (kn m (2 * g + 1) hid qs j) = rkR p (2 * g + 1) qs + min j (freeR p (2 * g + 1) qs).length := fun p hp j => (kn_rk k.hm hp k.hq.ok k.hf).1
  obtain ⟨D, d1, e, d2⟩ := prod_less (n := 2 * g + 1) (K := kn m (2 * g + 1) hid qs j) (K' := kn m (2 * g + 1) hid qs (j + 1)) (ps := primesOf m) primes_six fun p hp => by
    rw [r p hp, r p hp]
    omega
  obtain ⟨p, hp, ep⟩ := most_at (n := 2 * g + 1) (qs := qs) (primes_ne k.hm)
  have d2 := d2 ⟨p, hp, by rw [r p hp, r p hp]; omega⟩
  have pos : 0 < pS m g hid qs (j + 1) := prod_pos' primes_six
  have e : pS m g hid qs j = D * pS m g hid qs (j + 1) := e
  refine ⟨pos, ?_, by rw [e]; exact Nat.mul_mod_left _ _⟩
  rw [e]
  have : 2 * pS m g hid qs (j + 1) ≤ D * pS m g hid qs (j + 1) := Nat.mul_le_mul_right _ d2
  omega
theorem Kn.full {m : Int} {g : Nat} {hid : List Int} {qs : List (List Int × Int)} (k : Kn m g hid qs) : ∀ p ∈ primesOf m, rkR p (2 * g + 1) (kn m (2 * g + 1) hid qs (most (2 * g + 1) qs (primesOf m))) = 2 * g + 1 := fun p hp => by
  rw [(kn_rk k.hm hp k.hq.ok k.hf).1]
  have := most_ge (n := 2 * g + 1) (qs := qs) p hp
  have := free_len (p := p) (n := 2 * g + 1) (qs := qs)
  omega

theorem Kn.one {m : Int} {g : Nat} {hid : List Int} {qs : List (List Int × Int)} (k : Kn m g hid qs) : cntR m (2 * g + 1) (kn m (2 * g + 1) hid qs (most (2 * g + 1) qs (primesOf m))) = 1 := by
  have g3 := k.hg
  have ml := most_le (n := 2 * g + 1) (qs := qs) (ps := primesOf m)
  exact (k.cnt (by omega)).trans (prod_one k.full)
theorem kn_fits {m : Int} {n : Nat} {f h : List Int} {qs : List (List Int × Int)} (hf : ∀ q ∈ qs, dt f q.1 % m = q.2) : ∀ {j : Nat}, (∀ i : Nat, i < j → dt f (cellK m n qs (primesOf m) i) % m = dt h (cellK m n qs (primesOf m) i) % m) → ∀ q ∈ kn m n h qs j, dt f q.1 % m = q.2
  | 0, _, q, hq => hf q hq
  | j + 1, hs, q, hq => by
    rcases List.mem_append.mp (show q ∈ kn m n h qs j ++ _ from hq) with hq | hq
    · exact kn_fits hf (fun i hi => hs i (by omega)) q hq
    · rw [List.mem_singleton.mp hq]
      exact hs j (by omega)
/-- what the next cells tell parts the rules -/
theorem Kn.part {m : Int} {g : Nat} {hid f : List Int} {qs : List (List Int × Int)} (k : Kn m g hid qs) (pf : Pn m f) (lf : f.length = 2 * g + 1) (hf : ∀ q ∈ qs, dt f q.1 % m = q.2)
    (hs : ∀ i : Nat, i < most (2 * g + 1) qs (primesOf m) → dt f (cellK m (2 * g + 1) qs (primesOf m) i) % m = dt hid (cellK m (2 * g + 1) qs (primesOf m) i) % m) : f = hid := by
  have mb : 2 ≤ m ∧ m ≤ 15 := modsB k.hm
  have g3 := k.hg
  have ml := most_le (n := 2 * g + 1) (qs := qs) (ps := primesOf m)
  have hc := count_all k.hm (k.lk (j := most (2 * g + 1) qs (primesOf m)) (by omega))
  rw [k.one] at hc
  obtain ⟨a, ha⟩ := List.length_eq_one_iff.mp hc
  have i1 : f ∈ (allT m.toNat (2 * g + 1)).filter (fitM m (kn m (2 * g + 1) hid qs (most (2 * g + 1) qs (primesOf m)))) := List.mem_filter.mpr ⟨allT_in (by omega) lf pf, by
    unfold fitM
    exact List.all_eq_true.mpr fun q hq => decide_eq_true (kn_fits hf hs q hq)⟩
  have i2 : hid ∈ (allT m.toNat (2 * g + 1)).filter (fitM m (kn m (2 * g + 1) hid qs (most (2 * g + 1) qs (primesOf m)))) := List.mem_filter.mpr ⟨allT_in (by omega) k.lh k.ph, by
    unfold fitM
    exact List.all_eq_true.mpr fun q hq => decide_eq_true (k.fit q hq)⟩
  rw [ha] at i1 i2
  exact (List.mem_singleton.mp i1).trans (List.mem_singleton.mp i2).symm
/-- at its end the rank is whole -/
theorem Kn.rank {m : Int} {g : Nat} {hid : List Int} {qs : List (List Int × Int)} (k : Kn m g hid qs) {p : Int} (hp : p ∈ primesOf m) : (elim p (upN (2 * g + 1)) ((kn m (2 * g + 1) hid qs (most (2 * g + 1) qs (primesOf m))).map fun q => q.1.map fun x => x % p)).1 = 2 * g + 1 := by
  have mb : 2 ≤ m ∧ m ≤ 15 := modsB k.hm
  rw [← rk_cells fun q hq => ((kn_ok (by omega) k.hq.ok k.hf).1 q hq).2.1]
  exact k.full p hp
end NA

namespace K31
open PySem PySem.Spec PyProof.Rows L2 DL FL
open NA

def g_comes_again_row_rule {α : Type} : List α → List α
  | [x0, x1] => [x1, x0]
  | l => l
theorem pm_comes_again_row_rule : Perm @g_comes_again_row_rule 2 := ⟨fun l h => match l, h with | [_, _], _ => rfl, fun {_ _ _ l r} h p => match l, r, h, p with | [_, _], [_, _], _, .cons h0 (.cons h1 (.nil)) => (.cons h1 (.cons h0 .nil))⟩
noncomputable def lb_stepped_1 : FS := (fsSeq (fsAsg 8 (fOp gMod (fOp gMul (fVar 6) (fVar 2)) (fVar 4)))
    (fsSetK (fVar 5) (fVar 8) (fOp gAdd (fGet (fVar 5) (fVar 8) (fC (.int 0))) (fVar 7))))
noncomputable def lb_stepped_2 : FS := (fsSeq (fsAsg 10 (fOp gAdd (fSl (fVar 1) (fPart (fVar 8)) fNo) (fSl (fVar 1) fNo (fPart (fVar 8)))))
    (fsAsg 9 (fLc (fiArgs gZip (faCons (fVar 9) (faCons (fVar 10) faNil))) (tgT [11, 12]) fYes (fOp gAdd (fVar 11) (fOp gMul (fVar 7) (fVar 12))) [11, 12])))
noncomputable def fb_stepped : FS := (fsSeq (fsAsg 4 (fFn gLen (faCons (fVar 1) faNil)))
    (fsSeq (fsAsg 5 fDictO)
    (fsSeq (fsFor (fiSeq (fVar 0)) (tgT [6, 7]) lb_stepped_1)
    (fsSeq (fsAsg 9 (frz (fRep (fLstO (faCons (fC (.int 0)) faNil)) (fVar 4))))
    (fsSeq (fsSeq (fsFrz 5) (fsFor (fiItems (fVar 5)) (tgT [8, 7]) lb_stepped_2))
    (fsRet (fLcO (fiSeq (fVar 9)) (tgN 11) fYes (fOp gMod (fVar 11) (fVar 3)) [11])))))))
noncomputable def F_stepped : Fn := runF 13 fb_stepped
noncomputable def lb_done_often_2 : FS := (fsAsg 2 (frz (fCall F_stepped (faCons (fVar 0) (faCons (fVar 2) (faCons (fVar 4) (faCons (fVar 3) faNil)))))))
noncomputable def lb_done_often_1 : FS := (fsSeq (fsFor (fiArgs gRange1 (faCons (fOp gMod (fVar 1) (fVar 3)) faNil)) (tgN 5) lb_done_often_2)
    (fsSeq (fsAsg 1 (fOp gFdiv (fVar 1) (fVar 3)))
    (fsAsg 4 (fOp gMod (fOp gMul (fVar 4) (fVar 3)) (fFn gLen (faCons (fVar 2) faNil))))))
noncomputable def fb_done_often : FS := (fsSeq (fsAsg 4 (fC (.int 1)))
    (fsSeq (fsWhile (fTr (fVar 1)) lb_done_often_1)
    (fsRet (fVar 2))))
noncomputable def F_done_often : Fn := runF 6 fb_done_often
noncomputable def lb_divisors_of_2 : FS := (fsAsg 0 (fOp gFdiv (fVar 0) (fVar 2)))
noncomputable def lb_divisors_of_1 : FS := (fsSeq (fsIf (fB (fOp gEq (fOp gMod (fVar 0) (fVar 2)) (fC (.int 0)))) (fsSeq (fsDrop (fMut gAppend (fVar 1) (faCons (fVar 2) faNil)))
    (fsWhile (fB (fOp gEq (fOp gMod (fVar 0) (fVar 2)) (fC (.int 0)))) lb_divisors_of_2)) fsNext)
    (fsAugAdd 2 (fC (.int 1))))
noncomputable def fb_divisors_of : FS := (fsSeq (fsAsg 1 (fLstO faNil))
    (fsSeq (fsAsg 2 (fC (.int 2)))
    (fsSeq (fsWhile (fB (fOp gLe (fOp gMul (fVar 2) (fVar 2)) (fVar 0))) lb_divisors_of_1)
    (fsRet (fIf (fB (fOp gGt (fVar 0) (fC (.int 1)))) (fOpO gAdd (fVar 1) (fLst (faCons (fVar 0) faNil))) (fVar 1))))))
noncomputable def F_divisors_of : Fn := runF 3 fb_divisors_of
noncomputable def fb_need_both : FS := (fsSeq (fsDrop (fCall F_need_rule (faCons (fVar 0) faNil)))
    (fsSeq (fsDrop (fCall F_need_round (faCons (fVar 1) faNil)))
    (fsDrop (fCall F_need_same (faCons (fVar 0) (faCons (fVar 1) faNil))))))
noncomputable def F_need_both : Fn := runF 2 fb_need_both
noncomputable def lb_again_modulo_1 : FS := (fsSeq (fsAsg 1 (frz (fCall F_stepped (faCons (fVar 0) (faCons (fVar 1) (faCons (fC (.int 1)) (faCons (fVar 2) faNil)))))))
    (fsAugAdd 6 (fC (.int 1))))
noncomputable def lb_again_modulo_3 : FS := (fsAsg 5 (fOp gFdiv (fVar 5) (fVar 7)))
noncomputable def lb_again_modulo_2 : FS := (fsWhile (ftAnd (fB (fOp gEq (fOp gMod (fVar 5) (fVar 7)) (fC (.int 0)))) (fB (fOp gEq (fCall F_done_often (faCons (fVar 0) (faCons (fOp gFdiv (fVar 5) (fVar 7)) (faCons (fVar 1) (faCons (fVar 2) faNil))))) (fVar 1)))) lb_again_modulo_3)
noncomputable def fb_again_modulo : FS := (fsSeq (fsAsgT [3, 4] (fCall F_turns_on_ring (faCons (fFn gLen (faCons (fVar 1) faNil)) (faCons (fVar 2) faNil))))
    (fsSeq (fsAsg 5 (fOp gMul (fVar 3) (fOp gSub (fVar 4) (fC (.int 1)))))
    (fsSeq (fsAsg 6 (fC (.int 0)))
    (fsSeq (fsWhile (fB (fOp gNe (fCall F_done_often (faCons (fVar 0) (faCons (fVar 5) (faCons (fVar 1) (faCons (fVar 2) faNil))))) (fVar 1))) lb_again_modulo_1)
    (fsSeq (fsFor (fiSeq (fOp gAdd (frz (fCall F_divisors_of (faCons (fOp gSub (fVar 4) (fC (.int 1))) faNil))) (fLst (faCons (fVar 2) faNil)))) (tgN 7) lb_again_modulo_2)
    (fsRet (fTup (faCons (fVar 6) (faCons (fVar 5) faNil)))))))))
noncomputable def F_again_modulo : Fn := runF 8 fb_again_modulo
noncomputable def lb_comes_again_1 : FS := (fsSeq (fsAsg 5 (fCall F_again_modulo (faCons (fCall F_by_prime (faCons (fVar 0) (faCons (fVar 4) faNil))) (faCons (frz (fCall F_rests_of (faCons (fVar 1) (faCons (fVar 4) faNil)))) (faCons (fVar 4) faNil)))))
    (fsSeq (fsAsg 2 (fFn gMax2 (faCons (fVar 2) (faCons (fOp gIx (fVar 5) (fC (.int 0))) faNil))))
    (fsAsg 3 (fFn gLcm (faCons (fVar 3) (faCons (fOp gIx (fVar 5) (fC (.int 1))) faNil))))))
noncomputable def fb_comes_again : FS := (fsSeq (fsDrop (fCall F_need_both (faCons (fVar 0) (faCons (fVar 1) faNil))))
    (fsSeq (fsAsgT [2, 3] (fTup (faCons (fC (.int 0)) (faCons (fC (.int 1)) faNil))))
    (fsSeq (fsFor (fiSeq (frz (fCall F_primes_of (faCons (fOp gIx (fVar 1) (fC (.int 0))) faNil)))) (tgN 4) lb_comes_again_1)
    (fsRet (fTup (faCons (fVar 2) (faCons (fVar 3) faNil)))))))
noncomputable def F_comes_again : Fn := runF 6 fb_comes_again
noncomputable def fb__law_jar : FS := (fsSeq (fsAsg 2 (fOp gAdd (fOp gMul (fC (.int 31)) (fVar 1)) (fC (.int 19))))
    (fsSeq (fsIf (fB (fOp gLt (fVar 1) (fFn gLen (faCons (fVar 0) faNil)))) (fsAsg 2 (fOp gIx (fVar 0) (fVar 1))) fsNext)
    (fsSeq (fsAsg 3 (fOp gAdd (fFn gSum (faCons (fLc (fiSeq (fVar 0)) (tgN 4) fYes (fOp gMod (fFn gInt (faCons (fVar 4) faNil)) (fOp gAdd (fOp gPow (fC (.int 10)) (fC (.int 22))) (fC (.int 9)))) [4]) faNil)) (fOp gMul (fC (.int 83)) (fFn gLen (faCons (fVar 0) faNil)))))
    (fsSeq (fsAsg 5 (fOp gMod (fFn gInt (faCons (fOp gAdd (fOp gAdd (fOp gAdd (fOp gMul (fFn gAbs (faCons (fVar 2) faNil)) (fC (.int 40503))) (fOp gMul (fC (.int 5)) (fFn gInt (faCons (fOp gLt (fVar 2) (fC (.int 0))) faNil)))) (fOp gMul (fVar 3) (fC (.int 2654435)))) (fVar 1)) faNil)) (fOp gAdd (fOp gPow (fC (.int 10)) (fC (.int 30))) (fC (.int 57)))))
    (fsRet (fLstO (faCons (fFn gMax2 (faCons (fC (.int 0)) (faCons (fOp gSub (fVar 2) (fOp gPow (fC (.int 10)) (fC (.int 18)))) faNil))) (faCons (fVar 5) (faCons (fC (.int 0)) faNil)))))))))
noncomputable def F__law_jar : Fn := runF 6 fb__law_jar
noncomputable def fb__law_take : FS := (fsSeq (fsIf (fB (fOp gGt (fOp gIx (fVar 0) (fC (.int 0))) (fC (.int 0)))) (fsSeq (fsAsg 2 (fOp gMod (fFn gInt (faCons (fOp gIx (fVar 0) (fC (.int 0))) faNil)) (fVar 1)))
    (fsSeq (fsSetI (fVar 0) (fC (.int 0)) (fOp gFdiv (fOp gIx (fVar 0) (fC (.int 0))) (fVar 1)))
    (fsRet (fVar 2)))) fsNext)
    (fsSeq (fsSetI (fVar 0) (fC (.int 2)) (fOp gAdd (fOp gIx (fVar 0) (fC (.int 2))) (fC (.int 1))))
    (fsSeq (fsAsg 3 (fOp gMod (fFn gInt (faCons (fOp gAdd (fOp gPow (fOp gAdd (fOp gIx (fVar 0) (fC (.int 1))) (fOp gMul (fC (.int 314159265)) (fOp gIx (fVar 0) (fC (.int 2))))) (fC (.int 3))) (fOp gMul (fC (.int 17)) (fOp gIx (fVar 0) (fC (.int 2))))) faNil)) (fOp gAdd (fOp gPow (fC (.int 10)) (fC (.int 31))) (fC (.int 33)))))
    (fsSeq (fsAsg 3 (fOp gMod (fFn gInt (faCons (fOp gMul (fVar 3) (fOp gAdd (fVar 3) (fOp gMul (fC (.int 6421)) (fOp gIx (fVar 0) (fC (.int 2)))))) faNil)) (fOp gAdd (fOp gPow (fC (.int 10)) (fC (.int 29))) (fC (.int 319)))))
    (fsRet (fOp gMod (fFn gInt (faCons (fOp gFdiv (fVar 3) (fC (.int 16381))) faNil)) (fVar 1)))))))
noncomputable def F__law_take : Fn := runF 4 fb__law_take
noncomputable def fb__law_modulus : FS := (fsRet (fOp gIx (fLst (faCons (fC (.int 2)) (faCons (fC (.int 3)) (faCons (fC (.int 5)) (faCons (fC (.int 6)) (faCons (fC (.int 7)) (faCons (fC (.int 10)) (faCons (fC (.int 11)) (faCons (fC (.int 13)) (faCons (fC (.int 14)) (faCons (fC (.int 15)) faNil))))))))))) (fCall F__law_take (faCons (fVar 0) (faCons (fC (.int 10)) faNil)))))
noncomputable def F__law_modulus : Fn := runF 1 fb__law_modulus
noncomputable def lb__law_product_1 : FS := (fsSeq (fsAsg 6 (fOp gIx (fLst (faCons (fVar 3) (faCons (fVar 3) (faCons (fVar 3) (faCons (fCall F__law_take (faCons (fVar 0) (faCons (fVar 1) faNil))) faNil))))) (fCall F__law_take (faCons (fVar 0) (faCons (fC (.int 4)) faNil)))))
    (fsAsg 4 (fLc (fiArgs gZip (faCons (fOp gAdd (fLst (faCons (fC (.int 0)) faNil)) (fVar 4)) (faCons (fOp gAdd (fVar 4) (fLst (faCons (fC (.int 0)) faNil))) faNil))) (tgT [7, 8]) fYes (fOp gMod (fFn gInt (faCons (fOp gSub (fVar 7) (fOp gMul (fVar 6) (fVar 8))) faNil)) (fVar 1)) [7, 8])))
noncomputable def fb__law_product : FS := (fsSeq (fsPar 3 4 (faCons (fOp gIx (fLst (faCons (fC (.int 1)) (faCons (fOp gSub (fVar 1) (fC (.int 1))) (faCons (fOp gAdd (fC (.int 1)) (fCall F__law_take (faCons (fVar 0) (faCons (fOp gSub (fVar 1) (fC (.int 1))) faNil)))) faNil)))) (fCall F__law_take (faCons (fVar 0) (faCons (fC (.int 3)) faNil)))) (faCons (fLst (faCons (fC (.int 1)) faNil)) faNil)))
    (fsSeq (fsFor (fiArgs gRange1 (faCons (fCall F__law_take (faCons (fVar 0) (faCons (fOp gAdd (fVar 2) (fC (.int 1))) faNil))) faNil)) (tgN 5) lb__law_product_1)
    (fsRet (fVar 4))))
noncomputable def F__law_product : Fn := runF 9 fb__law_product
noncomputable def fb__law_rule : FS := (fsSeq (fsAsg 2 (fCall F__law_take (faCons (fVar 0) (faCons (fC (.int 5)) faNil))))
    (fsSeq (fsIf (fB (fOp gLt (fVar 2) (fC (.int 2)))) (fsAsg 3 (fCall F__law_product (faCons (fVar 0) (faCons (fVar 1) (faCons (fC (.int 8)) faNil))))) (fsSeq (fsAsg 3 (fLc (fiArgs gRange1 (faCons (fOp gAdd (fC (.int 1)) (fCall F__law_take (faCons (fVar 0) (faCons (fC (.int 9)) faNil)))) faNil)) (tgN 4) fYes (fCall F__law_take (faCons (fVar 0) (faCons (fVar 1) faNil))) [4]))
    (fsIf (fB (fOp gEq (fVar 2) (fC (.int 2)))) (fsAsg 3 (fLc (fiSeq (fVar 3)) (tgN 5) fYes (fOp gMul (fVar 5) (fFn gInt (faCons (fOp gEq (fCall F__law_take (faCons (fVar 0) (faCons (fC (.int 3)) faNil))) (fC (.int 0))) faNil))) [5])) fsNext)))
    (fsSeq (fsAsg 6 (fOp gSub (fCall F__law_take (faCons (fVar 0) (faCons (fOp gSub (fC (.int 10)) (fFn gLen (faCons (fVar 3) faNil))) faNil))) (fC (.int 4))))
    (fsSeq (fsAsg 7 (fOp gIx (fLst (faCons (fC (.int 1)) (faCons (fC (.int 1)) (faCons (fC (.int 1)) (faCons (fC (.int 1)) (faCons (fCall F__law_take (faCons (fVar 0) (faCons (fVar 1) faNil))) faNil)))))) (fCall F__law_take (faCons (fVar 0) (faCons (fC (.int 5)) faNil)))))
    (fsSeq (fsAsg 8 (fLc (fiArgs gEnum (faCons (fVar 3) faNil)) (tgT [9, 5]) fYes (fTup (faCons (fOp gAdd (fVar 6) (fVar 9)) (faCons (fOp gMod (fFn gInt (faCons (fOp gMul (fVar 5) (fVar 7)) faNil)) (fVar 1)) faNil))) [9, 5]))
    (fsRet (fTup (faCons (fVar 1) (faCons (fFn gTuple (faCons (fLc (fiSeq (fVar 8)) (tgN 10) (fB (fOp gGt (fOp gIx (fVar 10) (fC (.int 1))) (fC (.int 0)))) (fVar 10) [10]) faNil)) faNil)))))))))
noncomputable def F__law_rule : Fn := runF 11 fb__law_rule
noncomputable def fb__law_values : FS := (fsSeq (fsAsg 3 (fCall F__law_take (faCons (fVar 0) (faCons (fC (.int 4)) faNil))))
    (fsSeq (fsIf (fB (fOp gEq (fVar 3) (fC (.int 0)))) (fsSeq (fsAsg 4 (fLc (fiArgs gRange1 (faCons (fOp gAdd (fC (.int 1)) (fCall F__law_take (faCons (fVar 0) (faCons (fVar 2) faNil)))) faNil)) (tgN 5) fYes (fCall F__law_take (faCons (fVar 0) (faCons (fVar 1) faNil))) [5]))
    (fsRet (fFn gTuple (faCons (fLc (fiArgs gRange1 (faCons (fVar 2) faNil)) (tgN 6) fYes (fOp gIx (fVar 4) (fOp gMod (fFn gInt (faCons (fVar 6) faNil)) (fFn gLen (faCons (fVar 4) faNil)))) [6]) faNil)))) fsNext)
    (fsSeq (fsIf (fB (fOp gEq (fVar 3) (fC (.int 1)))) (fsRet (fFn gTuple (faCons (fLc (fiArgs gRange1 (faCons (fVar 2) faNil)) (tgN 6) fYes (fOp gMul (fCall F__law_take (faCons (fVar 0) (faCons (fVar 1) faNil))) (fFn gInt (faCons (fOp gEq (fCall F__law_take (faCons (fVar 0) (faCons (fC (.int 4)) faNil))) (fC (.int 0))) faNil))) [6]) faNil))) fsNext)
    (fsRet (fFn gTuple (faCons (fLc (fiArgs gRange1 (faCons (fVar 2) faNil)) (tgN 6) fYes (fCall F__law_take (faCons (fVar 0) (faCons (fVar 1) faNil))) [6]) faNil))))))
noncomputable def F__law_values : Fn := runF 7 fb__law_values
noncomputable def lb__law_step_1 : FS := (fsDrop (fMut gAppend (fVar 3) (faCons (fOp gMod (fFn gInt (faCons (fFn gSum (faCons (fLc (fiSeq (fOp gIx (fVar 0) (fC (.int 1)))) (tgT [5, 6]) fYes (fOp gMul (fVar 6) (fOp gIx (fVar 1) (fOp gMod (fFn gInt (faCons (fOp gAdd (fVar 4) (fVar 5)) faNil)) (fVar 2)))) [5, 6]) faNil)) faNil)) (fOp gIx (fVar 0) (fC (.int 0)))) faNil)))
noncomputable def fb__law_step : FS := (fsSeq (fsParN [2, 3] (faCons (fFn gLen (faCons (fVar 1) faNil)) (faCons (fLstO faNil) faNil)))
    (fsSeq (fsFor (fiArgs gRange1 (faCons (fVar 2) faNil)) (tgN 4) lb__law_step_1)
    (fsRet (fFn gTuple (faCons (fVar 3) faNil)))))
noncomputable def F__law_step : Fn := runF 7 fb__law_step
noncomputable def lb__law_walked_1 : FS := (fsSeq (fsIf (fB (fInI (fVar 4) (fVar 3))) (fsRet (fTup (faCons (fIxI (fVar 3) (fVar 4)) (faCons (fOp gSub (fVar 5) (fIxI (fVar 3) (fVar 4))) faNil)))) fsNext)
    (fsSeq (fsSetDI (fVar 3) (fVar 4) (fVar 5))
    (fsAsg 4 (fCall F__law_step (faCons (fVar 0) (faCons (fVar 4) faNil))))))
noncomputable def fb__law_walked : FS := (fsSeq (fsPar 3 4 (faCons fDictIO (faCons (fVar 1) faNil)))
    (fsSeq (fsFor (fiArgs gRange1 (faCons (fOp gAdd (fVar 2) (fC (.int 1))) faNil)) (tgN 5) lb__law_walked_1)
    (fsRet (fC .none))))
noncomputable def F__law_walked : Fn := runF 6 fb__law_walked
noncomputable def lb__law_right_1 : FS := (fsSeq (fsIf (ftAnd (fB (fOp gNotN (fVar 3) (fC .none))) (fB (fOp gNe (fFn gRepr (faCons (fVar 4) faNil)) (fFn gRepr (faCons (fVar 3) faNil))))) (fsRet (fC (.bool false))) fsNext)
    (fsSeq (fsIf (ftOr (ftNot (fTr (fIsi "tuple" (fVar 4)))) (fB (fOp gNe (fFn gLen (faCons (fVar 4) faNil)) (fC (.int 2))))) (fsRet (fC (.bool false))) fsNext)
    (fsSeq (fsIf (ftNot (fTr (fFn gAll (faCons (fLc (fiSeq (fVar 4)) (tgN 5) fYes (fAndV (fIsi "int" (fVar 5)) (fNotV (fIsi "bool" (fVar 5)))) [5]) faNil)))) (fsRet (fC (.bool false))) fsNext)
    (fsIf (ftOr (fB (fOp gLt (fOp gIx (fVar 4) (fC (.int 0))) (fC (.int 0)))) (ftOr (fB (fOp gLt (fOp gIx (fVar 4) (fC (.int 1))) (fC (.int 1)))) (ftAnd (fB (fOp gIsN (fVar 3) (fC .none))) (fB (fOp gLe (fOp gAdd (fOp gIx (fVar 4) (fC (.int 0))) (fOp gIx (fVar 4) (fC (.int 1)))) (fVar 2)))))) (fsRet (fC (.bool false))) fsNext))))
noncomputable def fb__law_right : FS := (fsSeq (fsAsg 3 (fCall F__law_walked (faCons (fVar 0) (faCons (fVar 1) (faCons (fVar 2) faNil)))))
    (fsSeq (fsFor (fiSeq (fLst (faCons (fCall F_comes_again (faCons (fVar 0) (faCons (fTup (faCons (fOp gIx (fVar 0) (fC (.int 0))) (faCons (fVar 1) faNil))) faNil))) (faCons (fCallK F_comes_again g_comes_again_row_rule (faCons (fTup (faCons (fOp gIx (fVar 0) (fC (.int 0))) (faCons (fVar 1) faNil))) (faCons (fVar 0) faNil))) faNil)))) (tgN 4) lb__law_right_1)
    (fsRet (fC (.bool true)))))
noncomputable def F__law_right : Fn := runF 6 fb__law_right
noncomputable def lb_law_2 : FS := (fsAsg 8 (fCall F__law_step (faCons (fVar 5) (faCons (fVar 8) faNil))))
noncomputable def lb_law_3 : FS := (fsIf (ftNot (fTr (fCall F__law_right (faCons (fVar 5) (faCons (fVar 10) (faCons (fC (.int 400)) faNil)))))) (fsRet (fC (.bool false))) fsNext)
noncomputable def lb_law_1 : FS := (fsSeq (fsAsg 2 (fCall F__law_jar (faCons (fVar 0) (faCons (fVar 1) faNil))))
    (fsSeq (fsAsg 3 (fOp gIx (fLst (faCons (fCall F__law_modulus (faCons (fVar 2) faNil)) (faCons (fC (.int 2)) (faCons (fC (.int 3)) faNil)))) (fCall F__law_take (faCons (fVar 2) (faCons (fC (.int 3)) faNil)))))
    (fsSeq (fsPar 4 5 (faCons (fOp gIx (fLst (faCons (fOp gAdd (fC (.int 1)) (fCall F__law_take (faCons (fVar 2) (faCons (fC (.int 12)) faNil)))) (faCons (fOp gAdd (fC (.int 1)) (fCall F__law_take (faCons (fVar 2) (faCons (fC (.int 5)) faNil)))) (faCons (fC (.int 8)) (faCons (fC (.int 9)) (faCons (fC (.int 12)) faNil)))))) (fCall F__law_take (faCons (fVar 2) (faCons (fC (.int 5)) faNil)))) (faCons (fCall F__law_rule (faCons (fVar 2) (faCons (fVar 3) faNil))) faNil)))
    (fsSeq (fsPar 6 7 (faCons (fCall F__law_values (faCons (fVar 2) (faCons (fVar 3) (faCons (fVar 4) faNil)))) (faCons (fCall F__law_values (faCons (fVar 2) (faCons (fVar 3) (faCons (fOp gAdd (fC (.int 1)) (fCall F__law_take (faCons (fVar 2) (faCons (fC (.int 12)) faNil)))) faNil)))) faNil)))
    (fsSeq (fsAsg 8 (fVar 6))
    (fsSeq (fsFor (fiArgs gRange1 (faCons (fOp gAdd (fC (.int 1)) (fCall F__law_take (faCons (fVar 2) (faCons (fC (.int 4)) faNil)))) faNil)) (tgN 9) lb_law_2)
    (fsFor (fiSeq (fLst (faCons (fVar 6) (faCons (fVar 7) (faCons (fVar 8) (faCons (fVar 6) (faCons (fOp gMulT (fTup (faCons (fC (.int 0)) faNil)) (fVar 4)) faNil))))))) (tgN 10) lb_law_3)))))))
noncomputable def fb_law : FS := (fsSeq (fsFor (fiArgs gRange1 (faCons (fFn gMax2 (faCons (fC (.int 1)) (faCons (fFn gMin2 (faCons (fC (.int 3)) (faCons (fFn gLen (faCons (fVar 0) faNil)) faNil))) faNil))) faNil)) (tgN 1) lb_law_1)
    (fsRet (fC (.bool true))))
noncomputable def F_law : Fn := runF 11 fb_law
end K31

namespace K31
open PySem hiding rule
open PySem.Spec PyProof.Rows L2 DL FL RF NA
local macro_rules | `(tactic| walk_at "fl") => `(tactic| simp only [ap_var, ap_c, ap_un, ap_unV, ap_op, ap_opO, ap_fn, ap_nil, ap_cons, ap_tr, ap_b, ap_tand, ap_tor, ap_tnot, ap_and, ap_or, ap_not, ap_if, ap_chain, ap_tup, ap_lst, ap_lstO, ap_dictO, ap_frz, ap_sl, ap_no, ap_part, ap_mut, ap_call, ap_callK, ap_get, ap_dict, ap_isi, ap_rep, ap_listO, ap_seq, ap_iargs, ap_lc, ap_lcO, ap_yes, ap_sq, ap_ret, ap_drop, ap_sif, ap_nx, ap_bk, ap_ct, ap_asg, ap_setR, ap_runT, ap_bb0, ap_bbs, ap_bbn, ap_bbd, ap_bbc, ap_bbb, ap_sfrz, ap_setI, ap_setK, ap_for, ap_par, ap_asgT, ap_run, ap_see, ap_seeo, ap_seer, ap_getC, ap_setC, ap_sees0, ap_sees1, ap_parN, ap_view, ap_frza0, ap_frza, ap_frzc, ap_frzb, ap_frzd, ap_frzn, ap_call1, ap_c1o, ap_sar0, ap_sar1, ap_frv, ap_fro, ap_tgN, ap_tgT, fin_val, fin_own, fin_ref, fin_nx, bors_nil, bors_d, bors_b, R.bind_ok, ofO_some, ofB_some, ofOL_list, seeV, frV, vals, setAllF, wipeF, restF, callR, refsOf, argVs, putBack, setR2, setI, setK, ap_glt, ap_gle, ap_ggt, ap_gge, ap_gsub, ap_gadd, ap_gneg, ap_gix, ap_cutl, ap_cutt, ap_gtup, ap_glist, ap_glen, ap_gint, ap_gintb, ap_gabs, ap_gmax, ap_gmin, ap_isN, ap_notN, ap_geq, ap_gne, ap_eqi, ap_eqb, ap_eqs, ap_iol, ap_iot, ap_gtn, ap_gtb, ap_gti, ap_gtl, ap_gtt, ap_isn0, ap_isni, ap_isnl, ap_isnt, ap_revl, ap_revt, ap_enum, ap_zipl, ap_zipt, intsOf_map, boolsOf_map, ap_cellL, startF, List.map_cons, List.map_nil, List.length_cons, List.length_nil, List.replicate_succ, List.replicate_zero, List.cons_append, List.nil_append, List.append_nil, List.getElem?_cons_zero, List.getElem?_cons_succ, List.getElem?_nil, List.set_cons_zero, List.set_cons_succ, List.set_nil, Option.map_some, Option.map_none, Option.bind_some, Option.bind_none, Nat.reduceSub, Nat.reduceAdd, if_true, if_false, Bool.false_eq_true, reduceIte, true_and, and_true, Nat.sub_zero, Nat.zero_add, reduceCtorEq, List.nodup_nil, List.nodup_cons, List.not_mem_nil, not_false_eq_true, and_self, Bool.not_true, Bool.not_false, Bool.not_not, decide_true, decide_false, Nat.reduceLeDiff, atI0, atI1, req_true])
-- terms: RF.Tm
def sm : Nat → (Nat → Int) → Int
  | 0, _ => 0
  | n + 1, g => sm n g + g n
theorem sm_add {g h : Nat → Int} : ∀ n : Nat, sm n (fun k => g k + h k) = sm n g + sm n h
  | 0 => rfl
  | n + 1 => by
    show sm n (fun k => g k + h k) + (g n + h n) = sm n g + g n + (sm n h + h n)
    rw [sm_add n]
    omega
theorem sm_congr {g h : Nat → Int} : ∀ {n : Nat}, (∀ k, k < n → g k = h k) → sm n g = sm n h
  | 0, _ => rfl
  | n + 1, e => by unfold sm; rw [sm_congr fun k hk => e k (by omega), e n (by omega)]
theorem sm_head {g : Nat → Int} : ∀ n : Nat, sm (n + 1) g = g 0 + sm n fun k => g (k + 1)
  | 0 => by unfold sm sm; omega
  | n + 1 => by
    have := sm_head (g := g) n
    rw [show sm (n + 1 + 1) g = sm (n + 1) g + g (n + 1) from rfl, this]
    show _ = g 0 + (sm n (fun k => g (k + 1)) + g (n + 1))
    omega
/-- binomial numbers -/
def bin : Nat → Nat → Nat
  | _, 0 => 1
  | 0, _ + 1 => 0
  | n + 1, k + 1 => bin n k + bin n (k + 1)
theorem bin_big : ∀ {n k : Nat}, n < k → bin n k = 0
  | _, 0, h => by omega
  | 0, _ + 1, _ => rfl
  | n + 1, k + 1, h => by unfold bin; rw [bin_big (by omega), bin_big (by omega)]
theorem bin_same : ∀ n : Nat, bin n n = 1
  | 0 => rfl
  | n + 1 => by unfold bin; rw [bin_same n, bin_big (by omega)]
def T (a : RF.Tm) (F : Int → Int) : Int → Int := fun i => ev a fun o => F (i + o)
def it {α : Type} (f : α → α) : Nat → α → α
  | 0, x => x
  | n + 1, x => f (it f n x)
theorem it_add {α : Type} (f : α → α) (x : α) : ∀ m n : Nat, it f (m + n) x = it f m (it f n x)
  | 0, n => by rw [Nat.zero_add]; rfl
  | m + 1, n => by rw [Nat.succ_add]; unfold it; rw [it_add f x m n]
theorem it_mul {α : Type} (f : α → α) (x : α) : ∀ m n : Nat, it f (m * n) x = it (it f n) m x
  | 0, n => by rw [Nat.zero_mul]; rfl
  | m + 1, n => by rw [Nat.succ_mul, Nat.add_comm, it_add, it_mul f x m n]; rfl
theorem T_cons {p : Int × Int} {a : RF.Tm} {F : Int → Int} {i : Int} : T (p :: a) F i = p.2 * F (i + p.1) + T a F i := by unfold T; rw [ev_cons]
theorem T_comm {a b : RF.Tm} {F : Int → Int} : T a (T b F) = T b (T a F) := by
  funext i
  unfold T
  rw [ev_swap]
  refine ev_congr fun q _ => ev_congr fun p _ => ?_
  congr 1
  omega
theorem T_add {a : RF.Tm} {F G : Int → Int} {i : Int} : T a (fun j => F j + G j) i = T a F i + T a G i := ev_add
theorem T_mul {a : RF.Tm} {c : Int} {F : Int → Int} {i : Int} : T a (fun j => c * F j) i = c * T a F i := ev_mul
theorem T_zero {a : RF.Tm} {i : Int} : T a (fun _ => 0) i = 0 := ev_zero
theorem T_sm {a : RF.Tm} {G : Nat → Int → Int} {i : Int} : ∀ n : Nat, T a (fun j => sm n fun k => G k j) i = sm n fun k => T a (G k) i
  | 0 => T_zero
  | n + 1 => by
    show T a (fun j => sm n (fun k => G k j) + G n j) i = _
    rw [T_add, T_sm n]
    rfl
theorem T_md {m : Int} {a : RF.Tm} {F G : Int → Int} (h : ∀ i, Md m (F i) (G i)) (i : Int) : Md m (T a F i) (T a G i) := ev_md fun x => h _
theorem it_T_comm {a b : RF.Tm} {F : Int → Int} : ∀ n : Nat, T a (it (T b) n F) = it (T b) n (T a F)
  | 0 => rfl
  | n + 1 => by unfold it; rw [T_comm, it_T_comm n]
/-- the sum of two, done n times -/
theorem binom {p : Int × Int} {a : RF.Tm} (F : Int → Int) : ∀ (n : Nat) (i : Int), it (T (p :: a)) n F i = sm (n + 1) fun k => (bin n k : Int) * it (T [p]) k (it (T a) (n - k) F) i
  | 0, i => by
    unfold sm sm bin it
    simp
    rfl
  | n + 1, i => by
    have ih := binom (p := p) (a := a) F n
    have e0 : it (T (p :: a)) n F = fun j => sm (n + 1) fun k => (bin n k : Int) * it (T [p]) k (it (T a) (n - k) F) j := funext ih
    have sp : ∀ G : Int → Int, ∀ j, T (p :: a) G j = T [p] G j + T a G j := fun G j => by
      rw [T_cons, T_cons]
      unfold T
      rw [ev_nil]
      omega
    show T (p :: a) (it (T (p :: a)) n F) i = _
    rw [sp, e0, T_sm, T_sm]
    -- X k j
    have h1 : sm (n + 1) (fun k => T [p] (fun j => (bin n k : Int) * it (T [p]) k (it (T a) (n - k) F) j) i) = sm (n + 1) fun k => (bin n k : Int) * it (T [p]) (k + 1) (it (T a) (n - k) F) i := sm_congr fun k _ => by
      rw [T_mul]
      rfl
    have h2 : sm (n + 1) (fun k => T a (fun j => (bin n k : Int) * it (T [p]) k (it (T a) (n - k) F) j) i) = sm (n + 1) fun k => (bin n k : Int) * it (T [p]) k (it (T a) (n + 1 - k) F) i := sm_congr fun k hk => by
      rw [T_mul, it_T_comm, show n + 1 - k = (n - k) + 1 by omega]
      rfl
    rw [h1, h2, sm_head (n + 1)]
    have h3 : sm (n + 1) (fun k => (bin (n + 1) (k + 1) : Int) * it (T [p]) (k + 1) (it (T a) (n + 1 - (k + 1)) F) i)
        = sm (n + 1) (fun k => (bin n k : Int) * it (T [p]) (k + 1) (it (T a) (n - k) F) i) + sm (n + 1) (fun k => (bin n (k + 1) : Int) * it (T [p]) (k + 1) (it (T a) (n - k) F) i) := by
      rw [← sm_add]
      refine sm_congr fun k _ => ?_
      rw [show n + 1 - (k + 1) = n - k by omega, show bin (n + 1) (k + 1) = bin n k + bin n (k + 1) from rfl, Int.natCast_add, Int.add_mul]
    rw [h3]
    have h4 : sm (n + 1) (fun k => (bin n k : Int) * it (T [p]) k (it (T a) (n + 1 - k) F) i) = (bin n 0 : Int) * it (T [p]) 0 (it (T a) (n + 1) F) i + sm n fun k => (bin n (k + 1) : Int) * it (T [p]) (k + 1) (it (T a) (n - k) F) i := by
      rw [sm_head n]
      congr 1
      refine sm_congr fun k _ => ?_
      rw [show n + 1 - (k + 1) = n - k by omega]
    have h5 : sm (n + 1) (fun k => (bin n (k + 1) : Int) * it (T [p]) (k + 1) (it (T a) (n - k) F) i) = sm n fun k => (bin n (k + 1) : Int) * it (T [p]) (k + 1) (it (T a) (n - k) F) i := by
      show sm n _ + (bin n (n + 1) : Int) * _ = _
      rw [bin_big (by omega)]
      simp
    rw [h4, h5]
    have b0 : ∀ n, bin n 0 = 1 := fun n => by cases n <;> rfl
    rw [b0, b0, Nat.sub_zero]
    omega
def str (s : Int) (a : RF.Tm) : RF.Tm := a.map fun q => (q.1 * s, q.2)
theorem str_cons {s : Int} {q : Int × Int} {a : RF.Tm} : str s (q :: a) = (q.1 * s, q.2) :: str s a := rfl
theorem bin_p : ∀ p ∈ [2, 3, 5, 7, 11, 13], ∀ k, k < p → 0 < k → bin p k % p = 0 := by decide +kernel
theorem fermat : ∀ p ∈ [2, 3, 5, 7, 11, 13], ∀ f, f < p → f ^ p % p = f % p := by decide +kernel
theorem one_term {q : Int × Int} {F : Int → Int} : ∀ (n : Nat) (i : Int), it (T [q]) n F i = q.2 ^ n * F (i + n * q.1)
  | 0, i => by simp [it]
  | n + 1, i => by
    show T [q] (it (T [q]) n F) i = _
    rw [T_cons, one_term n, Int.pow_succ]
    unfold T
    rw [ev_nil]
    rw [show i + q.1 + (n : Int) * q.1 = i + ((n + 1 : Nat) : Int) * q.1 by rw [Int.natCast_add, Int.add_mul]; simp; omega]
    rw [Int.add_zero, ← Int.mul_assoc, Int.mul_comm q.2]
theorem it_none {F : Int → Int} {n : Nat} (i : Int) : it (T []) (n + 1) F i = 0 := by unfold it T; rw [ev_nil]
theorem frob {P : Nat} (hP : P ∈ [2, 3, 5, 7, 11, 13]) : ∀ {a : RF.Tm}, (∀ q ∈ a, 0 ≤ q.2 ∧ q.2 < (P : Int)) → ∀ (F : Int → Int) (i : Int), Md P (it (T a) P F i) (T (str P a) F i)
  | [], _, F, i => by
    obtain ⟨n, hn⟩ : ∃ n, P = n + 1 := ⟨P - 1, by
      simp only [List.mem_cons, List.not_mem_nil, or_false] at hP
      omega⟩
    rw [hn, it_none]
    unfold T str
    exact Md.refl
  | q :: a, h, F, i => by
    have ih := frob hP (a := a) (fun q hq => h q (List.mem_cons_of_mem _ hq)) F i
    obtain ⟨q0, q1⟩ := h q List.mem_cons_self
    have P0 : 0 < P := by
      simp only [List.mem_cons, List.not_mem_nil, or_false] at hP
      omega
    rw [binom, sm_head]
    obtain ⟨n, hn⟩ : ∃ n, P = n + 1 := ⟨P - 1, by omega⟩
    have last : sm P (fun k => (bin P (k + 1) : Int) * it (T [q]) (k + 1) (it (T a) (P - (k + 1)) F) i) = sm n (fun k => (bin P (k + 1) : Int) * it (T [q]) (k + 1) (it (T a) (P - (k + 1)) F) i) + it (T [q]) P F i := by
      rw [hn]
      show sm n _ + (bin (n + 1) (n + 1) : Int) * it (T [q]) (n + 1) (it (T a) (n + 1 - (n + 1)) F) i = _
      rw [bin_same, Nat.sub_self]
      simp [it]
    have mid : Md P (sm n fun k => (bin P (k + 1) : Int) * it (T [q]) (k + 1) (it (T a) (P - (k + 1)) F) i) 0 := by
      have gen : ∀ m, m ≤ n → Md P (sm m fun k => (bin P (k + 1) : Int) * it (T [q]) (k + 1) (it (T a) (P - (k + 1)) F) i) 0 := fun m => by
        induction m with
        | zero => intro _; exact Md.refl
        | succ m ihm =>
          intro hm
          obtain ⟨k1, e1⟩ := ihm (by omega)
          have hb := bin_p P hP (m + 1) (by omega) (by omega)
          obtain ⟨c, hc⟩ := Nat.dvd_of_mod_eq_zero hb
          refine ⟨k1 + (c : Int) * it (T [q]) (m + 1) (it (T a) (P - (m + 1)) F) i, ?_⟩
          have e2 : (bin P (m + 1) : Int) = (P : Int) * (c : Int) := by rw [hc]; simp
          show (sm m fun k => (bin P (k + 1) : Int) * it (T [q]) (k + 1) (it (T a) (P - (k + 1)) F) i) + (bin P (m + 1) : Int) * it (T [q]) (m + 1) (it (T a) (P - (m + 1)) F) i - 0 = _
          rw [e2]
          grind
      exact gen n (Nat.le_refl _)
    have one : Md P (it (T [q]) P F i) (q.2 * F (i + q.1 * (P : Int))) := by
      rw [one_term, Int.mul_comm (P : Int)]
      obtain ⟨f, hf⟩ := Int.eq_ofNat_of_zero_le q0
      have hfe := fermat P hP f (by omega)
      have e3 : Md P (q.2 ^ P) q.2 := by
        rw [hf]
        have : ((f ^ P : Nat) : Int) % (P : Int) = (f : Int) % (P : Int) := by
          rw [← Int.natCast_emod, hfe, Int.natCast_emod]
        have h2 : (f : Int) ^ P = ((f ^ P : Nat) : Int) := by simp
        rw [h2]
        exact Int.dvd_of_emod_eq_zero (by rw [Int.sub_emod, this]; simp)
      obtain ⟨k, e⟩ := e3
      exact ⟨k * F (i + q.1 * (P : Int)), by grind⟩
    have b0 : bin P 0 = 1 := by cases P <;> rfl
    rw [b0, Nat.sub_zero, last, str_cons, T_cons]
    obtain ⟨k1, e1⟩ := ih
    obtain ⟨k2, e2⟩ := mid
    obtain ⟨k3, e3⟩ := one
    refine ⟨k1 + k2 + k3, ?_⟩
    show ((1 : Nat) : Int) * it (T [q]) 0 (it (T a) P F) i + _ - _ = _
    show ((1 : Nat) : Int) * it (T a) P F i + _ - _ = _
    grind
end K31

namespace K31
open PySem hiding rule
open PySem.Spec PyProof.Rows L2 DL FL RF NA
local macro_rules | `(tactic| walk_at "fl") => `(tactic| simp only [ap_var, ap_c, ap_un, ap_unV, ap_op, ap_opO, ap_fn, ap_nil, ap_cons, ap_tr, ap_b, ap_tand, ap_tor, ap_tnot, ap_and, ap_or, ap_not, ap_if, ap_chain, ap_tup, ap_lst, ap_lstO, ap_dictO, ap_frz, ap_sl, ap_no, ap_part, ap_mut, ap_call, ap_callK, ap_get, ap_dict, ap_isi, ap_rep, ap_listO, ap_seq, ap_iargs, ap_lc, ap_lcO, ap_yes, ap_sq, ap_ret, ap_drop, ap_sif, ap_nx, ap_bk, ap_ct, ap_asg, ap_setR, ap_runT, ap_bb0, ap_bbs, ap_bbn, ap_bbd, ap_bbc, ap_bbb, ap_sfrz, ap_setI, ap_setK, ap_for, ap_par, ap_asgT, ap_run, ap_see, ap_seeo, ap_seer, ap_getC, ap_setC, ap_sees0, ap_sees1, ap_parN, ap_view, ap_frza0, ap_frza, ap_frzc, ap_frzb, ap_frzd, ap_frzn, ap_call1, ap_c1o, ap_sar0, ap_sar1, ap_frv, ap_fro, ap_tgN, ap_tgT, fin_val, fin_own, fin_ref, fin_nx, bors_nil, bors_d, bors_b, R.bind_ok, ofO_some, ofB_some, ofOL_list, seeV, frV, vals, setAllF, wipeF, restF, callR, refsOf, argVs, putBack, setR2, setI, setK, ap_glt, ap_gle, ap_ggt, ap_gge, ap_gsub, ap_gadd, ap_gneg, ap_gix, ap_cutl, ap_cutt, ap_gtup, ap_glist, ap_glen, ap_gint, ap_gintb, ap_gabs, ap_gmax, ap_gmin, ap_isN, ap_notN, ap_geq, ap_gne, ap_eqi, ap_eqb, ap_eqs, ap_iol, ap_iot, ap_gtn, ap_gtb, ap_gti, ap_gtl, ap_gtt, ap_isn0, ap_isni, ap_isnl, ap_isnt, ap_revl, ap_revt, ap_enum, ap_zipl, ap_zipt, intsOf_map, boolsOf_map, ap_cellL, startF, List.map_cons, List.map_nil, List.length_cons, List.length_nil, List.replicate_succ, List.replicate_zero, List.cons_append, List.nil_append, List.append_nil, List.getElem?_cons_zero, List.getElem?_cons_succ, List.getElem?_nil, List.set_cons_zero, List.set_cons_succ, List.set_nil, Option.map_some, Option.map_none, Option.bind_some, Option.bind_none, Nat.reduceSub, Nat.reduceAdd, if_true, if_false, Bool.false_eq_true, reduceIte, true_and, and_true, Nat.sub_zero, Nat.zero_add, reduceCtorEq, List.nodup_nil, List.nodup_cons, List.not_mem_nil, not_false_eq_true, and_self, Bool.not_true, Bool.not_false, Bool.not_not, decide_true, decide_false, Nat.reduceLeDiff, atI0, atI1, req_true])
section
variable {α : Type} {f : α → α} {v : α}
/-- from b on all comes again, after l steps and not before -/
def Rho (f : α → α) (v : α) (b l : Nat) : Prop := 0 < l ∧ ∀ i j, i < j → (it f i v = it f j v ↔ b ≤ i ∧ l ∣ j - i)
theorem it_back {b l : Nat} (h : it f (b + l) v = it f b v) : ∀ k i, b ≤ i → it f (i + l * k) v = it f i v
  | 0, i, _ => by rw [Nat.mul_zero, Nat.add_zero]
  | k + 1, i, hi => by
    rw [show i + l * (k + 1) = (i + l * k - b) + (b + l) by rw [Nat.mul_add]; omega, it_add, h, ← it_add, show i + l * k - b + b = i + l * k by omega]
    exact it_back h k i hi
theorem it_on {d i : Nat} (h : it f i v = it f (i + d) v) : ∀ k, it f (i + d * k) v = it f i v
  | 0 => by rw [Nat.mul_zero, Nat.add_zero]
  | k + 1 => by
    rw [show i + d * (k + 1) = d + (i + d * k) by rw [Nat.mul_add]; omega, it_add, it_on h k, ← it_add, Nat.add_comm]
    exact h.symm
theorem rho_of {b L K : Nat} (hL : 0 < L) (hLK : L ∣ K) (h1 : it f (b + L) v = it f b v) (h2 : ∀ c, c < b → it f (c + K) v ≠ it f c v) (h3 : ∀ d, 0 < d → it f (b + d) v = it f b v → L ∣ d) : Rho f v b L := by
  refine ⟨hL, fun i j hij => ⟨fun e => ?_, fun ⟨hi, ⟨k, hk⟩⟩ => ?_⟩⟩
  · obtain ⟨d, rfl⟩ : ∃ d, j = i + d := ⟨j - i, by omega⟩
    have hd : 0 < d := by omega
    obtain ⟨k, rfl⟩ := hLK
    have hb : b ≤ i := Nat.le_of_not_lt fun hlt => by
      refine h2 i hlt ?_
      have e1 := it_on e b
      have hbig : b ≤ i + d * b := by
        have := Nat.mul_le_mul_right b hd
        omega
      rw [show i + L * k = L * k + i by omega, it_add, ← e1, ← it_add, show L * k + (i + d * b) = i + d * b + L * k by omega]
      exact it_back h1 k _ hbig
    refine ⟨hb, ?_⟩
    rw [show i + d - i = d by omega]
    refine h3 d hd ?_
    obtain ⟨x, rfl⟩ : ∃ x, i = b + x := ⟨i - b, by omega⟩
    obtain ⟨t, ht⟩ : ∃ t, x + t = L * x := ⟨L * x - x, by
      have := Nat.mul_le_mul_right x hL
      omega⟩
    have e2 : it f (t + (b + x)) v = it f (t + (b + x + d)) v := by rw [it_add, e, ← it_add]
    have e3 : it f (t + (b + x)) v = it f b v := by rw [show t + (b + x) = b + L * x by omega]; exact it_back h1 x b (Nat.le_refl _)
    have e4 : it f (t + (b + x + d)) v = it f (b + d) v := by rw [show t + (b + x + d) = b + d + L * x by omega]; exact it_back h1 x _ (by omega)
    rw [← e4, ← e2, e3]
  · rw [show j = i + L * k by omega]
    exact (it_back h1 k i hi).symm
theorem per_mul {w : α} {a : Nat} (h : it f a w = w) : ∀ k, it f (a * k) w = w
  | 0 => by rw [Nat.mul_zero]; rfl
  | k + 1 => by rw [Nat.mul_succ, it_add, h]; exact per_mul h k
theorem per_gcd {w : α} {a b : Nat} : it f a w = w → it f b w = w → it f (Nat.gcd a b) w = w := by
  refine Nat.gcd.induction a b (fun n _ h => ?_) (fun m n hm ih h1 h2 => ?_)
  · rw [Nat.gcd_zero_left]; exact h
  · rw [Nat.gcd_rec]
    refine ih ?_ h1
    have e := Nat.mod_add_div n m
    rw [← e, it_add, per_mul h1] at h2
    exact h2
theorem least_per {w : α} {K L : Nat} {ds : List Nat} (hL : 0 < L) (hLK : L ∣ K) (h1 : it f L w = w) (hd : ∀ m, 1 < m → m ∣ K → ∃ q ∈ ds, 1 < q ∧ q ∣ m) (h2 : ∀ q ∈ ds, q ∣ L → it f (L / q) w ≠ w) {d : Nat} (h : it f d w = w) : L ∣ d := by
  have hg := per_gcd h1 h
  obtain ⟨m, hm⟩ := Nat.gcd_dvd_left L d
  generalize hge : Nat.gcd L d = g at hg hm
  have hm0 : 0 < m := Nat.pos_of_ne_zero fun e => by subst e; omega
  by_cases hm1 : m = 1
  · subst hm1
    rw [Nat.mul_one] at hm
    rw [hm, ← hge]
    exact Nat.gcd_dvd_right L d
  · exfalso
    obtain ⟨q, hq, hq1, ⟨r, hr⟩⟩ := hd m (by omega) (Nat.dvd_trans ⟨g, by rw [hm, Nat.mul_comm]⟩ hLK)
    refine h2 q hq ⟨g * r, by rw [hm, hr, Nat.mul_left_comm]⟩ ?_
    rw [hm, hr, Nat.mul_left_comm, Nat.mul_div_cancel_left _ (by omega)]
    exact per_mul hg r
theorem Rho.both {β γ : Type} {f' : β → β} {g' : γ → γ} {v' : β} {w' : γ} {b l b' l' : Nat} (h : Rho f' v' b l) (h' : Rho g' w' b' l') (e : ∀ i j, it f i v = it f j v ↔ it f' i v' = it f' j v' ∧ it g' i w' = it g' j w') : Rho f v (max b b') (Nat.lcm l l') := by
  refine ⟨Nat.lcm_pos h.1 h'.1, fun i j hij => ?_⟩
  rw [e, h.2 i j hij, h'.2 i j hij]
  constructor
  · rintro ⟨⟨x1, x2⟩, y1, y2⟩
    exact ⟨by omega, Nat.lcm_dvd x2 y2⟩
  · rintro ⟨x, y⟩
    exact ⟨⟨by omega, Nat.dvd_trans (Nat.dvd_lcm_left _ _) y⟩, by omega, Nat.dvd_trans (Nat.dvd_lcm_right _ _) y⟩
end
def Pm (q : Nat) : Prop := 1 < q ∧ ∀ d, d ∣ q → d = 1 ∨ d = q
theorem pm_exists : ∀ {n : Nat}, 1 < n → ∃ q, Pm q ∧ q ∣ n := by
  intro n
  induction n using Nat.strongRecOn with
  | ind n ih =>
    intro hn
    by_cases h : ∃ d, d ∣ n ∧ d ≠ 1 ∧ d ≠ n
    · obtain ⟨d, h1, h2, h3⟩ := h
      have hle := Nat.le_of_dvd (by omega) h1
      have h0 : d ≠ 0 := fun e => by subst e; have := Nat.eq_zero_of_zero_dvd h1; omega
      obtain ⟨q, p1, p2⟩ := ih d (by omega) (by omega)
      exact ⟨q, p1, Nat.dvd_trans p2 h1⟩
    · refine ⟨n, ⟨hn, fun d hd => ?_⟩, Nat.dvd_refl _⟩
      by_cases h1 : d = 1
      · exact .inl h1
      · by_cases h2 : d = n
        · exact .inr h2
        · exact absurd ⟨d, hd, h1, h2⟩ h
theorem pm_mul {q a b : Nat} (h : Pm q) (hd : q ∣ a * b) : q ∣ a ∨ q ∣ b := by
  rcases h.2 _ (Nat.gcd_dvd_left q a) with e | e
  · exact .inr (Nat.Coprime.dvd_of_dvd_mul_left e hd)
  · exact .inl (by rw [← e]; exact Nat.gcd_dvd_right q a)
theorem pm_pow {q a : Nat} (h : Pm q) : ∀ {k : Nat}, q ∣ a ^ k → q ∣ a
  | 0, hd => by
    rw [Nat.pow_zero] at hd
    have := Nat.le_of_dvd (by decide) hd
    have := h.1
    omega
  | k + 1, hd => by
    rw [Nat.pow_succ] at hd
    rcases pm_mul h hd with e | e
    · exact pm_pow h e
    · exact e
end K31

namespace K31
open PySem hiding rule
open PySem.Spec PyProof.Rows L2 DL FL RF NA
local macro_rules | `(tactic| walk_at "fl") => `(tactic| simp only [ap_var, ap_c, ap_un, ap_unV, ap_op, ap_opO, ap_fn, ap_nil, ap_cons, ap_tr, ap_b, ap_tand, ap_tor, ap_tnot, ap_and, ap_or, ap_not, ap_if, ap_chain, ap_tup, ap_lst, ap_lstO, ap_dictO, ap_frz, ap_sl, ap_no, ap_part, ap_mut, ap_call, ap_callK, ap_get, ap_dict, ap_isi, ap_rep, ap_listO, ap_seq, ap_iargs, ap_lc, ap_lcO, ap_yes, ap_sq, ap_ret, ap_drop, ap_sif, ap_nx, ap_bk, ap_ct, ap_asg, ap_setR, ap_runT, ap_bb0, ap_bbs, ap_bbn, ap_bbd, ap_bbc, ap_bbb, ap_sfrz, ap_setI, ap_setK, ap_for, ap_par, ap_asgT, ap_run, ap_see, ap_seeo, ap_seer, ap_getC, ap_setC, ap_sees0, ap_sees1, ap_parN, ap_view, ap_frza0, ap_frza, ap_frzc, ap_frzb, ap_frzd, ap_frzn, ap_call1, ap_c1o, ap_sar0, ap_sar1, ap_frv, ap_fro, ap_tgN, ap_tgT, fin_val, fin_own, fin_ref, fin_nx, bors_nil, bors_d, bors_b, R.bind_ok, ofO_some, ofB_some, ofOL_list, seeV, frV, vals, setAllF, wipeF, restF, callR, refsOf, argVs, putBack, setR2, setI, setK, ap_glt, ap_gle, ap_ggt, ap_gge, ap_gsub, ap_gadd, ap_gneg, ap_gix, ap_cutl, ap_cutt, ap_gtup, ap_glist, ap_glen, ap_gint, ap_gintb, ap_gabs, ap_gmax, ap_gmin, ap_isN, ap_notN, ap_geq, ap_gne, ap_eqi, ap_eqb, ap_eqs, ap_iol, ap_iot, ap_gtn, ap_gtb, ap_gti, ap_gtl, ap_gtt, ap_isn0, ap_isni, ap_isnl, ap_isnt, ap_revl, ap_revt, ap_enum, ap_zipl, ap_zipt, intsOf_map, boolsOf_map, ap_cellL, startF, List.map_cons, List.map_nil, List.length_cons, List.length_nil, List.replicate_succ, List.replicate_zero, List.cons_append, List.nil_append, List.append_nil, List.getElem?_cons_zero, List.getElem?_cons_succ, List.getElem?_nil, List.set_cons_zero, List.set_cons_succ, List.set_nil, Option.map_some, Option.map_none, Option.bind_some, Option.bind_none, Nat.reduceSub, Nat.reduceAdd, if_true, if_false, Bool.false_eq_true, reduceIte, true_and, and_true, Nat.sub_zero, Nat.zero_add, reduceCtorEq, List.nodup_nil, List.nodup_cons, List.not_mem_nil, not_false_eq_true, and_self, Bool.not_true, Bool.not_false, Bool.not_not, decide_true, decide_false, Nat.reduceLeDiff, atI0, atI1, req_true])
def Per (L : Int) (f : Int → Int) : Prop := ∀ i, f (i % L) = f i
theorem at_per {vs : List Int} : Per vs.length (at' vs) := fun i => by
  unfold at'
  rw [Int.emod_emod_of_dvd _ (Int.dvd_refl _)]
theorem at_nat {vs : List Int} {k : Nat} (h : k < vs.length) : at' vs k = vs[k] := by
  unfold at'
  rw [Int.emod_eq_of_lt (by omega) (by omega), Int.toNat_natCast, List.getElem?_eq_getElem h]
  rfl
theorem Per.same {L : Int} {f : Int → Int} (h : Per L f) {i j : Int} (d : L ∣ i - j) : f i = f j := by
  rw [← h i, ← h j]
  rw [Int.emod_eq_emod_iff_emod_sub_eq_zero.mpr (Int.emod_eq_zero_of_dvd d)]
theorem stepR_len {m : Int} {a : RF.Tm} {vs : List Int} : (stepR m a vs).length = vs.length := by simp [stepR]
theorem at_step {m : Int} {a : RF.Tm} {vs : List Int} (hn : vs ≠ []) (i : Int) : at' (stepR m a vs) i = T a (at' vs) i % m := by
  have hl : 0 < vs.length := List.length_pos_iff.mpr hn
  have h0 := Int.emod_nonneg i (show (vs.length : Int) ≠ 0 by omega)
  have h1 := Int.emod_lt_of_pos i (show (0 : Int) < vs.length by omega)
  have e : at' (stepR m a vs) i = at' (stepR m a vs) ((i % vs.length).toNat : Nat) := by
    rw [← at_per i, stepR_len, show (((i % vs.length).toNat : Nat) : Int) = i % vs.length by omega]
  rw [e, at_nat (by rw [stepR_len]; omega)]
  unfold stepR
  rw [List.getElem_map, List.getElem_range]
  congr 1
  unfold T
  refine ev_congr fun q _ => at_per.same ?_
  refine ⟨-(i / vs.length), ?_⟩
  have := Int.emod_add_mul_ediv i vs.length
  rw [Int.mul_neg]
  omega
theorem it_len {m : Int} {a : RF.Tm} {vs : List Int} : ∀ k, (it (stepR m a) k vs).length = vs.length
  | 0 => rfl
  | k + 1 => by
    show (stepR m a (it (stepR m a) k vs)).length = _
    rw [stepR_len, it_len k]
theorem it_ne {m : Int} {a : RF.Tm} {vs : List Int} (h : vs ≠ []) (k : Nat) : it (stepR m a) k vs ≠ [] := List.length_pos_iff.mp (by rw [it_len]; exact List.length_pos_iff.mpr h)
theorem md_mod {m x : Int} : Md m (x % m) x := ⟨-(x / m), by have := Int.emod_add_mul_ediv x m; rw [Int.mul_neg]; omega⟩
theorem it_at {m : Int} {a : RF.Tm} {vs : List Int} (hn : vs ≠ []) : ∀ (k : Nat) (i : Int), Md m (at' (it (stepR m a) k vs) i) (it (T a) k (at' vs) i)
  | 0, i => .refl
  | k + 1, i => by
    show Md m (at' (stepR m a (it (stepR m a) k vs)) i) _
    rw [at_step (it_ne hn k)]
    exact md_mod.trans (T_md (it_at hn k) i)
theorem stepR_pn {m : Int} (h0 : 0 < m) {a : RF.Tm} {vs : List Int} : Pn m (stepR m a vs) := fun x hx => by
  unfold stepR at hx
  obtain ⟨i, _, rfl⟩ := List.mem_map.mp hx
  exact ⟨Int.emod_nonneg _ (by omega), Int.emod_lt_of_pos _ h0⟩
theorem it_pn {m : Int} (h0 : 0 < m) {a : RF.Tm} {vs : List Int} (h : Pn m vs) : ∀ k, Pn m (it (stepR m a) k vs)
  | 0 => h
  | k + 1 => stepR_pn h0
theorem row_ext {m : Int} {v w : List Int} (hv : Pn m v) (hw : Pn m w) (hl : v.length = w.length) (h : ∀ i : Nat, i < v.length → Md m (at' v i) (at' w i)) : v = w := by
  refine List.ext_getElem hl fun i h1 h2 => ?_
  have e := h i h1
  rw [at_nat h1, at_nat h2] at e
  obtain ⟨a0, a1⟩ := hv _ (List.getElem_mem h1)
  obtain ⟨b0, b1⟩ := hw _ (List.getElem_mem h2)
  have e2 : v[i] % m = w[i] % m := Int.emod_eq_emod_iff_emod_sub_eq_zero.mpr (Int.emod_eq_zero_of_dvd e)
  rw [Int.emod_eq_of_lt a0 a1, Int.emod_eq_of_lt b0 b1] at e2
  exact e2
theorem str_one {a : RF.Tm} : str 1 a = a := by
  unfold str
  rw [List.map_congr_left (g := id) fun q _ => by rw [Int.mul_one]; rfl, List.map_id]
theorem str_str {a : RF.Tm} {s t : Int} : str t (str s a) = str (s * t) a := by
  unfold str
  rw [List.map_map]
  exact List.map_congr_left fun q _ => by simp [Int.mul_assoc]
theorem str_fac {a : RF.Tm} {s P : Int} (h : ∀ q ∈ a, 0 ≤ q.2 ∧ q.2 < P) : ∀ q ∈ str s a, 0 ≤ q.2 ∧ q.2 < P := fun q hq => by
  unfold str at hq
  obtain ⟨p, hp, rfl⟩ := List.mem_map.mp hq
  exact h p hp
theorem frobs {P : Nat} (hP : P ∈ [2, 3, 5, 7, 11, 13]) {a : RF.Tm} (ha : ∀ q ∈ a, 0 ≤ q.2 ∧ q.2 < (P : Int)) : ∀ (j : Nat) (F : Int → Int) (i : Int), Md P (it (T a) (P ^ j) F i) (T (str ((P : Int) ^ j) a) F i)
  | 0, F, i => by
    rw [Nat.pow_zero, Int.pow_zero, str_one]
    exact .refl
  | j + 1, F, i => by
    have ih := frobs hP ha j
    have gen : ∀ k i, Md P (it (it (T a) (P ^ j)) k F i) (it (T (str ((P : Int) ^ j) a)) k F i) := fun k => by
      induction k with
      | zero => exact fun _ => .refl
      | succ k ihk => exact fun i => (ih _ i).trans (T_md ihk i)
    rw [Nat.pow_succ, Nat.mul_comm, it_mul, Int.pow_succ, ← str_str]
    exact (gen P i).trans (frob hP (str_fac ha) F i)
theorem str_per {n : Int} {F : Int → Int} (h : Per n F) {s t : Int} (d : n ∣ s - t) {a : RF.Tm} {i : Int} : T (str s a) F i = T (str t a) F i := by
  have key : ∀ s, T (str s a) F i = ev a fun o => F (i + o * s) := fun s => by
    induction a with
    | nil => rfl
    | cons q a ih =>
      rw [str_cons, T_cons, ih, ev_cons]
  rw [key, key]
  refine ev_congr fun q _ => h.same ?_
  obtain ⟨k, hk⟩ := d
  exact ⟨q.1 * k, by grind⟩
theorem big_step {P : Nat} (hP : P ∈ [2, 3, 5, 7, 11, 13]) {a : RF.Tm} (ha : ∀ q ∈ a, 0 ≤ q.2 ∧ q.2 < (P : Int)) {vs : List Int} (hv : Pn P vs) (hn : vs ≠ []) {s : Int} {j : Nat} (hs : (vs.length : Int) ∣ s - (P : Int) ^ j) :
    stepR P (str s a) vs = it (stepR P a) (P ^ j) vs := by
  have P0 : (0 : Int) < P := by
    simp only [List.mem_cons, List.not_mem_nil, or_false] at hP
    omega
  refine row_ext (stepR_pn P0) (it_pn P0 hv _) (by rw [stepR_len, it_len]) fun i _ => ?_
  rw [at_step hn, str_per at_per hs]
  exact md_mod.trans ((frobs hP ha j _ _).symm.trans (it_at hn _ _).symm)
theorem ring_again {P : Nat} (hP : P ∈ [2, 3, 5, 7, 11, 13]) {a : RF.Tm} (ha : ∀ q ∈ a, 0 ≤ q.2 ∧ q.2 < (P : Int)) {vs : List Int} (hv : Pn P vs) (hn : vs ≠ []) {x y : Nat} (hd : (vs.length : Int) ∣ (P : Int) ^ (x + y) - (P : Int) ^ x) :
    it (stepR P a) (P ^ (x + y)) vs = it (stepR P a) (P ^ x) vs := by
  rw [← big_step hP ha hv hn hd, ← big_step hP ha hv hn (j := x + y) (s := (P : Int) ^ (x + y)) ⟨0, by omega⟩]
end K31

namespace K31
open PySem hiding rule
open PySem.Spec PyProof.Rows L2 DL FL RF NA
local macro_rules | `(tactic| walk_at "fl") => `(tactic| simp only [ap_var, ap_c, ap_un, ap_unV, ap_op, ap_opO, ap_fn, ap_nil, ap_cons, ap_tr, ap_b, ap_tand, ap_tor, ap_tnot, ap_and, ap_or, ap_not, ap_if, ap_chain, ap_tup, ap_lst, ap_lstO, ap_dictO, ap_frz, ap_sl, ap_no, ap_part, ap_mut, ap_call, ap_callK, ap_get, ap_dict, ap_isi, ap_rep, ap_listO, ap_seq, ap_iargs, ap_lc, ap_lcO, ap_yes, ap_sq, ap_ret, ap_drop, ap_sif, ap_nx, ap_bk, ap_ct, ap_asg, ap_setR, ap_runT, ap_bb0, ap_bbs, ap_bbn, ap_bbd, ap_bbc, ap_bbb, ap_sfrz, ap_setI, ap_setK, ap_for, ap_par, ap_asgT, ap_run, ap_see, ap_seeo, ap_seer, ap_getC, ap_setC, ap_sees0, ap_sees1, ap_parN, ap_view, ap_frza0, ap_frza, ap_frzc, ap_frzb, ap_frzd, ap_frzn, ap_call1, ap_c1o, ap_sar0, ap_sar1, ap_frv, ap_fro, ap_tgN, ap_tgT, fin_val, fin_own, fin_ref, fin_nx, bors_nil, bors_d, bors_b, R.bind_ok, ofO_some, ofB_some, ofOL_list, seeV, frV, vals, setAllF, wipeF, restF, callR, refsOf, argVs, putBack, setR2, setI, setK, ap_glt, ap_gle, ap_ggt, ap_gge, ap_gsub, ap_gadd, ap_gneg, ap_gix, ap_cutl, ap_cutt, ap_gtup, ap_glist, ap_glen, ap_gint, ap_gintb, ap_gabs, ap_gmax, ap_gmin, ap_isN, ap_notN, ap_geq, ap_gne, ap_eqi, ap_eqb, ap_eqs, ap_iol, ap_iot, ap_gtn, ap_gtb, ap_gti, ap_gtl, ap_gtt, ap_isn0, ap_isni, ap_isnl, ap_isnt, ap_revl, ap_revt, ap_enum, ap_zipl, ap_zipt, intsOf_map, boolsOf_map, ap_cellL, startF, List.map_cons, List.map_nil, List.length_cons, List.length_nil, List.replicate_succ, List.replicate_zero, List.cons_append, List.nil_append, List.append_nil, List.getElem?_cons_zero, List.getElem?_cons_succ, List.getElem?_nil, List.set_cons_zero, List.set_cons_succ, List.set_nil, Option.map_some, Option.map_none, Option.bind_some, Option.bind_none, Nat.reduceSub, Nat.reduceAdd, if_true, if_false, Bool.false_eq_true, reduceIte, true_and, and_true, Nat.sub_zero, Nat.zero_add, reduceCtorEq, List.nodup_nil, List.nodup_cons, List.not_mem_nil, not_false_eq_true, and_self, Bool.not_true, Bool.not_false, Bool.not_not, decide_true, decide_false, Nat.reduceLeDiff, atI0, atI1, req_true])
def Bd (n : Int) (B : Int) (t : RF.Tm) : Prop := ∀ p ∈ t, 0 ≤ p.1 ∧ p.1 < n ∧ 0 ≤ p.2 ∧ p.2 ≤ B
theorem tput_mem {t : RF.Tm} {k v : Int} {p : Int × Int} (h : p ∈ tput t k v) : p ∈ t ∨ p = (k, v) := by
  unfold tput at h
  split at h
  · obtain ⟨q, hq, e⟩ := List.mem_map.mp h
    split at e
    · next e1 => exact .inr (by rw [← e, e1])
    · exact .inl (by rw [← e]; exact hq)
  · rcases List.mem_append.mp h with h | h
    · exact .inl h
    · exact .inr (List.mem_singleton.mp h)
theorem Bd.get {n B : Int} {t : RF.Tm} (h : Bd n B t) (h0 : 0 ≤ B) (k : Int) : 0 ≤ (tget t k).getD 0 ∧ (tget t k).getD 0 ≤ B := by
  unfold tget
  cases e : t.find? fun p => decide (p.1 = k) with
  | none => exact ⟨Int.le_refl _, h0⟩
  | some p => exact (h p (List.mem_of_find?_eq_some e)).2.2
theorem Bd.put {n B : Int} {t : RF.Tm} (h : Bd n B t) (h0 : 0 ≤ B) {k v : Int} (k0 : 0 ≤ k) (k1 : k < n) (v0 : 0 ≤ v) (v1 : v ≤ 13) : Bd n (B + 13) (tput t k ((tget t k).getD 0 + v)) := fun p hp => by
  have g := h.get h0 k
  rcases tput_mem hp with hp | rfl
  · have := h p hp
    omega
  · exact ⟨k0, k1, by show 0 ≤ _ + v; omega, by show _ + v ≤ _; omega⟩
theorem loop_shares {x0 x1 x3 : Option FV} {s n : Int} (n0 : 0 < n) (n1 : n < 2 ^ 20) (s1 : s.natAbs < 2 ^ 20) : ∀ (l t : RF.Tm) (k : Nat) (F : (Int → Int) → Int) (y z u : Option FV), bb y = false → bb z = false → bb u = false → Tb t k F → Bd n (13 * k) t → (∀ q ∈ l, q.1.natAbs < 2 ^ 20 ∧ 0 ≤ q.2 ∧ q.2 ≤ 13) → k + l.length ≤ 1000 →
    ∃ t' y' z' u', fsGo (tgT [6, 7]) lb_stepped_1 (l.map pr) [x0, x1, some (.d (.int s)), x3, some (.d (.int n)), some (.c (.dct (tbk t))), y, z, u, none, none, none, none]
      = .ok .nx [x0, x1, some (.d (.int s)), x3, some (.d (.int n)), some (.c (.dct (tbk t'))), y', z', u', none, none, none, none] ∧ Tb t' (k + l.length) (fun f => F f + ev l fun o => f (o * s % n)) ∧ Bd n (13 * (k + l.length : Nat)) t' ∧ bb y' = false ∧ bb z' = false ∧ bb u' = false
  | [], t, k, F, y, z, u, hy, hz, hu, h, hb, _, _ => ⟨t, y, z, u, rfl, h.to (by simp) (fun f => by simp [ev]), hb, hy, hz, hu⟩
  | q :: l, t, k, F, y, z, u, hy, hz, hu, h, hb, hq, hl => by
    simp only [List.length_cons] at hl
    obtain ⟨q1, q2, q3⟩ := hq q List.mem_cons_self
    have a0 := Int.emod_nonneg (q.1 * s) (show n ≠ 0 by omega)
    have a1 := Int.emod_lt_of_pos (q.1 * s) n0
    have hb' := hb.put (by omega) a0 a1 q2 q3
    obtain ⟨t', y', z', u', e, ht, hbt, b1, b2, b3⟩ := loop_shares (x0 := x0) (x1 := x1) (x3 := x3) n0 n1 s1 l _ (k + 1) _ (some (.d (.int q.1))) (some (.d (.int q.2))) (some (.d (.int (q.1 * s % n)))) rfl rfl rfl (h.put (q.1 * s % n) q.2)
      (by rw [show (13 : Int) * ((k + 1 : Nat) : Int) = 13 * k + 13 by omega]; exact hb') (fun x hx => hq x (List.mem_cons_of_mem _ hx)) (by omega)
    refine ⟨t', y', z', u', ?_, ht.to (by simp only [List.length_cons]; omega) fun f => by rw [ev_cons]; omega, by rw [List.length_cons, show k + (l.length + 1) = k + 1 + l.length by omega]; exact hbt, b1, b2, b3⟩
    have hlt : (tbk t).length < 900000 := by rw [tbk_len]; have := h.ln; omega
    have hm := g_mul (bits_small (v := q.1) (c := s) q1 s1)
    rw [List.map_cons]
    refine (go_nx ?_).trans e
    unfold lb_stepped_1 pr
    repeat first | simp only [kvs_tbk, key_int, tb_get, tb_put, hlt, hy, hz, hu, hm, g_mod n0] | walk_at "fl"
theorem item_tbk {t : RF.Tm} : itemD (tbk t) = t.map pr := by
  unfold itemD tbk
  rw [List.map_map]
  rfl
def maF (f : Int) : PyData → PyData
  | .tuple [.int x, .int y] => .int (x + f * y)
  | _ => .none
theorem maF_zip {f : Int} : ∀ {ws us : List Int}, (zipD (iv ws) (iv us)).map (maF f) = iv (List.zipWith (fun x y => x + f * y) ws us)
  | [], _ => by simp [iv, zipD]
  | _ :: _, [] => by simp [iv, zipD]
  | x :: ws, y :: us => by
    have ih := maF_zip (f := f) (ws := ws) (us := us)
    simp only [iv, List.map_cons, zipD, List.zipWith_cons_cons] at ih ⊢
    rw [ih]
    rfl
def sumR (t : RF.Tm) (vs : List Int) : List Int := (List.range vs.length).map fun (i : Nat) => ev t fun o => at' vs ((i : Int) + o)
theorem sumR_len {t : RF.Tm} {vs : List Int} : (sumR t vs).length = vs.length := by simp [sumR]
theorem rot_get {vs : List Int} {k i : Nat} (hk : k < vs.length) (hi : i < vs.length) : (vs.drop k ++ vs.take k)[i]? = some (at' vs ((i : Int) + (k : Int))) := by
  unfold at'
  by_cases h : i + k < vs.length
  · rw [List.getElem?_append_left (by rw [List.length_drop]; omega), List.getElem?_drop, Int.emod_eq_of_lt (by omega) (by omega), show ((i : Int) + (k : Int)).toNat = k + i by omega, List.getElem?_eq_getElem (by omega)]
    rfl
  · have e : ((i : Int) + (k : Int)) % (vs.length : Int) = ((i + k - vs.length : Nat) : Int) := by
      rw [show (i : Int) + (k : Int) = ((i + k - vs.length : Nat) : Int) + (vs.length : Int) by omega, Int.add_emod_right, Int.emod_eq_of_lt (by omega) (by omega)]
    rw [List.getElem?_append_right (by rw [List.length_drop]; omega), List.length_drop, List.getElem?_take_of_lt (by omega), e, Int.toNat_natCast, show i - (vs.length - k) = i + k - vs.length by omega, List.getElem?_eq_getElem (by omega)]
    rfl
theorem sumR_add {t : RF.Tm} {vs : List Int} {k : Nat} {f : Int} (hk : k < vs.length) : List.zipWith (fun x y => x + f * y) (sumR t vs) (vs.drop k ++ vs.take k) = sumR (t ++ [((k : Int), f)]) vs := by
  refine List.ext_getElem? fun i => ?_
  rw [List.getElem?_zipWith]
  by_cases hi : i < vs.length
  · rw [rot_get hk hi]
    unfold sumR
    rw [List.getElem?_map, List.getElem?_map, List.getElem?_range hi]
    simp only [Option.map_some]
    congr 1
    have app : ∀ (a : RF.Tm) (g : Int → Int), ev (a ++ [((k : Int), f)]) g = ev a g + f * g k := fun a g => by
      induction a with
      | nil => rw [List.nil_append, ev_cons, ev_nil]; dsimp only; omega
      | cons q a ih => rw [List.cons_append, ev_cons, ih, ev_cons]; omega
    rw [app]
  · have h1 : (sumR t vs)[i]? = none := List.getElem?_eq_none (by rw [sumR_len]; omega)
    have h2 : (sumR (t ++ [((k : Int), f)]) vs)[i]? = none := List.getElem?_eq_none (by rw [sumR_len]; omega)
    rw [h1, h2]
theorem sumR_nil {vs : List Int} : sumR [] vs = List.replicate vs.length 0 := by
  refine List.ext_getElem (by simp [sumR]) fun i h1 h2 => ?_
  rw [List.getElem_replicate]
  simp only [sumR, List.getElem_map, ev_nil]
theorem cut_take' {r : List Int} {k : Nat} (h : k ≤ r.length) : DL.cutD (iv r) none (some (k : Int)) = iv (r.take k) := by
  unfold DL.cutD
  rw [HT.sIx_none, HT.sIx_nat, iv_len, Nat.min_eq_left h, List.drop_zero, Nat.sub_zero]
  unfold iv
  rw [List.map_take]
theorem gadd_l {xs ys : List PyData} (h : xs.length + ys.length ≤ 900000) : FL.gAdd (.list xs) (.list ys) = some (.list (xs ++ ys)) := req_pos h
theorem loop_moved {vs : List Int} {x0 x2 x3 x4 x5 : Option FV} (hl : vs.length ≤ 1000) (hv : ∀ x ∈ vs, x.natAbs < 2 ^ 20) : ∀ (l t : RF.Tm) (y6 y7 y8 z : Option FV), bb y7 = false → bb y8 = false → bb z = false → Bd vs.length (2 ^ 18) l →
    ∃ y7' y8' z', fsGo (tgT [8, 7]) lb_stepped_2 (l.map pr) [x0, some (.d (.list (iv vs))), x2, x3, x4, x5, y6, y7, y8, some (.d (.list (iv (sumR t vs)))), z, none, none]
      = .ok .nx [x0, some (.d (.list (iv vs))), x2, x3, x4, x5, y6, y7', y8', some (.d (.list (iv (sumR (t ++ l) vs)))), z', none, none]
  | [], t, y6, y7, y8, z, _, _, _, _ => ⟨y7, y8, z, by rw [List.append_nil]; rfl⟩
  | q :: l, t, y6, y7, y8, z, h7, h8, hz, hb => by
    obtain ⟨q0, q1, q2, q3⟩ := hb q List.mem_cons_self
    obtain ⟨k, f⟩ := q
    obtain ⟨k, rfl⟩ := Int.eq_ofNat_of_zero_le q0
    have hk : k < vs.length := by simp at q1; omega
    obtain ⟨y7', y8', z', e⟩ := loop_moved (x0 := x0) (x2 := x2) (x3 := x3) (x4 := x4) (x5 := x5) hl hv l (t ++ [((k : Int), f)]) y6 (some (.d (.int f))) (some (.d (.int (k : Int)))) (some (.d (.list (iv (vs.drop k ++ vs.take k))))) rfl rfl rfl (fun x hx => hb x (List.mem_cons_of_mem _ hx))
    rw [List.append_assoc] at e
    refine ⟨y7', y8', z', ?_⟩
    rw [List.map_cons]
    refine (go_nx ?_).trans e
    have c1 := NA.cut_drop (r := vs) (k := k) (by omega)
    have c2 := cut_take' (r := vs) (k := k) (by omega)
    have ea : FL.gAdd (.list (iv (vs.drop k))) (.list (iv (vs.take k))) = some (.list (iv (vs.drop k ++ vs.take k))) := (gadd_l (by rw [iv_len, iv_len, List.length_drop, List.length_take]; omega)).trans (by unfold iv; rw [List.map_append])
    have gz : gZip [.list (iv (sumR t vs)), .list (iv (vs.drop k ++ vs.take k))] = some (zipD (iv (sumR t vs)) (iv (vs.drop k ++ vs.take k))) := rfl
    have hf : f.natAbs < 2 ^ 20 := by simp at q2 q3; omega
    have hlc : ∀ y8 y9 y10 : Option FV, fLcGo (tgT [11, 12]) fYes (fOp gAdd (fVar 11) (fOp gMul (fVar 7) (fVar 12))) [11, 12] (zipD (iv (sumR t vs)) (iv (vs.drop k ++ vs.take k))) [] [x0, some (.d (.list (iv vs))), x2, x3, x4, x5, y6, some (.d (.int f)), y8, y9, y10, none, none]
        = .ok (iv (sumR (t ++ [((k : Int), f)]) vs)) [x0, some (.d (.list (iv vs))), x2, x3, x4, x5, y6, some (.d (.int f)), y8, y9, y10, none, none] := fun y8 y9 y10 => by
      rw [← sumR_add hk, ← maF_zip, lc_all (maF f) (by have := zipD_len (iv (sumR t vs)) (iv (vs.drop k ++ vs.take k)); rw [iv_len, sumR_len] at this; omega)]
      intro d hd
      obtain ⟨x, y, hx, hy, rfl⟩ := zip_mem _ _ _ hd
      obtain ⟨i, hi, rfl⟩ := iv_mem hx
      obtain ⟨j, hj, rfl⟩ := iv_mem hy
      have hj2 : j ∈ vs := by
        rcases List.mem_append.mp hj with h | h
        · exact List.mem_of_mem_drop h
        · exact List.mem_of_mem_take h
      refine ⟨_, rfl, by walk_at "fl", ?_⟩
      repeat first | simp only [maF, g_add, g_mul (bits_small (v := f) (c := j) hf (hv j hj2))] | walk_at "fl"
    unfold lb_stepped_2 pr
    repeat first | simp only [h7, h8, hz, c1, c2, ea, gz, hlc] | walk_at "fl"
theorem map_mod {P : Int} (h0 : 0 < P) {vs : List Int} (hl : vs.length ≤ 1000) {x0 x1 x2 x3 x4 x5 x6 x7 x8 x9 x10 : Option FV} : ∀ (ws : List Int), ws.length ≤ 1000 → fLcGo (tgN 11) fYes (fOp gMod (fVar 11) (fVar 3)) [11] (iv ws) [] [x0, x1, x2, some (.d (.int P)), x4, x5, x6, x7, x8, x9, x10, none, none]
    = .ok (iv (ws.map fun x => x % P)) [x0, x1, x2, some (.d (.int P)), x4, x5, x6, x7, x8, x9, x10, none, none] := fun ws hw => by
  rw [lc_all (fun d => match d with
      | .int x => .int (x % P)
      | _ => .none) (by rw [iv_len]; omega)]
  · congr 1
    simp [iv, Function.comp_def]
  · intro d hd
    obtain ⟨z, hz, rfl⟩ := iv_mem hd
    refine ⟨_, rfl, by walk_at "fl", ?_⟩
    repeat first | simp only [g_mod h0] | walk_at "fl"
theorem zeros {n : Nat} (hn : n ≤ 1000) (x0 x1 x2 x3 x5 x6 x7 x8 : Option FV) : frz (fRep (fLstO (faCons (fC (.int 0)) faNil)) (fVar 4)) [x0, x1, x2, x3, some (.d (.int n)), x5, x6, x7, x8, none, none, none, none]
    = .ok (.val (.list (iv (List.replicate n 0)))) [x0, x1, x2, x3, some (.d (.int n)), x5, x6, x7, x8, none, none, none, none] := by
  have t1 : fLstO (faCons (fC (.int 0)) faNil) [x0, x1, x2, x3, some (.d (.int n)), x5, x6, x7, x8, none, none, none, none] = .ok (.own (.lst [.int 0])) [x0, x1, x2, x3, some (.d (.int n)), x5, x6, x7, x8, none, none, none, none] := by walk_at "fl"
  have t2 : fVar 4 [x0, x1, x2, x3, some (.d (.int n)), x5, x6, x7, x8, none, none, none, none] = .ok (.val (.int (n : Int))) [x0, x1, x2, x3, some (.d (.int n)), x5, x6, x7, x8, none, none, none, none] := by walk_at "fl"
  rw [ap_frz, ap_rep, t1, R.bind_ok, t2, R.bind_ok]
  show R.bind (repR (some [.int 0]) (some (.int (n : Int))) _) _ = _
  rw [repR_ok' (by omega) (by omega) (by rw [Int.toNat_natCast, List.length_singleton]; omega), Int.toNat_natCast, flat_rep, rep_iv, R.bind_ok]
  rfl
theorem e_stepped {a : RF.Tm} {vs : List Int} {s P : Int} (hP : 2 ≤ P ∧ P ≤ 13) (hn : vs ≠ []) (hl : vs.length ≤ 1000) (hv : Pn P vs) (s1 : s.natAbs < 2 ^ 20) (ha : ∀ q ∈ a, q.1.natAbs < 2 ^ 20 ∧ 0 ≤ q.2 ∧ q.2 ≤ 13) (la : a.length ≤ 1000) :
    F_stepped [.d (tm a), .d (.list (iv vs)), .d (.int s), .d (.int P)] = .ok (.own (.lst (iv (stepR P (str s a) vs)))) [] := by
  have hp : 0 < vs.length := List.length_pos_iff.mpr hn
  obtain ⟨t, y, z, u, e1, ht, hb, by', bz, bu⟩ := loop_shares (x0 := some (.d (tm a))) (x1 := some (.d (.list (iv vs)))) (x3 := some (.d (.int P))) (n := vs.length) (by omega) (by omega) s1 a [] 0 _ none none none rfl rfl rfl .nil (fun p h => by cases h) ha (by omega)
  obtain ⟨y7, y8, z', e2⟩ := loop_moved (vs := vs) (x0 := some (.d (tm a))) (x2 := some (.d (.int s))) (x3 := some (.d (.int P))) (x4 := some (.d (.int vs.length))) (x5 := some (.d (cellD (.dct (tbk t))))) hl (fun x hx => by have := hv x hx; omega) t [] y z u none bz bu rfl (fun p h => by have := hb p h; omega)
  rw [List.nil_append] at e2
  rw [sumR_nil] at e2
  rw [← dict_nil] at e1
  have e3 : (sumR t vs).map (fun x => x % P) = stepR P (str s a) vs := by
    unfold sumR stepR
    rw [List.map_map]
    refine List.map_congr_left fun i _ => ?_
    show ev t _ % P = _ % P
    congr 1
    rw [ht.ev]
    have key : ∀ b : RF.Tm, (ev b fun o => at' vs ((i : Int) + o * s % (vs.length : Int))) = ev (str s b) fun o => at' vs ((i : Int) + o) := fun b => by
      induction b with
      | nil => rfl
      | cons q b ih =>
        rw [ev_cons, str_cons, ev_cons, ih]
        congr 2
        refine at_per.same ?_
        refine ⟨-(q.1 * s / vs.length), ?_⟩
        have := Int.emod_add_mul_ediv (q.1 * s) vs.length
        rw [Int.mul_neg]
        show (i : Int) + _ - ((i : Int) + q.1 * s) = _
        omega
    show 0 + _ = _
    rw [Int.zero_add]
    exact key a
  have e4 := fun x0 x1 x2 x4 x5 x6 x7 x8 x9 x10 => map_mod (P := P) (by omega) hl (x0 := x0) (x1 := x1) (x2 := x2) (x3 := none) (x4 := x4) (x5 := x5) (x6 := x6) (x7 := x7) (x8 := x8) (x9 := x9) (x10 := x10) (sumR t vs) (by rw [sumR_len]; exact hl)
  rw [e3] at e4
  have e0 := zeros (n := vs.length) hl (some (.d (tm a))) (some (.d (.list (iv vs)))) (some (.d (.int s))) (some (.d (.int P))) (some (.c (.dct (tbk t)))) y z u
  have lv : (iv vs).length = vs.length := iv_len
  unfold F_stepped fb_stepped
  unfold tm at e1 e2 e0 ⊢
  have eit := item_tbk (t := t)
  generalize hW : frz (fRep (fLstO (faCons (fC (.int 0)) faNil)) (fVar 4)) = W at e0 ⊢
  repeat first | simp only [lv, e1, e0, ap_items, kvs_tbk, eit, e2, e4] | walk_at "fl"
end K31

namespace K31
open PySem hiding rule
open PySem.Spec PyProof.Rows L2 DL FL RF NA
local macro_rules | `(tactic| walk_at "fl") => `(tactic| simp only [ap_var, ap_c, ap_un, ap_unV, ap_op, ap_opO, ap_fn, ap_nil, ap_cons, ap_tr, ap_b, ap_tand, ap_tor, ap_tnot, ap_and, ap_or, ap_not, ap_if, ap_chain, ap_tup, ap_lst, ap_lstO, ap_dictO, ap_frz, ap_sl, ap_no, ap_part, ap_mut, ap_call, ap_callK, ap_get, ap_dict, ap_isi, ap_rep, ap_listO, ap_seq, ap_iargs, ap_lc, ap_lcO, ap_yes, ap_sq, ap_ret, ap_drop, ap_sif, ap_nx, ap_bk, ap_ct, ap_asg, ap_setR, ap_runT, ap_bb0, ap_bbs, ap_bbn, ap_bbd, ap_bbc, ap_bbb, ap_sfrz, ap_setI, ap_setK, ap_for, ap_par, ap_asgT, ap_run, ap_see, ap_seeo, ap_seer, ap_getC, ap_setC, ap_sees0, ap_sees1, ap_parN, ap_view, ap_frza0, ap_frza, ap_frzc, ap_frzb, ap_frzd, ap_frzn, ap_call1, ap_c1o, ap_sar0, ap_sar1, ap_frv, ap_fro, ap_tgN, ap_tgT, fin_val, fin_own, fin_ref, fin_nx, bors_nil, bors_d, bors_b, R.bind_ok, ofO_some, ofB_some, ofOL_list, seeV, frV, vals, setAllF, wipeF, restF, callR, refsOf, argVs, putBack, setR2, setI, setK, ap_glt, ap_gle, ap_ggt, ap_gge, ap_gsub, ap_gadd, ap_gneg, ap_gix, ap_cutl, ap_cutt, ap_gtup, ap_glist, ap_glen, ap_gint, ap_gintb, ap_gabs, ap_gmax, ap_gmin, ap_isN, ap_notN, ap_geq, ap_gne, ap_eqi, ap_eqb, ap_eqs, ap_iol, ap_iot, ap_gtn, ap_gtb, ap_gti, ap_gtl, ap_gtt, ap_isn0, ap_isni, ap_isnl, ap_isnt, ap_revl, ap_revt, ap_enum, ap_zipl, ap_zipt, intsOf_map, boolsOf_map, ap_cellL, startF, List.map_cons, List.map_nil, List.length_cons, List.length_nil, List.replicate_succ, List.replicate_zero, List.cons_append, List.nil_append, List.append_nil, List.getElem?_cons_zero, List.getElem?_cons_succ, List.getElem?_nil, List.set_cons_zero, List.set_cons_succ, List.set_nil, Option.map_some, Option.map_none, Option.bind_some, Option.bind_none, Nat.reduceSub, Nat.reduceAdd, if_true, if_false, Bool.false_eq_true, reduceIte, true_and, and_true, Nat.sub_zero, Nat.zero_add, reduceCtorEq, List.nodup_nil, List.nodup_cons, List.not_mem_nil, not_false_eq_true, and_self, Bool.not_true, Bool.not_false, Bool.not_not, decide_true, decide_false, Nat.reduceLeDiff, atI0, atI1, req_true])
theorem ap_augA {i : Nat} {fe : FT} {ε : FSt} : fsAugAdd i fe ε = match ε[i]? with
  | some (some (.d (.int x))) => (fe ε).bind fun r ε1 => match r with
    | .val (.int y) => setR i (.val (.int (x + y))) ε1
    | _ => .no
  | _ => .no := rfl
structure Ta (P : Nat) (a : RF.Tm) : Prop where
  pr : P ∈ [2, 3, 5, 7, 11, 13]
  fac : ∀ q ∈ a, 0 ≤ q.2 ∧ q.2 < (P : Int)
  sm : ∀ q ∈ a, q.1.natAbs < 2 ^ 20
  ln : a.length ≤ 1000
theorem Ta.pb {P : Nat} {a : RF.Tm} (h : Ta P a) : 2 ≤ P ∧ P ≤ 13 := by
  have := h.pr
  simp only [List.mem_cons, List.not_mem_nil, or_false] at this
  omega
structure Rw (P : Nat) (n : Nat) (w : List Int) : Prop where
  pn : Pn P w
  ln : w.length = n
  n0 : 0 < n
  n1 : n ≤ 1000
theorem Rw.ne {P n : Nat} {w : List Int} (h : Rw P n w) : w ≠ [] := List.length_pos_iff.mp (by rw [h.ln]; exact h.n0)
theorem Rw.it {P n : Nat} {w : List Int} {a : RF.Tm} (h : Rw P n w) (hP : 2 ≤ P) (k : Nat) : Rw P n (it (stepR P a) k w) := ⟨it_pn (by omega) h.pn k, by rw [it_len, h.ln], h.n0, h.n1⟩
theorem Ta.step {P n : Nat} {a : RF.Tm} {w : List Int} {s : Int} (h : Ta P a) (hw : Rw P n w) (s1 : s.natAbs < 2 ^ 20) : F_stepped [.d (tm a), .d (.list (iv w)), .d (.int s), .d (.int P)] = .ok (.own (.lst (iv (stepR P (str s a) w)))) [] := by
  have pb := h.pb
  exact e_stepped (by omega) hw.ne (by rw [hw.ln]; exact hw.n1) hw.pn s1 (fun q hq => by have := h.fac q hq; have := h.sm q hq; omega) h.ln
theorem Ta.step1 {P n : Nat} {a : RF.Tm} {w : List Int} (h : Ta P a) (hw : Rw P n w) : F_stepped [.d (tm a), .d (.list (iv w)), .d (.int 1), .d (.int P)] = .ok (.own (.lst (iv (stepR P a w)))) [] := by
  have := h.step hw (s := 1) (by decide)
  rwa [str_one] at this
theorem loop_do {P n j : Nat} {a : RF.Tm} {s : Int} {x1 : Option FV} (h : Ta P a) (s1 : s.natAbs < 2 ^ 20) (hs : (n : Int) ∣ s - (P : Int) ^ j) : ∀ (ds : List PyData) (w : List Int) (z : Option FV), Rw P n w → bb z = false →
    ∃ z', fsGo (tgN 5) lb_done_often_2 ds [some (.d (tm a)), x1, some (.d (.list (iv w))), some (.d (.int P)), some (.d (.int s)), z]
      = .ok .nx [some (.d (tm a)), x1, some (.d (.list (iv (it (stepR P a) (ds.length * P ^ j) w)))), some (.d (.int P)), some (.d (.int s)), z'] ∧ bb z' = false
  | [], w, z, _, hz => ⟨z, by rw [List.length_nil, Nat.zero_mul]; rfl, hz⟩
  | d :: ds, w, z, hw, hz => by
    have e1 := h.step hw s1
    have e2 := big_step h.pr h.fac hw.pn hw.ne (s := s) (j := j) (by rw [hw.ln]; exact hs)
    rw [e2] at e1
    obtain ⟨z', e, hz'⟩ := loop_do (x1 := x1) h s1 hs ds _ (some (.d d)) (hw.it h.pb.1 (P ^ j)) rfl
    rw [← it_add, show ds.length * P ^ j + P ^ j = (d :: ds).length * P ^ j by rw [List.length_cons, Nat.succ_mul]] at e
    refine ⟨z', (go_nx ?_).trans e, hz'⟩
    unfold lb_done_often_2
    repeat first | simp only [hz, e1] | walk_at "fl"
theorem range_nat {k : Nat} (hk : k ≤ 900000) : gRange1 [.int (k : Int)] = some (rangeD 0 k) := by
  rw [gRange1]
  exact (req_pos (by omega)).trans (by rw [Int.toNat_natCast])
theorem wh_do {P n : Nat} {a : RF.Tm} (h : Ta P a) : ∀ (t j : Nat) (s : Int) (w : List Int) (z : Option FV), Rw P n w → bb z = false → s.natAbs < 2 ^ 20 → (n : Int) ∣ s - (P : Int) ^ j →
    ∃ s' z', fsWhile (fTr (fVar 1)) lb_done_often_1 [some (.d (tm a)), some (.d (.int t)), some (.d (.list (iv w))), some (.d (.int P)), some (.d (.int s)), z]
      = .ok .nx [some (.d (tm a)), some (.d (.int 0)), some (.d (.list (iv (it (stepR P a) (t * P ^ j) w)))), some (.d (.int P)), s', z'] := by
  have pb := h.pb
  intro t
  induction t using Nat.strongRecOn with
  | ind t ih =>
    intro j s w z hw hz s1 hs
    by_cases h0 : t = 0
    · subst h0
      refine ⟨some (.d (.int s)), z, ?_⟩
      rw [fsWhile_turn, Nat.zero_mul]
      have e0 : (((0 : Nat) : Int) != 0) = false := rfl
      repeat first | simp only [e0] | walk_at "fl"
      rfl
    · have ht : (((t : Nat) : Int) != 0) = true := by simp; omega
      have lt := Nat.div_lt_self (n := t) (k := P) (by omega) (by omega)
      have n0 := hw.n0
      have n1 := hw.n1
      have g1 := Int.emod_nonneg (s * P) (show (n : Int) ≠ 0 by omega)
      have g2 := Int.emod_lt_of_pos (s * P) (show (0 : Int) < n by omega)
      obtain ⟨y, e1, hy⟩ := loop_do (x1 := some (.d (.int t))) h s1 hs (rangeD 0 (t % P)) w z hw hz
      have lr : (rangeD 0 (t % P)).length = t % P := by simp [rangeD]
      rw [lr] at e1
      obtain ⟨s', z', e2⟩ := ih (t / P) lt (j + 1) (s * P % n) _ y (hw.it pb.1 (t % P * P ^ j)) hy (by omega) (by
        obtain ⟨k, hk⟩ := hs
        refine ⟨k * P - s * P / n, ?_⟩
        have := Int.emod_add_mul_ediv (s * P) n
        rw [Int.pow_succ]
        grind)
      rw [← it_add, show t / P * P ^ (j + 1) + t % P * P ^ j = t * P ^ j by
        have := Nat.div_add_mod t P
        rw [Nat.pow_succ, show t / P * (P ^ j * P) = (P * (t / P)) * P ^ j by rw [Nat.mul_comm (P ^ j), ← Nat.mul_assoc, Nat.mul_comm (t / P)], ← Nat.add_mul, this]] at e2
      refine ⟨s', z', ?_⟩
      rw [fsWhile_turn]
      have lw : ((iv (it (stepR P a) (t % P * P ^ j) w)).length : Int) = n := by rw [iv_len, it_len, hw.ln]
      have em : (t : Int) % (P : Int) = ((t % P : Nat) : Int) := rfl
      have ed : (t : Int) / (P : Int) = ((t / P : Nat) : Int) := rfl
      have p0 : (0 : Int) < P := by omega
      have rg := range_nat (k := t % P) (by have := Nat.mod_lt t (show 0 < P by omega); omega)
      have hB : Bits s P := bits_small s1 (by omega)
      generalize iv (it (stepR P a) (t % P * P ^ j) w) = W at *
      unfold lb_done_often_1 at e2 ⊢
      repeat first | simp only [ht, g_mod p0, em, rg, e1, g_fdiv (divW p0 (by omega) _), ed, g_mul hB, lw, g_mod (show (0 : Int) < n by omega), e2] | walk_at "fl"
theorem e_done {P n : Nat} {a : RF.Tm} {w : List Int} (h : Ta P a) (hw : Rw P n w) (t : Nat) : F_done_often [.d (tm a), .d (.int t), .d (.list (iv w)), .d (.int P)] = tell (.list (iv (it (stepR P a) t w))) := by
  obtain ⟨s', z', e⟩ := wh_do h t 0 1 w none hw rfl (by decide) ⟨0, by simp⟩
  rw [Nat.pow_zero, Nat.mul_one] at e
  unfold F_done_often fb_done_often
  generalize tm a = A at *
  repeat first | simp only [e] | walk_at "fl"
end K31

namespace K31
open PySem hiding rule
open PySem.Spec PyProof.Rows L2 DL FL RF NA
local macro_rules | `(tactic| walk_at "fl") => `(tactic| simp only [ap_var, ap_c, ap_un, ap_unV, ap_op, ap_opO, ap_fn, ap_nil, ap_cons, ap_tr, ap_b, ap_tand, ap_tor, ap_tnot, ap_and, ap_or, ap_not, ap_if, ap_chain, ap_tup, ap_lst, ap_lstO, ap_dictO, ap_frz, ap_sl, ap_no, ap_part, ap_mut, ap_call, ap_callK, ap_get, ap_dict, ap_isi, ap_rep, ap_listO, ap_seq, ap_iargs, ap_lc, ap_lcO, ap_yes, ap_sq, ap_ret, ap_drop, ap_sif, ap_nx, ap_bk, ap_ct, ap_asg, ap_setR, ap_runT, ap_bb0, ap_bbs, ap_bbn, ap_bbd, ap_bbc, ap_bbb, ap_sfrz, ap_setI, ap_setK, ap_for, ap_par, ap_asgT, ap_run, ap_see, ap_seeo, ap_seer, ap_getC, ap_setC, ap_sees0, ap_sees1, ap_parN, ap_view, ap_frza0, ap_frza, ap_frzc, ap_frzb, ap_frzd, ap_frzn, ap_call1, ap_c1o, ap_sar0, ap_sar1, ap_frv, ap_fro, ap_tgN, ap_tgT, fin_val, fin_own, fin_ref, fin_nx, bors_nil, bors_d, bors_b, R.bind_ok, ofO_some, ofB_some, ofOL_list, seeV, frV, vals, setAllF, wipeF, restF, callR, refsOf, argVs, putBack, setR2, setI, setK, ap_glt, ap_gle, ap_ggt, ap_gge, ap_gsub, ap_gadd, ap_gneg, ap_gix, ap_cutl, ap_cutt, ap_gtup, ap_glist, ap_glen, ap_gint, ap_gintb, ap_gabs, ap_gmax, ap_gmin, ap_isN, ap_notN, ap_geq, ap_gne, ap_eqi, ap_eqb, ap_eqs, ap_iol, ap_iot, ap_gtn, ap_gtb, ap_gti, ap_gtl, ap_gtt, ap_isn0, ap_isni, ap_isnl, ap_isnt, ap_revl, ap_revt, ap_enum, ap_zipl, ap_zipt, intsOf_map, boolsOf_map, ap_cellL, startF, List.map_cons, List.map_nil, List.length_cons, List.length_nil, List.replicate_succ, List.replicate_zero, List.cons_append, List.nil_append, List.append_nil, List.getElem?_cons_zero, List.getElem?_cons_succ, List.getElem?_nil, List.set_cons_zero, List.set_cons_succ, List.set_nil, Option.map_some, Option.map_none, Option.bind_some, Option.bind_none, Nat.reduceSub, Nat.reduceAdd, if_true, if_false, Bool.false_eq_true, reduceIte, true_and, and_true, Nat.sub_zero, Nat.zero_add, reduceCtorEq, List.nodup_nil, List.nodup_cons, List.not_mem_nil, not_false_eq_true, and_self, Bool.not_true, Bool.not_false, Bool.not_not, decide_true, decide_false, Nat.reduceLeDiff, atI0, atI1, req_true])
def inN (l : List Nat) : List Int := l.map fun (k : Nat) => (k : Int)
theorem inN_snoc {l : List Nat} {k : Nat} : iv (inN l) ++ [.int (k : Int)] = iv (inN (l ++ [k])) := by simp [iv, inN]
theorem inN_len {l : List Nat} : (iv (inN l)).length = l.length := by simp [iv, inN]
theorem wh_out {D : Nat} {x1 : Option FV} (hD : 2 ≤ D) (hD2 : D < 2 ^ 60) : ∀ M : Nat, 1 ≤ M →
    ∃ k M' : Nat, fsWhile (fB (fOp gEq (fOp gMod (fVar 0) (fVar 2)) (fC (.int 0)))) lb_divisors_of_2 [some (.d (.int M)), x1, some (.d (.int D))]
      = .ok .nx [some (.d (.int M')), x1, some (.d (.int D))] ∧ M = D ^ k * M' ∧ ¬ D ∣ M' ∧ 1 ≤ M' := by
  intro M
  induction M using Nat.strongRecOn with
  | ind M ih =>
    intro hM
    have d0 : (0 : Int) < D := by omega
    have em : (M : Int) % (D : Int) = ((M % D : Nat) : Int) := rfl
    have ed : (M : Int) / (D : Int) = ((M / D : Nat) : Int) := rfl
    by_cases h : M % D = 0
    · have hdiv : M = D * (M / D) := by have := Nat.div_add_mod M D; omega
      have h1 : 1 ≤ M / D := Nat.pos_of_ne_zero fun e => by rw [e] at hdiv; omega
      obtain ⟨k, M', e, e2, e3, e4⟩ := ih (M / D) (Nat.div_lt_self (by omega) (by omega)) h1
      refine ⟨k + 1, M', ?_, ?_, e3, e4⟩
      · rw [fsWhile_turn]
        have h' : decide (((M % D : Nat) : Int) = 0) = true := decide_eq_true (by omega)
        unfold lb_divisors_of_2 at e ⊢
        repeat first | simp only [g_mod d0, em, h', g_fdiv (divW d0 (by omega) _), ed, e] | walk_at "fl"
      · rw [Nat.pow_succ, Nat.mul_assoc, Nat.mul_left_comm, ← e2]
        exact hdiv
    · refine ⟨0, M, ?_, by simp, fun hd => h (Nat.mod_eq_zero_of_dvd hd), hM⟩
      rw [fsWhile_turn]
      have h' : decide (((M % D : Nat) : Int) = 0) = false := decide_eq_false (by omega)
      repeat first | simp only [g_mod d0, em, h'] | walk_at "fl"
structure Dv (N D M : Nat) (fs : List Nat) : Prop where
  d2 : 2 ≤ D
  dN : D ≤ N + 2
  m1 : 1 ≤ M
  sm : ∀ d, 1 < d → d ∣ M → D ≤ d
  ps : ∀ q, Pm q → q ∣ N → q ∈ fs ∨ q ∣ M
  ln : 2 ^ fs.length * M ≤ N
  f2 : ∀ q ∈ fs, 2 ≤ q ∧ q ≤ N + 2
theorem Dv.len {N D M : Nat} {fs : List Nat} (h : Dv N D M fs) (hN : N < 2 ^ 50) : fs.length < 50 := by
  refine Nat.lt_of_not_le fun h50 => ?_
  have h1 : 2 ^ 50 ≤ 2 ^ fs.length := Nat.pow_le_pow_right (by decide) h50
  have h2 := h.ln
  have h3 : 2 ^ fs.length * 1 ≤ 2 ^ fs.length * M := Nat.mul_le_mul_left _ h.m1
  omega
theorem wh_div {N : Nat} (hN : N < 2 ^ 50) : ∀ (g D M : Nat) (fs : List Nat), M - D ≤ g → Dv N D M fs →
    ∃ (D' M' : Nat) (fs' : List Nat), fsWhile (fB (fOp gLe (fOp gMul (fVar 2) (fVar 2)) (fVar 0))) lb_divisors_of_1 [some (.d (.int M)), some (.c (.lst (iv (inN fs)))), some (.d (.int D))]
      = .ok .nx [some (.d (.int M')), some (.c (.lst (iv (inN fs')))), some (.d (.int D'))] ∧ Dv N D' M' fs' ∧ M' < D' * D' := by
  intro g
  induction g with
  | zero =>
    intro D M fs hg h
    refine ⟨D, M, fs, ?_, h, ?_⟩
    · have hlt : M < D * D := by have := Nat.mul_le_mul_right D h.d2; have := h.d2; omega
      rw [fsWhile_turn]
      have hc : decide ((D : Int) * (D : Int) ≤ (M : Int)) = false := decide_eq_false (by rw [← Int.natCast_mul]; omega)
      have hb : Bits (D : Int) (D : Int) := Bits.of (a := 60) (b := 60) (bits_le (by have := h.dN; omega)) (bits_le (by have := h.dN; omega)) (by decide)
      repeat first | simp only [g_mul hb, hc] | walk_at "fl"
    · have := Nat.mul_le_mul_right D h.d2
      have := h.d2
      omega
  | succ g ih =>
    intro D M fs hg h
    have d2 := h.d2
    have hb : Bits (D : Int) (D : Int) := Bits.of (a := 60) (b := 60) (bits_le (by have := h.dN; omega)) (bits_le (by have := h.dN; omega)) (by decide)
    by_cases hlt : M < D * D
    · refine ⟨D, M, fs, ?_, h, hlt⟩
      rw [fsWhile_turn]
      have hc : decide ((D : Int) * (D : Int) ≤ (M : Int)) = false := decide_eq_false (by rw [← Int.natCast_mul]; omega)
      repeat first | simp only [g_mul hb, hc] | walk_at "fl"
    · have hc : decide ((D : Int) * (D : Int) ≤ (M : Int)) = true := decide_eq_true (by rw [← Int.natCast_mul]; omega)
      have hDM : D < M := by have := Nat.mul_le_mul_right D d2; omega
      have hMN : M ≤ N := by
        have := h.ln
        have h3 : 1 * M ≤ 2 ^ fs.length * M := Nat.mul_le_mul_right _ (Nat.one_le_two_pow)
        omega
      have d0 : (0 : Int) < D := by omega
      have em : (M : Int) % (D : Int) = ((M % D : Nat) : Int) := rfl
      have e1 : (D : Int) + 1 = ((D + 1 : Nat) : Int) := by omega
      have dN : D < 2 ^ 60 := by have := h.dN; omega
      by_cases hd : M % D = 0
      · have hd' : decide (((M % D : Nat) : Int) = 0) = true := decide_eq_true (by omega)
        have hdd : D ∣ M := Nat.dvd_of_mod_eq_zero hd
        obtain ⟨k, M', ew, eM, nd, m1⟩ := wh_out (x1 := some (.c (.lst (iv (inN (fs ++ [D])))))) d2 dN M h.m1
        have hM' : M' ∣ M := ⟨D ^ k, by rw [eM, Nat.mul_comm]⟩
        have k1 : 1 ≤ k := Nat.pos_of_ne_zero fun e => by subst e; rw [Nat.pow_zero, Nat.one_mul] at eM; subst eM; exact nd hdd
        have pD : Pm D := ⟨by omega, fun d hd1 => by
          by_cases h1 : d = 1
          · exact .inl h1
          · have h0 : d ≠ 0 := fun e => by subst e; have := Nat.eq_zero_of_zero_dvd hd1; omega
            have := h.sm d (by omega) (Nat.dvd_trans hd1 hdd)
            have := Nat.le_of_dvd (by omega) hd1
            exact .inr (by omega)⟩
        have hM2 : 2 * M' ≤ M := by
          have h1 : 2 ^ 1 ≤ D ^ k := Nat.le_trans (Nat.pow_le_pow_left d2 1) (Nat.pow_le_pow_right (by omega) k1)
          have := Nat.mul_le_mul_right M' h1
          omega
        have nx : Dv N (D + 1) M' (fs ++ [D]) := {
          d2 := by omega
          dN := by omega
          m1 := m1
          sm := fun d h1 h2 => by
            have := h.sm d h1 (Nat.dvd_trans h2 hM')
            by_cases he : d = D
            · subst he; exact absurd h2 nd
            · omega
          ps := fun q hq hqN => by
            rcases h.ps q hq hqN with h1 | h1
            · exact .inl (List.mem_append_left _ h1)
            · rw [eM] at h1
              rcases pm_mul hq h1 with h2 | h2
              · have h3 := pm_pow hq h2
                rcases pD.2 q h3 with h4 | h4
                · have := hq.1; omega
                · exact .inl (List.mem_append_right _ (by rw [h4]; exact List.mem_singleton.mpr rfl))
              · exact .inr h2
          ln := by
            rw [List.length_append, List.length_singleton, Nat.pow_succ, Nat.mul_assoc]
            exact Nat.le_trans (Nat.mul_le_mul_left _ hM2) h.ln
          f2 := fun q hq => by
            rcases List.mem_append.mp hq with h1 | h1
            · exact h.f2 q h1
            · rw [List.mem_singleton.mp h1]; omega }
        obtain ⟨D', M2, fs', e, h', hl⟩ := ih (D + 1) M' (fs ++ [D]) (by omega) nx
        refine ⟨D', M2, fs', ?_, h', hl⟩
        rw [fsWhile_turn]
        have ga : gAppend (iv (inN fs)) [.int (D : Int)] = some (.none, iv (inN (fs ++ [D]))) := (req_pos (by rw [inN_len]; have := h.len hN; omega)).trans (by rw [inN_snoc])
        have lb : lb_divisors_of_1 [some (.d (.int M)), some (.c (.lst (iv (inN fs)))), some (.d (.int D))] = .ok .nx [some (.d (.int M')), some (.c (.lst (iv (inN (fs ++ [D]))))), some (.d (.int ((D + 1 : Nat) : Int)))] := by
          unfold lb_divisors_of_1
          repeat first | simp only [g_mod d0, em, hd', ga, ew, ap_augA, e1] | walk_at "fl"
        repeat first | simp only [g_mul hb, hc, lb, e] | walk_at "fl"
      · have hd' : decide (((M % D : Nat) : Int) = 0) = false := decide_eq_false (by omega)
        have nx : Dv N (D + 1) M fs := { h with
          d2 := by omega
          dN := by omega
          sm := fun d h1 h2 => by
            have := h.sm d h1 h2
            by_cases he : d = D
            · subst he; exact absurd (Nat.mod_eq_zero_of_dvd h2) hd
            · omega }
        obtain ⟨D', M2, fs', e, h', hl⟩ := ih (D + 1) M fs (by omega) nx
        refine ⟨D', M2, fs', ?_, h', hl⟩
        rw [fsWhile_turn]
        have lb : lb_divisors_of_1 [some (.d (.int M)), some (.c (.lst (iv (inN fs)))), some (.d (.int D))] = .ok .nx [some (.d (.int M)), some (.c (.lst (iv (inN fs)))), some (.d (.int ((D + 1 : Nat) : Int)))] := by
          unfold lb_divisors_of_1
          repeat first | simp only [g_mod d0, em, hd', ap_augA, e1] | walk_at "fl"
        repeat first | simp only [g_mul hb, hc, lb, e] | walk_at "fl"
theorem e_divisors {N : Nat} (h1 : 1 ≤ N) (hN : N < 2 ^ 50) : ∃ ds : List Nat, F_divisors_of [.d (.int N)] = .ok (.own (.lst (iv (inN ds)))) [] ∧ (∀ q ∈ ds, 2 ≤ q ∧ q < 2 ^ 51) ∧ (∀ q, Pm q → q ∣ N → q ∈ ds) ∧ ds.length ≤ 60 := by
  obtain ⟨D, M, fs, e, h, hl⟩ := wh_div hN (N - 2) 2 N [] (Nat.le_refl _) { d2 := by omega, dN := by omega, m1 := h1, sm := fun d hd _ => hd, ps := fun q _ hq => .inr hq, ln := by simp, f2 := fun q hq => by cases hq }
  have e : fsWhile (fB (fOp gLe (fOp gMul (fVar 2) (fVar 2)) (fVar 0))) lb_divisors_of_1 [some (.d (.int N)), some (.c (.lst [])), some (.d (.int 2))] = _ := e
  have lf := h.len hN
  have hMN : M ≤ N := by
    have := h.ln
    have h3 : 1 * M ≤ 2 ^ fs.length * M := Nat.mul_le_mul_right _ (Nat.one_le_two_pow)
    omega
  by_cases hM : 1 < M
  · refine ⟨fs ++ [M], ?_, fun q hq => ?_, fun q hq hqN => ?_, by simp; omega⟩
    · have hg : decide ((M : Int) > 1) = true := decide_eq_true (by omega)
      have ea : FL.gAdd (.list (iv (inN fs))) (.list [.int (M : Int)]) = some (.list (iv (inN (fs ++ [M])))) := (gadd_l (by rw [inN_len]; simp; omega)).trans (by rw [inN_snoc])
      unfold F_divisors_of fb_divisors_of
      repeat first | simp only [e, hg, ea] | walk_at "fl"
    · rcases List.mem_append.mp hq with h1 | h1
      · have := h.f2 q h1; omega
      · rw [List.mem_singleton.mp h1]; omega
    · rcases h.ps q hq hqN with h1 | h1
      · exact List.mem_append_left _ h1
      · refine List.mem_append_right _ (List.mem_singleton.mpr ?_)
        obtain ⟨r, hr⟩ := h1
        have hq1 := hq.1
        have hq2 := h.sm q hq1 ⟨r, hr⟩
        by_cases hr1 : r = 1
        · rw [hr, hr1, Nat.mul_one]
        · exfalso
          have r0 : r ≠ 0 := fun e => by subst e; omega
          have hr2 := h.sm r (by omega) ⟨q, by rw [hr, Nat.mul_comm]⟩
          have := Nat.mul_le_mul hq2 hr2
          omega
  · refine ⟨fs, ?_, fun q hq => by have := h.f2 q hq; omega, fun q hq hqN => ?_, by omega⟩
    · have hg : decide ((M : Int) > 1) = false := decide_eq_false (by omega)
      unfold F_divisors_of fb_divisors_of
      repeat first | simp only [e, hg] | walk_at "fl"
    · rcases h.ps q hq hqN with h1 | h1
      · exact h1
      · have := Nat.le_of_dvd (by have := h.m1; omega) h1
        have := hq.1
        omega
end K31

namespace K31
open PySem hiding rule
open PySem.Spec PyProof.Rows L2 DL FL RF NA
local macro_rules | `(tactic| walk_at "fl") => `(tactic| simp only [ap_var, ap_c, ap_un, ap_unV, ap_op, ap_opO, ap_fn, ap_nil, ap_cons, ap_tr, ap_b, ap_tand, ap_tor, ap_tnot, ap_and, ap_or, ap_not, ap_if, ap_chain, ap_tup, ap_lst, ap_lstO, ap_dictO, ap_frz, ap_sl, ap_no, ap_part, ap_mut, ap_call, ap_callK, ap_get, ap_dict, ap_isi, ap_rep, ap_listO, ap_seq, ap_iargs, ap_lc, ap_lcO, ap_yes, ap_sq, ap_ret, ap_drop, ap_sif, ap_nx, ap_bk, ap_ct, ap_asg, ap_setR, ap_runT, ap_bb0, ap_bbs, ap_bbn, ap_bbd, ap_bbc, ap_bbb, ap_sfrz, ap_setI, ap_setK, ap_for, ap_par, ap_asgT, ap_run, ap_see, ap_seeo, ap_seer, ap_getC, ap_setC, ap_sees0, ap_sees1, ap_parN, ap_view, ap_frza0, ap_frza, ap_frzc, ap_frzb, ap_frzd, ap_frzn, ap_call1, ap_c1o, ap_sar0, ap_sar1, ap_frv, ap_fro, ap_tgN, ap_tgT, fin_val, fin_own, fin_ref, fin_nx, bors_nil, bors_d, bors_b, R.bind_ok, ofO_some, ofB_some, ofOL_list, seeV, frV, vals, setAllF, wipeF, restF, callR, refsOf, argVs, putBack, setR2, setI, setK, ap_glt, ap_gle, ap_ggt, ap_gge, ap_gsub, ap_gadd, ap_gneg, ap_gix, ap_cutl, ap_cutt, ap_gtup, ap_glist, ap_glen, ap_gint, ap_gintb, ap_gabs, ap_gmax, ap_gmin, ap_isN, ap_notN, ap_geq, ap_gne, ap_eqi, ap_eqb, ap_eqs, ap_iol, ap_iot, ap_gtn, ap_gtb, ap_gti, ap_gtl, ap_gtt, ap_isn0, ap_isni, ap_isnl, ap_isnt, ap_revl, ap_revt, ap_enum, ap_zipl, ap_zipt, intsOf_map, boolsOf_map, ap_cellL, startF, List.map_cons, List.map_nil, List.length_cons, List.length_nil, List.replicate_succ, List.replicate_zero, List.cons_append, List.nil_append, List.append_nil, List.getElem?_cons_zero, List.getElem?_cons_succ, List.getElem?_nil, List.set_cons_zero, List.set_cons_succ, List.set_nil, Option.map_some, Option.map_none, Option.bind_some, Option.bind_none, Nat.reduceSub, Nat.reduceAdd, if_true, if_false, Bool.false_eq_true, reduceIte, true_and, and_true, Nat.sub_zero, Nat.zero_add, reduceCtorEq, List.nodup_nil, List.nodup_cons, List.not_mem_nil, not_false_eq_true, and_self, Bool.not_true, Bool.not_false, Bool.not_not, decide_true, decide_false, Nat.reduceLeDiff, atI0, atI1, req_true])
theorem wh_share {n P : Nat} (hn : 0 < n) (hn2 : n ≤ 1000) (hP : 2 ≤ P ∧ P ≤ 13) : ∀ (g x : Nat), n - P ^ x ≤ g → P ^ x ∣ n →
    ∃ x' : Nat, fsWhile (fB (fOp gEq (fOp gMod (fVar 0) (fOp gMul (fVar 2) (fVar 1))) (fC (.int 0)))) lb_share_of_1 [some (.d (.int n)), some (.d (.int P)), some (.d (.int ((P ^ x : Nat) : Int)))]
      = .ok .nx [some (.d (.int n)), some (.d (.int P)), some (.d (.int ((P ^ x' : Nat) : Int)))] ∧ P ^ x' ∣ n ∧ ¬ P ^ (x' + 1) ∣ n := by
  intro g
  have key : ∀ x, P ^ x ∣ n → Bits ((P ^ x : Nat) : Int) (P : Int) ∧ ((P ^ x : Nat) : Int) * (P : Int) = ((P ^ (x + 1) : Nat) : Int) ∧ (0 : Int) < ((P ^ (x + 1) : Nat) : Int) ∧ ((n : Int) % ((P ^ (x + 1) : Nat) : Int)) = ((n % P ^ (x + 1) : Nat) : Int) := fun x hx => by
    have := Nat.le_of_dvd hn hx
    have hpos : 0 < P ^ (x + 1) := Nat.pow_pos (by omega)
    exact ⟨bits_small (by omega) (by omega), by rw [Nat.pow_succ, Int.natCast_mul], by omega, rfl⟩
  have stop : ∀ x, P ^ x ∣ n → ¬ P ^ (x + 1) ∣ n → fsWhile (fB (fOp gEq (fOp gMod (fVar 0) (fOp gMul (fVar 2) (fVar 1))) (fC (.int 0)))) lb_share_of_1 [some (.d (.int n)), some (.d (.int P)), some (.d (.int ((P ^ x : Nat) : Int)))] = .ok .nx [some (.d (.int n)), some (.d (.int P)), some (.d (.int ((P ^ x : Nat) : Int)))] := fun x hx hnd => by
    obtain ⟨k1, k2, k3, k4⟩ := key x hx
    have hd : decide (((n % P ^ (x + 1) : Nat) : Int) = 0) = false := decide_eq_false fun e => hnd (Nat.dvd_of_mod_eq_zero (by omega))
    rw [fsWhile_turn]
    repeat first | simp only [g_mul k1, k2, g_mod k3, k4, hd] | walk_at "fl"
  induction g with
  | zero =>
    intro x hg hx
    have hnd : ¬ P ^ (x + 1) ∣ n := fun hd => by
      have h1 := Nat.le_of_dvd hn hd
      have h2 := Nat.le_of_dvd hn hx
      have : P ^ (x + 1) = P ^ x * P := Nat.pow_succ ..
      have h3 : P ^ x * 2 ≤ P ^ x * P := Nat.mul_le_mul_left _ hP.1
      have : 0 < P ^ x := Nat.pow_pos (by omega)
      omega
    exact ⟨x, stop x hx hnd, hx, hnd⟩
  | succ g ih =>
    intro x hg hx
    by_cases hnd : P ^ (x + 1) ∣ n
    · have h3 : P ^ x * 2 ≤ P ^ x * P := Nat.mul_le_mul_left _ hP.1
      have h4 : P ^ (x + 1) = P ^ x * P := Nat.pow_succ ..
      have h5 : 0 < P ^ x := Nat.pow_pos (by omega)
      have h6 := Nat.le_of_dvd hn hnd
      obtain ⟨x', e, r⟩ := ih (x + 1) (by omega) hnd
      refine ⟨x', ?_, r⟩
      obtain ⟨k1, k2, k3, k4⟩ := key x hx
      have hd : decide (((n % P ^ (x + 1) : Nat) : Int) = 0) = true := decide_eq_true (by rw [Nat.mod_eq_zero_of_dvd hnd]; rfl)
      rw [fsWhile_turn]
      unfold lb_share_of_1 at e ⊢
      repeat first | simp only [g_mul k1, k2, g_mod k3, k4, hd, e] | walk_at "fl"
    · exact ⟨x, stop x hx hnd, hx, hnd⟩
theorem e_share {n P : Nat} (hn : 0 < n) (hn2 : n ≤ 1000) (hP : 2 ≤ P ∧ P ≤ 13) : ∃ x, F_share_of [.d (.int n), .d (.int P)] = tell (.int ((P ^ x : Nat) : Int)) ∧ P ^ x ∣ n ∧ ¬ P ^ (x + 1) ∣ n := by
  obtain ⟨x, e, h⟩ := wh_share hn hn2 hP n 0 (by omega) (by simp)
  have e : fsWhile (fB (fOp gEq (fOp gMod (fVar 0) (fOp gMul (fVar 2) (fVar 1))) (fC (.int 0)))) lb_share_of_1 [some (.d (.int n)), some (.d (.int P)), some (.d (.int 1))] = _ := e
  refine ⟨x, ?_, h⟩
  unfold F_share_of fb_share_of
  repeat first | simp only [e] | walk_at "fl"
theorem ring_power : ∀ P ∈ [2, 3, 5, 7, 11, 13], ∀ n ∈ List.range 13, ∀ x ∈ List.range 4, 0 < n → n % P ^ x = 0 → ¬ n % P ^ (x + 1) = 0 → ∃ y ∈ List.range 11, P ^ (y + 1) % (n / P ^ x) = 1 % (n / P ^ x) := by decide +kernel
theorem wh_power {x0 x2 : Option FV} {r P : Nat} (hr : 0 < r) (hP : 2 ≤ P ∧ P ≤ 13) : ∀ (g j : Nat), j + g ≤ 10 → P ^ (j + g + 1) % r = 1 % r →
    ∃ y : Nat, fsWhile (fB (fOp gNe (fOp gMod (fVar 4) (fVar 3)) (fOp gMod (fC (.int 1)) (fVar 3)))) lb_turns_on_ring_1 [x0, some (.d (.int P)), x2, some (.d (.int r)), some (.d (.int ((P ^ (j + 1) : Nat) : Int)))]
      = .ok .nx [x0, some (.d (.int P)), x2, some (.d (.int r)), some (.d (.int ((P ^ (y + 1) : Nat) : Int)))] ∧ y ≤ 10 ∧ P ^ (y + 1) % r = 1 % r := by
  intro g
  have r0 : (0 : Int) < r := by omega
  have c1 : ∀ j : Nat, (((P ^ (j + 1) : Nat) : Int) % (r : Int)) = ((P ^ (j + 1) % r : Nat) : Int) := fun j => rfl
  have c2 : (1 : Int) % (r : Int) = ((1 % r : Nat) : Int) := rfl
  have stop : ∀ j : Nat, P ^ (j + 1) % r = 1 % r → fsWhile (fB (fOp gNe (fOp gMod (fVar 4) (fVar 3)) (fOp gMod (fC (.int 1)) (fVar 3)))) lb_turns_on_ring_1 [x0, some (.d (.int P)), x2, some (.d (.int r)), some (.d (.int ((P ^ (j + 1) : Nat) : Int)))] = .ok .nx [x0, some (.d (.int P)), x2, some (.d (.int r)), some (.d (.int ((P ^ (j + 1) : Nat) : Int)))] := fun j h => by
    have hd : decide (((P ^ (j + 1) % r : Nat) : Int) = ((1 % r : Nat) : Int)) = true := decide_eq_true (by omega)
    rw [fsWhile_turn]
    repeat first | simp only [g_mod r0, c1, c2, hd] | walk_at "fl"
  induction g with
  | zero => exact fun j hj h => ⟨j, stop j h, by omega, h⟩
  | succ g ih =>
    intro j hj h
    by_cases hs : P ^ (j + 1) % r = 1 % r
    · exact ⟨j, stop j hs, by omega, hs⟩
    · obtain ⟨y, e, hy⟩ := ih (j + 1) (by omega) (by rw [show j + 1 + g + 1 = j + (g + 1) + 1 by omega]; exact h)
      refine ⟨y, ?_, hy⟩
      have hd : decide (((P ^ (j + 1) % r : Nat) : Int) = ((1 % r : Nat) : Int)) = false := decide_eq_false (by omega)
      have hpw : P ^ (j + 1) ≤ 13 ^ 11 := Nat.le_trans (Nat.pow_le_pow_left hP.2 _) (Nat.pow_le_pow_right (by decide) (by omega))
      have hb : Bits ((P ^ (j + 1) : Nat) : Int) (P : Int) := Bits.of (a := 60) (b := 10) (bits_le (by rw [Int.natAbs_natCast]; omega)) (bits_le (by omega)) (by decide)
      have em : ((P ^ (j + 1) : Nat) : Int) * (P : Int) = ((P ^ (j + 1 + 1) : Nat) : Int) := by rw [Nat.pow_succ P (j + 1), Int.natCast_mul]
      rw [fsWhile_turn]
      unfold lb_turns_on_ring_1 at e ⊢
      repeat first | simp only [g_mod r0, c1, c2, hd, g_mul hb, em, e] | walk_at "fl"
/-- share P^x, power P^y -/
structure Sp (P n x y : Nat) : Prop where
  dx : P ^ x ∣ n
  y1 : 1 ≤ y
  y2 : y ≤ 11
  dv : n ∣ P ^ x * (P ^ y - 1)
theorem e_turns {n P : Nat} (hn : 0 < n) (hn2 : n ≤ 12) (hP : P ∈ [2, 3, 5, 7, 11, 13]) : ∃ x y, F_turns_on_ring [.d (.int n), .d (.int P)] = tell (.tuple [.int ((P ^ x : Nat) : Int), .int ((P ^ y : Nat) : Int)]) ∧ Sp P n x y := by
  have pb : 2 ≤ P ∧ P ≤ 13 := by
    simp only [List.mem_cons, List.not_mem_nil, or_false] at hP
    omega
  obtain ⟨x, e1, dx, ndx⟩ := e_share (P := P) hn (by omega) pb
  have x4 : x < 4 := Nat.lt_of_not_le fun h4 => by
    have h1 : 2 ^ 4 ≤ P ^ x := Nat.le_trans (Nat.pow_le_pow_left pb.1 4) (Nat.pow_le_pow_right (by omega) h4)
    have := Nat.le_of_dvd hn dx
    omega
  obtain ⟨y0, hy0, ey0⟩ := ring_power P hP n (List.mem_range.mpr (by omega)) x (List.mem_range.mpr x4) hn (Nat.mod_eq_zero_of_dvd dx) (fun e => ndx (Nat.dvd_of_mod_eq_zero e))
  have hy0 := List.mem_range.mp hy0
  have hx0 : 0 < P ^ x := Nat.pow_pos (by omega)
  have hr : 0 < n / P ^ x := Nat.div_pos (Nat.le_of_dvd hn dx) hx0
  obtain ⟨y, e2, hy, ey⟩ := wh_power (x0 := some (.d (.int n))) (x2 := some (.d (.int ((P ^ x : Nat) : Int)))) hr pb y0 0 (by omega) (by rw [Nat.zero_add]; exact ey0)
  have hxn : P ^ x ≤ n := Nat.le_of_dvd hn dx
  refine ⟨x, y + 1, ?_, dx, by omega, by omega, ?_⟩
  · rw [show ((P ^ (0 + 1) : Nat) : Int) = (P : Int) by rw [Nat.zero_add, Nat.pow_one]] at e2
    have ed : (n : Int) / ((P ^ x : Nat) : Int) = ((n / P ^ x : Nat) : Int) := rfl
    unfold F_turns_on_ring fb_turns_on_ring
    repeat first | simp only [e1, g_fdiv (divW (show (0 : Int) < ((P ^ x : Nat) : Int) by omega) (by omega) _), ed, e2] | walk_at "fl"
  · have hn3 : n = P ^ x * (n / P ^ x) := (Nat.mul_div_cancel' dx).symm
    have h1 : n / P ^ x ∣ P ^ (y + 1) - 1 := by
      refine Nat.dvd_of_mod_eq_zero ?_
      exact Nat.sub_mod_eq_zero_of_mod_eq ey
    have := Nat.mul_dvd_mul_left (P ^ x) h1
    rwa [← hn3] at this
end K31

namespace K31
open PySem hiding rule
open PySem.Spec PyProof.Rows L2 DL FL RF NA
local macro_rules | `(tactic| walk_at "fl") => `(tactic| simp only [ap_var, ap_c, ap_un, ap_unV, ap_op, ap_opO, ap_fn, ap_nil, ap_cons, ap_tr, ap_b, ap_tand, ap_tor, ap_tnot, ap_and, ap_or, ap_not, ap_if, ap_chain, ap_tup, ap_lst, ap_lstO, ap_dictO, ap_frz, ap_sl, ap_no, ap_part, ap_mut, ap_call, ap_callK, ap_get, ap_dict, ap_isi, ap_rep, ap_listO, ap_seq, ap_iargs, ap_lc, ap_lcO, ap_yes, ap_sq, ap_ret, ap_drop, ap_sif, ap_nx, ap_bk, ap_ct, ap_asg, ap_setR, ap_runT, ap_bb0, ap_bbs, ap_bbn, ap_bbd, ap_bbc, ap_bbb, ap_sfrz, ap_setI, ap_setK, ap_for, ap_par, ap_asgT, ap_run, ap_see, ap_seeo, ap_seer, ap_getC, ap_setC, ap_sees0, ap_sees1, ap_parN, ap_view, ap_frza0, ap_frza, ap_frzc, ap_frzb, ap_frzd, ap_frzn, ap_call1, ap_c1o, ap_sar0, ap_sar1, ap_frv, ap_fro, ap_tgN, ap_tgT, fin_val, fin_own, fin_ref, fin_nx, bors_nil, bors_d, bors_b, R.bind_ok, ofO_some, ofB_some, ofOL_list, seeV, frV, vals, setAllF, wipeF, restF, callR, refsOf, argVs, putBack, setR2, setI, setK, ap_glt, ap_gle, ap_ggt, ap_gge, ap_gsub, ap_gadd, ap_gneg, ap_gix, ap_cutl, ap_cutt, ap_gtup, ap_glist, ap_glen, ap_gint, ap_gintb, ap_gabs, ap_gmax, ap_gmin, ap_isN, ap_notN, ap_geq, ap_gne, ap_eqi, ap_eqb, ap_eqs, ap_iol, ap_iot, ap_gtn, ap_gtb, ap_gti, ap_gtl, ap_gtt, ap_isn0, ap_isni, ap_isnl, ap_isnt, ap_revl, ap_revt, ap_enum, ap_zipl, ap_zipt, intsOf_map, boolsOf_map, ap_cellL, startF, List.map_cons, List.map_nil, List.length_cons, List.length_nil, List.replicate_succ, List.replicate_zero, List.cons_append, List.nil_append, List.append_nil, List.getElem?_cons_zero, List.getElem?_cons_succ, List.getElem?_nil, List.set_cons_zero, List.set_cons_succ, List.set_nil, Option.map_some, Option.map_none, Option.bind_some, Option.bind_none, Nat.reduceSub, Nat.reduceAdd, if_true, if_false, Bool.false_eq_true, reduceIte, true_and, and_true, Nat.sub_zero, Nat.zero_add, reduceCtorEq, List.nodup_nil, List.nodup_cons, List.not_mem_nil, not_false_eq_true, and_self, Bool.not_true, Bool.not_false, Bool.not_not, decide_true, decide_false, Nat.reduceLeDiff, atI0, atI1, req_true])
theorem wh_begin {P n : Nat} {a : RF.Tm} {v : List Int} {K : Nat} {x3 x4 : Option FV} (h : Ta P a) (hv : Rw P n v) : ∀ (g b N : Nat), b + g = N → N ≤ 1000 → it (stepR P a) (N + K) v = it (stepR P a) N v → (∀ c, c < b → it (stepR P a) (c + K) v ≠ it (stepR P a) c v) →
    ∃ b' : Nat, fsWhile (fB (fOp gNe (fCall F_done_often (faCons (fVar 0) (faCons (fVar 5) (faCons (fVar 1) (faCons (fVar 2) faNil))))) (fVar 1))) lb_again_modulo_1 [some (.d (tm a)), some (.d (.list (iv (it (stepR P a) b v)))), some (.d (.int P)), x3, x4, some (.d (.int K)), some (.d (.int b)), none]
      = .ok .nx [some (.d (tm a)), some (.d (.list (iv (it (stepR P a) b' v)))), some (.d (.int P)), x3, x4, some (.d (.int K)), some (.d (.int b')), none] ∧ b' ≤ N ∧ it (stepR P a) (b' + K) v = it (stepR P a) b' v ∧ ∀ c, c < b' → it (stepR P a) (c + K) v ≠ it (stepR P a) c v := by
  have pb := h.pb
  intro g
  have done : ∀ b : Nat, F_done_often [.d (tm a), .d (.int K), .d (.list (iv (it (stepR P a) b v))), .d (.int P)] = tell (.list (iv (it (stepR P a) (b + K) v))) := fun b => by
    have := e_done h (hv.it pb.1 b (a := a)) K
    rwa [← it_add, Nat.add_comm] at this
  have stop : ∀ b : Nat, it (stepR P a) (b + K) v = it (stepR P a) b v → fsWhile (fB (fOp gNe (fCall F_done_often (faCons (fVar 0) (faCons (fVar 5) (faCons (fVar 1) (faCons (fVar 2) faNil))))) (fVar 1))) lb_again_modulo_1 [some (.d (tm a)), some (.d (.list (iv (it (stepR P a) b v)))), some (.d (.int P)), x3, x4, some (.d (.int K)), some (.d (.int b)), none]
      = .ok .nx [some (.d (tm a)), some (.d (.list (iv (it (stepR P a) b v)))), some (.d (.int P)), x3, x4, some (.d (.int K)), some (.d (.int b)), none] := fun b e => by
    have e1 := done b
    have e2 : eqP (.list (iv (it (stepR P a) (b + K) v))) (.list (iv (it (stepR P a) b v))) = some true := by rw [eqL_iv, decide_eq_true e]
    rw [fsWhile_turn]
    generalize iv (it (stepR P a) (b + K) v) = X at *
    generalize iv (it (stepR P a) b v) = Y at *
    generalize tm a = A at *
    repeat first | simp only [e1, e2] | walk_at "fl"
  induction g with
  | zero =>
    intro b N hb hN hs hc
    have hb : b = N := by omega
    subst hb
    exact ⟨b, stop b hs, Nat.le_refl _, hs, hc⟩
  | succ g ih =>
    intro b N hb hN hs hc
    by_cases e : it (stepR P a) (b + K) v = it (stepR P a) b v
    · exact ⟨b, stop b e, by omega, e, hc⟩
    · obtain ⟨b', e3, r⟩ := ih (b + 1) N (by omega) hN hs (fun c hlt => by
        by_cases hcb : c = b
        · subst hcb; exact e
        · exact hc c (by omega))
      refine ⟨b', ?_, r⟩
      have e1 := done b
      have e2 : eqP (.list (iv (it (stepR P a) (b + K) v))) (.list (iv (it (stepR P a) b v))) = some false := by rw [eqL_iv, decide_eq_false e]
      have e4 := h.step1 (hv.it pb.1 b (a := a))
      rw [show stepR P a (it (stepR P a) b v) = it (stepR P a) (b + 1) v from rfl] at e4
      have ej : (b : Int) + 1 = ((b + 1 : Nat) : Int) := by omega
      rw [fsWhile_turn]
      generalize iv (it (stepR P a) (b + K) v) = X at *
      generalize iv (it (stepR P a) b v) = Y at *
      generalize iv (it (stepR P a) (b + 1) v) = Z at *
      generalize tm a = A at *
      unfold lb_again_modulo_1 at e3 ⊢
      repeat first | simp only [e1, e2, e4, ap_augA, ej, e3] | walk_at "fl"
theorem wh_less {P n : Nat} {a : RF.Tm} {w : List Int} {x3 x4 x6 : Option FV} {q : Nat} (h : Ta P a) (hw : Rw P n w) (hq : 2 ≤ q) (hq2 : q < 2 ^ 60) : ∀ L : Nat, 0 < L → it (stepR P a) L w = w →
    ∃ L' : Nat, fsWhile (ftAnd (fB (fOp gEq (fOp gMod (fVar 5) (fVar 7)) (fC (.int 0)))) (fB (fOp gEq (fCall F_done_often (faCons (fVar 0) (faCons (fOp gFdiv (fVar 5) (fVar 7)) (faCons (fVar 1) (faCons (fVar 2) faNil))))) (fVar 1)))) lb_again_modulo_3 [some (.d (tm a)), some (.d (.list (iv w))), some (.d (.int P)), x3, x4, some (.d (.int L)), x6, some (.d (.int q))]
      = .ok .nx [some (.d (tm a)), some (.d (.list (iv w))), some (.d (.int P)), x3, x4, some (.d (.int L')), x6, some (.d (.int q))] ∧ 0 < L' ∧ L' ∣ L ∧ it (stepR P a) L' w = w ∧ (q ∣ L' → it (stepR P a) (L' / q) w ≠ w) := by
  intro L
  induction L using Nat.strongRecOn with
  | ind L ih =>
    intro hL hp
    have q0 : (0 : Int) < q := by omega
    have em : (L : Int) % (q : Int) = ((L % q : Nat) : Int) := rfl
    have ed : (L : Int) / (q : Int) = ((L / q : Nat) : Int) := rfl
    by_cases hd : L % q = 0
    · have hd' : decide (((L % q : Nat) : Int) = 0) = true := decide_eq_true (by omega)
      have hdv := Nat.dvd_of_mod_eq_zero hd
      have e1 := e_done h hw (L / q)
      by_cases e : it (stepR P a) (L / q) w = w
      · have e2 : eqP (.list (iv (it (stepR P a) (L / q) w))) (.list (iv w)) = some true := by rw [eqL_iv, decide_eq_true e]
        obtain ⟨L', e3, l0, l1, l2, l3⟩ := ih (L / q) (Nat.div_lt_self hL (by omega)) (Nat.div_pos (Nat.le_of_dvd hL hdv) (by omega)) e
        refine ⟨L', ?_, l0, Nat.dvd_trans l1 (Nat.div_dvd_of_dvd hdv), l2, l3⟩
        rw [fsWhile_turn]
        generalize iv (it (stepR P a) (L / q) w) = X at *
        generalize iv w = Y at *
        generalize tm a = A at *
        unfold lb_again_modulo_3 at e3 ⊢
        repeat first | simp only [g_mod q0, em, hd', g_fdiv (divW q0 (by omega) _), ed, e1, e2, e3] | walk_at "fl"
      · have e2 : eqP (.list (iv (it (stepR P a) (L / q) w))) (.list (iv w)) = some false := by rw [eqL_iv, decide_eq_false e]
        refine ⟨L, ?_, hL, Nat.dvd_refl _, hp, fun _ => e⟩
        rw [fsWhile_turn]
        generalize iv (it (stepR P a) (L / q) w) = X at *
        generalize iv w = Y at *
        generalize tm a = A at *
        repeat first | simp only [g_mod q0, em, hd', g_fdiv (divW q0 (by omega) _), ed, e1, e2] | walk_at "fl"
    · have hd' : decide (((L % q : Nat) : Int) = 0) = false := decide_eq_false (by omega)
      refine ⟨L, ?_, hL, Nat.dvd_refl _, hp, fun hdv => absurd (Nat.mod_eq_zero_of_dvd hdv) hd⟩
      rw [fsWhile_turn]
      repeat first | simp only [g_mod q0, em, hd'] | walk_at "fl"
theorem loop_less {P n : Nat} {a : RF.Tm} {w : List Int} {x3 x4 x6 : Option FV} (h : Ta P a) (hw : Rw P n w) : ∀ (ds qs : List Nat) (L : Nat) (z : Option FV), bb z = false → (∀ q ∈ ds, 2 ≤ q ∧ q < 2 ^ 60) → 0 < L → it (stepR P a) L w = w → (∀ q ∈ qs, q ∣ L → it (stepR P a) (L / q) w ≠ w) →
    ∃ (L' : Nat) (z' : Option FV), fsGo (tgN 7) lb_again_modulo_2 (iv (inN ds)) [some (.d (tm a)), some (.d (.list (iv w))), some (.d (.int P)), x3, x4, some (.d (.int L)), x6, z]
      = .ok .nx [some (.d (tm a)), some (.d (.list (iv w))), some (.d (.int P)), x3, x4, some (.d (.int L')), x6, z'] ∧ 0 < L' ∧ L' ∣ L ∧ it (stepR P a) L' w = w ∧ ∀ q ∈ qs ++ ds, q ∣ L' → it (stepR P a) (L' / q) w ≠ w
  | [], qs, L, z, _, _, hL, hp, hq => ⟨L, z, rfl, hL, Nat.dvd_refl _, hp, by rw [List.append_nil]; exact hq⟩
  | d :: ds, qs, L, z, hz, hd, hL, hp, hq => by
    obtain ⟨d2, d3⟩ := hd d List.mem_cons_self
    obtain ⟨L1, e1, l0, l1, l2, l3⟩ := wh_less (x3 := x3) (x4 := x4) (x6 := x6) h hw d2 d3 L hL hp
    obtain ⟨L', z', e2, m0, m1, m2, m3⟩ := loop_less (x3 := x3) (x4 := x4) (x6 := x6) h hw ds (qs ++ [d]) L1 (some (.d (.int d))) rfl (fun q hq => hd q (List.mem_cons_of_mem _ hq)) l0 l2 (fun q hqm hqL => by
      rcases List.mem_append.mp hqm with h1 | h1
      · intro e
        obtain ⟨c, hc⟩ := l1
        have h0 := hq q h1 (Nat.dvd_trans hqL ⟨c, hc⟩)
        obtain ⟨r, hr⟩ := hqL
        have q0 : 0 < q := Nat.pos_of_ne_zero fun e => by subst e; omega
        refine h0 ?_
        rw [hc, hr, Nat.mul_assoc, Nat.mul_div_cancel_left _ q0]
        rw [hr, Nat.mul_div_cancel_left _ q0] at e
        exact per_mul e c
      · rw [List.mem_singleton.mp h1] at hqL ⊢
        exact l3 hqL)
    rw [List.append_assoc] at m3
    refine ⟨L', z', (go_nx ?_).trans e2, m0, Nat.dvd_trans m1 l1, m2, m3⟩
    unfold lb_again_modulo_2
    generalize tm a = A at *
    repeat first | simp only [hz, e1] | walk_at "fl"
theorem e_again {P n : Nat} {a : RF.Tm} {v : List Int} (h : Ta P a) (hv : Rw P n v) (hn : n ≤ 12) : ∃ b l : Nat, F_again_modulo [.d (tm a), .d (.list (iv v)), .d (.int P)] = tell (.tuple [.int b, .int l]) ∧ Rho (stepR P a) v b l ∧ b ≤ 12 ∧ l < 2 ^ 60 := by
  have pb := h.pb
  obtain ⟨x, y, e1, sp⟩ := e_turns hv.n0 hn h.pr
  have hx0 : 0 < P ^ x := Nat.pow_pos (by omega)
  have hxn : P ^ x ≤ n := Nat.le_of_dvd hv.n0 sp.dx
  have hy0 : 2 ≤ P ^ y := Nat.le_trans (Nat.pow_le_pow_left pb.1 1) (Nat.pow_le_pow_right (by omega) sp.y1)
  have hpw : P ^ y ≤ 13 ^ 11 := Nat.le_trans (Nat.pow_le_pow_left pb.2 _) (Nat.pow_le_pow_right (by decide) sp.y2)
  obtain ⟨K, hK⟩ : ∃ K, K = P ^ x * (P ^ y - 1) := ⟨_, rfl⟩
  have hK0 : 0 < K := by rw [hK]; exact Nat.mul_pos hx0 (by omega)
  have hK1 : K < 2 ^ 60 := by
    have := Nat.mul_le_mul (Nat.le_trans hxn hn) (show P ^ y - 1 ≤ 13 ^ 11 by omega)
    rw [hK]
    omega
  have hsum : P ^ x + K = P ^ (x + y) := by
    rw [hK, Nat.pow_add, Nat.mul_sub, Nat.mul_one]
    have := Nat.mul_le_mul_left (P ^ x) (show 1 ≤ P ^ y by omega)
    omega
  have ag : it (stepR P a) (P ^ x + K) v = it (stepR P a) (P ^ x) v := by
    rw [hsum]
    refine ring_again h.pr h.fac hv.pn hv.ne ?_
    rw [hv.ln]
    have hd := sp.dv
    rw [← hK] at hd
    have e : (P : Int) ^ (x + y) - (P : Int) ^ x = (K : Int) := by
      have e1 : ((P ^ (x + y) : Nat) : Int) = (P : Int) ^ (x + y) := by simp
      have e2 : ((P ^ x : Nat) : Int) = (P : Int) ^ x := by simp
      rw [← e1, ← e2]
      omega
    rw [e]
    exact Int.natCast_dvd_natCast.mpr hd
  obtain ⟨b, e2, hb, hb1, hb2⟩ := wh_begin (K := K) (x3 := some (.d (.int ((P ^ x : Nat) : Int)))) (x4 := some (.d (.int ((P ^ y : Nat) : Int)))) h hv (P ^ x) 0 (P ^ x) (by omega) (by omega) ag (fun c hc => by omega)
  have hw := hv.it pb.1 b (a := a)
  obtain ⟨ds, e3, d2, dp, ld⟩ := e_divisors (N := P ^ y - 1) (by omega) (by omega)
  have hpK : it (stepR P a) K (it (stepR P a) b v) = it (stepR P a) b v := by rw [← it_add, Nat.add_comm]; exact hb1
  obtain ⟨L, z, e4, l0, l1, l2, l3⟩ := loop_less (x3 := some (.d (.int ((P ^ x : Nat) : Int)))) (x4 := some (.d (.int ((P ^ y : Nat) : Int)))) (x6 := some (.d (.int (b : Int)))) h hw (ds ++ [P]) [] K none rfl (fun q hq => by
    rcases List.mem_append.mp hq with h1 | h1
    · have := d2 q h1; omega
    · rw [List.mem_singleton.mp h1]; omega) hK0 hpK (fun q hq => by cases hq)
  rw [List.nil_append] at l3
  have cover : ∀ m, 1 < m → m ∣ K → ∃ q ∈ ds ++ [P], 1 < q ∧ q ∣ m := fun m hm hmK => by
    obtain ⟨q, hq, hqm⟩ := pm_exists hm
    refine ⟨q, ?_, hq.1, hqm⟩
    have h1 := Nat.dvd_trans hqm hmK
    rw [hK] at h1
    rcases pm_mul hq h1 with h2 | h2
    · have h3 := pm_pow hq h2
      have pP : Pm P := ⟨by omega, by
        have := h.pr
        have key : ∀ P ∈ [2, 3, 5, 7, 11, 13], ∀ d ∈ List.range 14, P % d = 0 → d = 1 ∨ d = P := by decide +kernel
        exact fun d hd => key P this d (List.mem_range.mpr (by have := Nat.le_of_dvd (by omega) hd; omega)) (Nat.mod_eq_zero_of_dvd hd)⟩
      rcases pP.2 q h3 with h4 | h4
      · have := hq.1; omega
      · exact List.mem_append_right _ (by rw [h4]; exact List.mem_singleton.mpr rfl)
    · exact List.mem_append_left _ (dp q hq h2)
  refine ⟨b, L, ?_, ?_, by omega, Nat.lt_of_le_of_lt (Nat.le_of_dvd hK0 l1) hK1⟩
  · have lv : ((iv v).length : Int) = (n : Int) := by rw [iv_len, hv.ln]
    have m1 : ((P ^ y : Nat) : Int) - 1 = ((P ^ y - 1 : Nat) : Int) := by omega
    have m2 : ((P ^ x : Nat) : Int) * ((P ^ y - 1 : Nat) : Int) = (K : Int) := by rw [hK, Int.natCast_mul]
    have hb : Bits ((P ^ x : Nat) : Int) ((P ^ y - 1 : Nat) : Int) := Bits.of (a := 10) (b := 60) (bits_le (by omega)) (bits_le (by omega)) (by decide)
    have ea : FL.gAdd (.list (iv (inN ds))) (.list [.int (P : Int)]) = some (.list (iv (inN (ds ++ [P])))) := (gadd_l (by rw [inN_len]; simp; omega)).trans (by rw [inN_snoc])
    have e2 : fsWhile (fB (fOp gNe (fCall F_done_often (faCons (fVar 0) (faCons (fVar 5) (faCons (fVar 1) (faCons (fVar 2) faNil))))) (fVar 1))) lb_again_modulo_1 [some (.d (tm a)), some (.d (.list (iv v))), some (.d (.int P)), some (.d (.int ((P ^ x : Nat) : Int))), some (.d (.int ((P ^ y : Nat) : Int))), some (.d (.int K)), some (.d (.int 0)), none] = _ := e2
    unfold F_again_modulo fb_again_modulo
    generalize tm a = A at *
    generalize iv (it (stepR P a) b v) = Y at *
    generalize iv (inN (ds ++ [P])) = D at *
    repeat first | simp only [lv, e1, m1, g_mul hb, m2, e2, e3, ea, e4] | walk_at "fl"
  · refine rho_of l0 l1 ?_ hb2 fun d hd e => ?_
    · rw [Nat.add_comm, it_add]; exact l2
    · refine least_per l0 l1 l2 cover l3 ?_
      rw [← it_add, Nat.add_comm]
      exact e
end K31

namespace K31
open PySem hiding rule
open PySem.Spec PyProof.Rows L2 DL FL RF NA
local macro_rules | `(tactic| walk_at "fl") => `(tactic| simp only [ap_var, ap_c, ap_un, ap_unV, ap_op, ap_opO, ap_fn, ap_nil, ap_cons, ap_tr, ap_b, ap_tand, ap_tor, ap_tnot, ap_and, ap_or, ap_not, ap_if, ap_chain, ap_tup, ap_lst, ap_lstO, ap_dictO, ap_frz, ap_sl, ap_no, ap_part, ap_mut, ap_call, ap_callK, ap_get, ap_dict, ap_isi, ap_rep, ap_listO, ap_seq, ap_iargs, ap_lc, ap_lcO, ap_yes, ap_sq, ap_ret, ap_drop, ap_sif, ap_nx, ap_bk, ap_ct, ap_asg, ap_setR, ap_runT, ap_bb0, ap_bbs, ap_bbn, ap_bbd, ap_bbc, ap_bbb, ap_sfrz, ap_setI, ap_setK, ap_for, ap_par, ap_asgT, ap_run, ap_see, ap_seeo, ap_seer, ap_getC, ap_setC, ap_sees0, ap_sees1, ap_parN, ap_view, ap_frza0, ap_frza, ap_frzc, ap_frzb, ap_frzd, ap_frzn, ap_call1, ap_c1o, ap_sar0, ap_sar1, ap_frv, ap_fro, ap_tgN, ap_tgT, fin_val, fin_own, fin_ref, fin_nx, bors_nil, bors_d, bors_b, R.bind_ok, ofO_some, ofB_some, ofOL_list, seeV, frV, vals, setAllF, wipeF, restF, callR, refsOf, argVs, putBack, setR2, setI, setK, ap_glt, ap_gle, ap_ggt, ap_gge, ap_gsub, ap_gadd, ap_gneg, ap_gix, ap_cutl, ap_cutt, ap_gtup, ap_glist, ap_glen, ap_gint, ap_gintb, ap_gabs, ap_gmax, ap_gmin, ap_isN, ap_notN, ap_geq, ap_gne, ap_eqi, ap_eqb, ap_eqs, ap_iol, ap_iot, ap_gtn, ap_gtb, ap_gti, ap_gtl, ap_gtt, ap_isn0, ap_isni, ap_isnl, ap_isnt, ap_revl, ap_revt, ap_enum, ap_zipl, ap_zipt, intsOf_map, boolsOf_map, ap_cellL, startF, List.map_cons, List.map_nil, List.length_cons, List.length_nil, List.replicate_succ, List.replicate_zero, List.cons_append, List.nil_append, List.append_nil, List.getElem?_cons_zero, List.getElem?_cons_succ, List.getElem?_nil, List.set_cons_zero, List.set_cons_succ, List.set_nil, Option.map_some, Option.map_none, Option.bind_some, Option.bind_none, Nat.reduceSub, Nat.reduceAdd, if_true, if_false, Bool.false_eq_true, reduceIte, true_and, and_true, Nat.sub_zero, Nat.zero_add, reduceCtorEq, List.nodup_nil, List.nodup_cons, List.not_mem_nil, not_false_eq_true, and_self, Bool.not_true, Bool.not_false, Bool.not_not, decide_true, decide_false, Nat.reduceLeDiff, atI0, atI1, req_true])
theorem inG_iv {p : Int} {l : List Int} {d : PyData} (h : itemsOf d = some (iv l)) : inG (.int p) d = some (decide (p ∈ l)) := by
  unfold inG
  rw [h, Option.bind_some]
  have hf : (iv l).all flatD = true := List.all_eq_true.mpr fun x hx => by
    obtain ⟨i, _, rfl⟩ := iv_mem hx
    rfl
  refine (req_pos ⟨rfl, hf⟩).trans ?_
  congr 1
  unfold inD iv
  rw [List.any_map, Bool.eq_iff_iff, List.any_eq_true, decide_eq_true_iff]
  constructor
  · rintro ⟨x, hx, h⟩
    have : x = p := by simpa [Function.comp, eqFlat] using h
    rw [← this]; exact hx
  · intro h
    exact ⟨p, h, by simp [Function.comp, eqFlat]⟩
theorem gNin_l {p : Int} {l : List Int} : gNin (.int p) (.list (iv l)) = some (.bool (!decide (p ∈ l))) := by
  unfold gNin
  rw [inG_iv rfl]; rfl
def bp (p : Int) (a : RF.Tm) : RF.Tm := (a.filter fun q => decide (q.2 % p ≠ 0)).map fun q => (q.1, q.2 % p)
theorem bp_ev {p : Int} {f : Int → Int} : ∀ {a : RF.Tm}, Md p (ev (bp p a) f) (ev a f)
  | [] => .refl
  | q :: a => by
    have ih := bp_ev (p := p) (f := f) (a := a)
    unfold bp at ih ⊢
    rw [ev_cons]
    by_cases e : q.2 % p = 0
    · rw [List.filter_cons_of_neg (by simp [e])]
      have h : Md p (q.2 * f q.1) 0 := by
        have : Md p q.2 0 := by
          have := Md.rest (m := p) (a := q.2)
          rw [e] at this
          exact this.symm
        have h2 := this.mulr (c := f q.1)
        rwa [Int.zero_mul] at h2
      have := (h.symm).add ih
      rwa [Int.zero_add] at this
    · rw [List.filter_cons_of_pos (by simp [e]), List.map_cons, ev_cons]
      exact Md.rest.mulr.add ih
theorem bp_mem {p : Int} {a : RF.Tm} (hp : 0 < p) {q : Int × Int} (h : q ∈ bp p a) : 0 ≤ q.2 ∧ q.2 < p := by
  unfold bp at h
  obtain ⟨r, _, rfl⟩ := List.mem_map.mp h
  exact ⟨Int.emod_nonneg _ (by omega), Int.emod_lt_of_pos _ hp⟩
theorem bp_len {p : Int} {a : RF.Tm} : (bp p a).length ≤ a.length := by
  unfold bp
  rw [List.length_map]
  exact List.length_filter_le _ _
theorem p_dvd {m p : Int} (h : p ∈ primesOf m) : p ∣ m := by
  unfold primesOf at h
  have := (List.mem_filter.mp h).2
  exact Int.dvd_of_emod_eq_zero (of_decide_eq_true this)
theorem p_pos {m p : Int} (h : p ∈ primesOf m) : 2 ≤ p ∧ p ≤ 13 := by
  unfold primesOf at h
  have := (List.mem_filter.mp h).1
  simp only [List.mem_cons, List.not_mem_nil, or_false] at this
  omega
def bpP (p : Int) : PyData → Bool
  | .tuple [_, .int f] => decide (f % p ≠ 0)
  | _ => false
def bpF (p : Int) : PyData → PyData
  | .tuple [o, .int f] => .tuple [o, .int (f % p)]
  | _ => .none
theorem e_by_prime {m p : Int} {a : RF.Tm} (h : Ok m a) (hp : p ∈ primesOf m) : F_by_prime [.d (rule m a), .d (.int p)] = tell (tm (bp p a)) := by
  have e1 := e_need_rule h
  have e2 := e_primes_of h.mo
  have p0 : 0 < p := by have := p_pos hp; omega
  have e3 : gNin (.int p) (.list (iv (primesOf m))) = some (.bool false) := by rw [gNin_l]; simp [hp]
  unfold F_by_prime fb_by_prime
  unfold rule tm at e1 ⊢
  repeat first | simp only [e1, e2, e3] | walk_at "fl"
  rw [lc_some (bpF p) (bpP p) (by have := h.len; rw [List.length_map]; omega)]
  · walk_at "fl"
    congr 3
    unfold bp
    rw [List.filter_map, List.map_map, List.map_map]
    rfl
  · intro d hd
    obtain ⟨q, hq, rfl⟩ := pr_mem hd
    refine ⟨_, rfl, by walk_at "fl", ?_, fun _ => ?_⟩
    · repeat first | simp only [g_mod p0] | walk_at "fl"
      simp only [bpP]
      by_cases e : q.2 % p = 0 <;> simp [e]
    · repeat first | simp only [g_mod p0, bpF] | walk_at "fl"
theorem at_map {p : Int} {vs : List Int} {i : Int} : at' (vs.map fun x => x % p) i = at' vs i % p := by
  unfold at'
  rw [List.length_map, List.getElem?_map]
  cases vs[(i % vs.length).toNat]? with
  | none => simp
  | some x => rfl
theorem step_mod {m p : Int} {a : RF.Tm} {vs : List Int} (hn : vs ≠ []) (hp : 0 < p) (hd : p ∣ m) : (stepR m a vs).map (fun x => x % p) = stepR p (bp p a) (vs.map fun x => x % p) := by
  have hn' : vs.map (fun x => x % p) ≠ [] := by simpa using hn
  refine row_ext (m := p) (fun x hx => ?_) (stepR_pn hp) (by rw [List.length_map, stepR_len, stepR_len, List.length_map]) fun i _ => ?_
  · obtain ⟨y, _, rfl⟩ := List.mem_map.mp hx
    exact ⟨Int.emod_nonneg _ (by omega), Int.emod_lt_of_pos _ hp⟩
  · rw [at_map, at_step hn, at_step hn']
    have h1 : Md p (T a (at' vs) i % m) (T a (at' vs) i) := by
      obtain ⟨c, hc⟩ := (md_mod : Md m (T a (at' vs) i % m) _)
      obtain ⟨k, rfl⟩ := hd
      exact ⟨k * c, by rw [hc, Int.mul_assoc]⟩
    have h2 : Md p (T (bp p a) (at' (vs.map fun x => x % p)) i) (T a (at' vs) i) := by
      refine (T_md (fun j => ?_) i).trans bp_ev
      rw [at_map]
      exact md_mod
    exact md_mod.trans (h1.trans (h2.symm.trans md_mod.symm))
theorem it_mod {m p : Int} {a : RF.Tm} {vs : List Int} (hn : vs ≠ []) (hp : 0 < p) (hd : p ∣ m) : ∀ k, (it (stepR m a) k vs).map (fun x => x % p) = it (stepR p (bp p a)) k (vs.map fun x => x % p)
  | 0 => rfl
  | k + 1 => by
    show (stepR m a (it (stepR m a) k vs)).map (fun x => x % p) = stepR p (bp p a) _
    rw [step_mod (it_ne hn k) hp hd, it_mod hn hp hd k]
theorem rows_same {m : Int} {v w : List Int} (hm : m ∈ mods) (hv : Pn m v) (hw : Pn m w) (hl : v.length = w.length) (h : ∀ p ∈ primesOf m, v.map (fun x => x % p) = w.map fun x => x % p) : v = w := by
  refine List.ext_getElem hl fun i h1 h2 => ?_
  obtain ⟨a0, a1⟩ := hv _ (List.getElem_mem h1)
  obtain ⟨b0, b1⟩ := hw _ (List.getElem_mem h2)
  have e : (w[i] - v[i]) % m = 0 := (mods_dvd hm _).mpr fun p hp => by
    have e1 := h p hp
    have e2 : (v.map fun x => x % p)[i]? = (w.map fun x => x % p)[i]? := by rw [e1]
    rw [List.getElem?_map, List.getElem?_map, List.getElem?_eq_getElem h1, List.getElem?_eq_getElem h2] at e2
    have e3 : v[i] % p = w[i] % p := Option.some.inj e2
    rw [Int.sub_emod, e3, Int.sub_self, Int.zero_emod]
  have mb := modsB hm
  have := (mod_is (m := m) (x := v[i]) (y := w[i]) (by omega) b0 b1).mpr e
  rw [Int.emod_eq_of_lt a0 a1] at this
  exact this
/-- what the primes ps tell of the rows of vs -/
def RhoL (m : Int) (a : RF.Tm) (vs : List Int) (ps : List Int) (b l : Nat) : Prop := 0 < l ∧ ∀ i j, i < j → ((∀ p ∈ ps, (it (stepR m a) i vs).map (fun x => x % p) = (it (stepR m a) j vs).map fun x => x % p) ↔ b ≤ i ∧ l ∣ j - i)
theorem RhoL.nil {m : Int} {a : RF.Tm} {vs : List Int} : RhoL m a vs [] 0 1 := ⟨by decide, fun i j _ => ⟨fun _ => ⟨Nat.zero_le _, Nat.one_dvd _⟩, fun _ p hp => by cases hp⟩⟩
theorem RhoL.snoc {m p : Int} {a : RF.Tm} {vs : List Int} {ps : List Int} {b l b' l' : Nat} (h : RhoL m a vs ps b l) (hn : vs ≠ []) (hp : 0 < p) (hd : p ∣ m) (h' : Rho (stepR p (bp p a)) (vs.map fun x => x % p) b' l') : RhoL m a vs (ps ++ [p]) (max b b') (Nat.lcm l l') := by
  refine ⟨Nat.lcm_pos h.1 h'.1, fun i j hij => ?_⟩
  have e1 := h.2 i j hij
  have e2 := h'.2 i j hij
  rw [← it_mod hn hp hd, ← it_mod hn hp hd] at e2
  constructor
  · intro hh
    obtain ⟨x1, x2⟩ := e1.mp fun q hq => hh q (List.mem_append_left _ hq)
    obtain ⟨y1, y2⟩ := e2.mp (hh p (List.mem_append_right _ (List.mem_singleton.mpr rfl)))
    exact ⟨by omega, Nat.lcm_dvd x2 y2⟩
  · rintro ⟨x, y⟩ q hq
    rcases List.mem_append.mp hq with hq | hq
    · exact e1.mpr ⟨by omega, Nat.dvd_trans (Nat.dvd_lcm_left _ _) y⟩ q hq
    · rw [List.mem_singleton.mp hq]
      exact e2.mpr ⟨by omega, Nat.dvd_trans (Nat.dvd_lcm_right _ _) y⟩
theorem RhoL.rho {m : Int} {a : RF.Tm} {vs : List Int} {b l : Nat} (h : RhoL m a vs (primesOf m) b l) (hv : Rnd m vs) : Rho (stepR m a) vs b l := by
  have mb := modsB hv.mo
  refine ⟨h.1, fun i j hij => ?_⟩
  rw [← h.2 i j hij]
  constructor
  · intro e p _
    rw [e]
  · intro e
    exact rows_same hv.mo (it_pn (by omega) hv.rg i) (it_pn (by omega) hv.rg j) (by rw [it_len, it_len]) e
theorem e_rests {m p : Int} {vs : List Int} (hp : 0 < p) (hl : vs.length ≤ 1000) : F_rests_of [.d (rnd m vs), .d (.int p)] = .ok (.own (.lst (iv (vs.map fun x => x % p)))) [] := by
  unfold F_rests_of fb_rests_of rnd
  repeat first | walk_at "fl"
  rw [lc_all (fun d => match d with
      | .int x => .int (x % p)
      | _ => .none) (by rw [iv_len]; omega)]
  · walk_at "fl"
    congr 3
    simp [iv, Function.comp_def]
  · intro d hd
    obtain ⟨z, hz, rfl⟩ := iv_mem hd
    refine ⟨_, rfl, by walk_at "fl", ?_⟩
    repeat first | simp only [g_mod hp] | walk_at "fl"
structure Okk (m : Int) (a : RF.Tm) : Prop where
  ok : Ok m a
  sm : ∀ q ∈ a, q.1.natAbs < 2 ^ 20
  ln : a.length ≤ 1000
theorem Okk.ta {m : Int} {a : RF.Tm} {p : Int} (h : Okk m a) (hp : p ∈ primesOf m) : Ta p.toNat (bp p a) := by
  have pb := p_pos hp
  have e : ((p.toNat : Nat) : Int) = p := by omega
  refine ⟨?_, ?_, ?_, Nat.le_trans bp_len h.ln⟩
  · have := (List.mem_filter.mp (show p ∈ List.filter _ _ from hp)).1
    simp only [List.mem_cons, List.not_mem_nil, or_false] at this ⊢
    omega
  · rw [e]
    exact fun q hq => bp_mem (by omega) hq
  · intro q hq
    unfold bp at hq
    obtain ⟨r, hr, rfl⟩ := List.mem_map.mp hq
    exact h.sm r (List.mem_filter.mp hr).1
theorem g_lcm {i j : Nat} (hi : i < 2 ^ 64) (hj : j < 2 ^ 64) : gLcm [.int (i : Int), .int (j : Int)] = some (.int ((Nat.lcm i j : Nat) : Int)) := by
  exact (req_pos ⟨by omega, by omega⟩).trans (by rw [Int.natAbs_natCast, Int.natAbs_natCast])
theorem primes_two : ∀ m ∈ mods, (primesOf m).length ≤ 2 := by decide
theorem max_nat {i j : Nat} : (if (j : Int) > (i : Int) then (j : Int) else (i : Int)) = ((max i j : Nat) : Int) := by
  split <;> omega
theorem loop_comes {m : Int} {a : RF.Tm} {vs : List Int} (ha : Okk m a) (hv : Rnd m vs) (hl : vs.length ≤ 12) : ∀ (ps qs : List Int) (b l : Nat) (y z : Option FV), bb y = false → bb z = false → qs ++ ps = primesOf m → RhoL m a vs qs b l → b ≤ 12 → l ≤ 2 ^ (60 * qs.length) →
    ∃ (b' l' : Nat) (y' z' : Option FV), fsGo (tgN 4) lb_comes_again_1 (iv ps) [some (.d (rule m a)), some (.d (rnd m vs)), some (.d (.int b)), some (.d (.int l)), y, z]
      = .ok .nx [some (.d (rule m a)), some (.d (rnd m vs)), some (.d (.int b')), some (.d (.int l')), y', z'] ∧ RhoL m a vs (primesOf m) b' l' ∧ b' ≤ 12 ∧ l' ≤ 2 ^ 120
  | [], qs, b, l, y, z, _, _, hq, h, hb, hlen => by
    rw [List.append_nil] at hq
    subst hq
    refine ⟨b, l, y, z, rfl, h, hb, Nat.le_trans hlen (Nat.pow_le_pow_right (by decide) ?_)⟩
    have := primes_two m hv.mo
    omega
  | p :: ps, qs, b, l, y, z, hy, hz, hq, h, hb, hlen => by
    have hp : p ∈ primesOf m := by rw [← hq]; simp
    have pb := p_pos hp
    have hlen2 : qs.length ≤ 1 := by
      have := primes_two m hv.mo
      rw [← hq, List.length_append, List.length_cons] at this
      omega
    have hP : ((p.toNat : Nat) : Int) = p := by omega
    have hvl : 0 < vs.length := List.length_pos_iff.mpr hv.ne
    have rw' : Rw p.toNat vs.length (vs.map fun x => x % p) := ⟨fun x hx => by
      obtain ⟨w, _, rfl⟩ := List.mem_map.mp hx
      rw [hP]
      exact ⟨Int.emod_nonneg _ (by omega), Int.emod_lt_of_pos _ (by omega)⟩, by rw [List.length_map], hvl, by omega⟩
    obtain ⟨b2, l2, e1, r2, hb2, hl2⟩ := e_again (ha.ta hp) rw' hl
    rw [hP] at e1 r2
    have e2 := e_by_prime ha.ok hp
    have e3 := e_rests (m := m) (p := p) (vs := vs) (by omega) (by omega)
    have nx := h.snoc hv.ne (by omega) (p_dvd hp) r2
    have hl64 : l ≤ 2 ^ 60 := Nat.le_trans hlen (Nat.pow_le_pow_right (by decide) (by omega))
    have hlcm : Nat.lcm l l2 ≤ 2 ^ (60 * (qs ++ [p]).length) := by
      have h1 : Nat.lcm l l2 ≤ l * l2 := Nat.div_le_self _ _
      have h2 : l * l2 ≤ 2 ^ (60 * qs.length) * 2 ^ 60 := Nat.mul_le_mul hlen (by omega)
      rw [List.length_append, List.length_singleton, Nat.mul_add, Nat.pow_add]
      exact Nat.le_trans h1 h2
    obtain ⟨b', l', y', z', e, r⟩ := loop_comes ha hv hl ps (qs ++ [p]) (max b b2) (Nat.lcm l l2) (some (.d (.int p))) (some (.d (.tuple [.int b2, .int l2]))) rfl rfl (by rw [List.append_assoc]; exact hq) nx (by omega) hlcm
    refine ⟨b', l', y', z', (go_nx ?_).trans e, r⟩
    have gl := g_lcm (i := l) (j := l2) (by omega) (by omega)
    have gm : gMax2 [.int (b : Int), .int (b2 : Int)] = some (.int ((max b b2 : Nat) : Int)) := by rw [ap_gmax, max_nat]
    unfold lb_comes_again_1
    generalize rule m a = A at *
    generalize rnd m vs = V at *
    generalize tm (bp p a) = B at *
    repeat first | simp only [hy, hz, e2, e3, e1, gl, gm, max_nat] | walk_at "fl"
theorem e_comes {m : Int} {a : RF.Tm} {vs : List Int} (ha : Okk m a) (hv : Rnd m vs) (hl : vs.length ≤ 12) : ∃ b l : Nat, F_comes_again [.d (rule m a), .d (rnd m vs)] = tell (.tuple [.int b, .int l]) ∧ Rho (stepR m a) vs b l ∧ b ≤ 12 ∧ l ≤ 2 ^ 120 := by
  obtain ⟨b, l, y, z, e, h, hb, hlen⟩ := loop_comes ha hv hl (primesOf m) [] 0 1 none none rfl rfl rfl .nil (by decide) (by decide)
  have e : fsGo (tgN 4) lb_comes_again_1 (iv (primesOf m)) [some (.d (rule m a)), some (.d (rnd m vs)), some (.d (.int 0)), some (.d (.int 1)), none, none] = _ := e
  refine ⟨b, l, ?_, h.rho hv, hb, hlen⟩
  have e0 : F_need_both [.d (rule m a), .d (rnd m vs)] = tell .none := by
    have e1 := e_need_rule ha.ok
    have e2 := e_need_round hv
    have e3 : F_need_same [.d (rule m a), .d (rnd m vs)] = tell .none := e_need_same
    unfold F_need_both fb_need_both
    generalize rule m a = A at *
    generalize rnd m vs = V at *
    repeat first | simp only [e1, e2, e3] | walk_at "fl"
  have e1 := e_primes_of hv.mo
  have e2 : rnd m vs = .tuple [.int m, .tuple (iv vs)] := rfl
  have i0 : atI [PyData.int m, .tuple (iv vs)] 0 = some (.int m) := atI0
  unfold F_comes_again fb_comes_again
  generalize rule m a = A at *
  rw [e2] at e0 e ⊢
  repeat first | simp only [e0, i0, e1, e] | walk_at "fl"
end K31

namespace K31
open PySem hiding rule
open PySem.Spec PyProof.Rows L2 DL FL RF NA
local macro_rules | `(tactic| walk_at "fl") => `(tactic| simp only [ap_var, ap_c, ap_un, ap_unV, ap_op, ap_opO, ap_fn, ap_nil, ap_cons, ap_tr, ap_b, ap_tand, ap_tor, ap_tnot, ap_and, ap_or, ap_not, ap_if, ap_chain, ap_tup, ap_lst, ap_lstO, ap_dictO, ap_frz, ap_sl, ap_no, ap_part, ap_mut, ap_call, ap_callK, ap_get, ap_dict, ap_isi, ap_rep, ap_listO, ap_seq, ap_iargs, ap_lc, ap_lcO, ap_yes, ap_sq, ap_ret, ap_drop, ap_sif, ap_nx, ap_bk, ap_ct, ap_asg, ap_setR, ap_runT, ap_bb0, ap_bbs, ap_bbn, ap_bbd, ap_bbc, ap_bbb, ap_sfrz, ap_setI, ap_setK, ap_for, ap_par, ap_asgT, ap_run, ap_see, ap_seeo, ap_seer, ap_getC, ap_setC, ap_sees0, ap_sees1, ap_parN, ap_view, ap_frza0, ap_frza, ap_frzc, ap_frzb, ap_frzd, ap_frzn, ap_call1, ap_c1o, ap_sar0, ap_sar1, ap_frv, ap_fro, ap_tgN, ap_tgT, fin_val, fin_own, fin_ref, fin_nx, bors_nil, bors_d, bors_b, R.bind_ok, ofO_some, ofB_some, ofOL_list, seeV, frV, vals, setAllF, wipeF, restF, callR, refsOf, argVs, putBack, setR2, setI, setK, ap_glt, ap_gle, ap_ggt, ap_gge, ap_gsub, ap_gadd, ap_gneg, ap_gix, ap_cutl, ap_cutt, ap_gtup, ap_glist, ap_glen, ap_gint, ap_gintb, ap_gabs, ap_gmax, ap_gmin, ap_isN, ap_notN, ap_geq, ap_gne, ap_eqi, ap_eqb, ap_eqs, ap_iol, ap_iot, ap_gtn, ap_gtb, ap_gti, ap_gtl, ap_gtt, ap_isn0, ap_isni, ap_isnl, ap_isnt, ap_revl, ap_revt, ap_enum, ap_zipl, ap_zipt, intsOf_map, boolsOf_map, ap_cellL, startF, List.map_cons, List.map_nil, List.length_cons, List.length_nil, List.replicate_succ, List.replicate_zero, List.cons_append, List.nil_append, List.append_nil, List.getElem?_cons_zero, List.getElem?_cons_succ, List.getElem?_nil, List.set_cons_zero, List.set_cons_succ, List.set_nil, Option.map_some, Option.map_none, Option.bind_some, Option.bind_none, Nat.reduceSub, Nat.reduceAdd, if_true, if_false, Bool.false_eq_true, reduceIte, true_and, and_true, Nat.sub_zero, Nat.zero_add, reduceCtorEq, List.nodup_nil, List.nodup_cons, List.not_mem_nil, not_false_eq_true, and_self, Bool.not_true, Bool.not_false, Bool.not_not, decide_true, decide_false, Nat.reduceLeDiff, atI0, atI1, req_true])
/-- as many draws as n -/
def Jar (n : Nat) (c : Cell) : Prop := ∃ a b k : Int, c = .lst [.int a, .int b, .int k] ∧ 0 ≤ b ∧ b < 2 ^ 110 ∧ 0 ≤ k ∧ k ≤ n
theorem Jar.mono {n m : Nat} {c : Cell} (h : Jar n c) (hl : n ≤ m) : Jar m c := by
  obtain ⟨a, b, k, h1, h2, h3, h4, h5⟩ := h
  exact ⟨a, b, k, h1, h2, h3, h4, by omega⟩
theorem e_take {c : Cell} {n : Nat} {many : Int} (h : Jar n c) (h1 : 1 ≤ many) (h2 : many ≤ 10 ^ 60) (hn : n ≤ 1000000) :
    ∃ r c', F__law_take [.b c, .d (.int many)] = .ok (.val (.int r)) [c'] ∧ 0 ≤ r ∧ r < many ∧ Jar (n + 1) c' := by
  obtain ⟨a, b, k, rfl, hb0, hb1, hc0, hc1⟩ := h
  unfold F__law_take fb__law_take
  have hm : (0 : Int) < many := by omega
  by_cases ha : 0 < a
  · refine ⟨a % many, _, ?_, Int.emod_nonneg _ (by omega), Int.emod_lt_of_pos _ hm, ⟨a / many, b, k, rfl, hb0, hb1, hc0, by omega⟩⟩
    repeat first | simp only [ix0, ha, decide_true, g_mod hm, g_fdiv (divW hm (Int.lt_of_le_of_lt h2 (by decide)) _), jx0] | walk_at "fl"
  · have e1 : (0 : Int) < 10 ^ (31 : Int).toNat + 33 := by decide
    have e2 : (0 : Int) < 10 ^ (29 : Int).toNat + 319 := by decide
    have k1 : Bits 314159265 (k + 1) := Bits.of (a := 30) (b := 30) (by decide) (bits_le (by omega)) (by decide)
    have k0 : Bits 17 (k + 1) := Bits.of (a := 30) (b := 30) (by decide) (bits_le (by omega)) (by decide)
    have k4 : Bits 6421 (k + 1) := Bits.of (a := 30) (b := 30) (by decide) (bits_le (by omega)) (by decide)
    have k2 : CPowB (b + 314159265 * (k + 1)) 3 := powB (k := 120) (by decide) (bits_le (by have : b < 2 ^ 110 := Int.lt_of_lt_of_le hb1 (by decide); omega)) (by decide)
    generalize hx : ((b + 314159265 * (k + 1)) ^ (3 : Int).toNat + 17 * (k + 1)) % (10 ^ (31 : Int).toNat + 33) = x
    have x0 : 0 ≤ x := by rw [← hx]; exact Int.emod_nonneg _ (by decide)
    have x1 : x < 2 ^ 104 := by rw [← hx]; exact Int.lt_of_lt_of_le (Int.emod_lt_of_pos _ e1) (by decide)
    have k5 : Bits x (x + 6421 * (k + 1)) := Bits.of (a := 104) (b := 120) (bits_le (by omega)) (bits_le (by omega)) (by decide)
    refine ⟨x * (x + 6421 * (k + 1)) % (10 ^ (29 : Int).toNat + 319) / 16381 % many, _, ?_, Int.emod_nonneg _ (by omega), Int.emod_lt_of_pos _ hm, ⟨a, b, k + 1, rfl, hb0, hb1, by omega, by omega⟩⟩
    repeat first | simp only [ix0, ix1, NA.ix2, ha, decide_false, g_add, g_mul k1, g_mul k0, g_mul k4, g_pow k2, g_pow (show CPowB 10 31 from pw 31 (by decide)), g_mod e1, hx, g_mul k5, g_pow (show CPowB 10 29 from pw 29 (by decide)), g_mod e2, g_fdiv (divW (j := 16381) (by decide) (by decide) _), g_mod hm, jx2] | walk_at "fl"
theorem e_jar {ns : List Int} {k : Nat} (hl : ns.length ≤ 63) (hb : ∀ z ∈ ns, Builtin.Int.intBits z ≤ 1048576) (hk : k ≤ 1000) : ∃ c, F__law_jar [.d (.list (iv ns)), .d (.int k)] = .ok (.own c) [] ∧ Jar 0 c := by
  have e27 : (0 : Int) < 10 ^ (30 : Int).toNat + 57 := by decide
  have e24 : (0 : Int) < 10 ^ (22 : Int).toNat + 9 := by decide
  obtain ⟨z2, z3⟩ := sum_mod e24 ns
  have z4 : (ns.map fun x => x % (10 ^ (22 : Int).toNat + 9)).sum ≤ 63 * (10 ^ (22 : Int).toNat + 9) := Int.le_trans z3 (Int.mul_le_mul_of_nonneg_right (by omega) (by decide))
  have z5 : (63 : Int) * (10 ^ (22 : Int).toNat + 9) < 2 ^ 100 := by decide
  generalize hT : (ns.map fun x => x % (10 ^ (22 : Int).toNat + 9)).sum = T at z2 z4
  have hB : Bits (T + 83 * (ns.length : Int)) 2654435 := Bits.of (a := 110) (b := 30) (bits_le (by omega)) (bits_le (by decide)) (by decide)
  have h83 : Bits 83 (ns.length : Int) := Bits.of (a := 7) (b := 10) (bits_le (by decide)) (bits_le (by omega)) (by decide)
  have h31 : Bits 31 (k : Int) := Bits.of (a := 6) (b := 10) (bits_le (by decide)) (bits_le (by omega)) (by decide)
  have hlc : ∀ ε0 ε1 ε2 ε3 ε5 : Option FV, fLcGo (tgN 4) fYes (fOp FL.gMod (fFn gInt (faCons (fVar 4) faNil)) (fOp FL.gAdd (fOp FL.gPow (fC (.int 10)) (fC (.int 22))) (fC (.int 9)))) [4] (iv ns) [] [ε0, ε1, ε2, ε3, none, ε5] = .ok (iv (ns.map fun x => x % (10 ^ (22 : Int).toNat + 9))) [ε0, ε1, ε2, ε3, none, ε5] := fun ε0 ε1 ε2 ε3 ε5 => by
    rw [lc_all (fun d => match d with
      | .int x => .int (x % (10 ^ (22 : Int).toNat + 9))
      | _ => .none) (by simp [iv]; omega)]
    · congr 1
      simp [iv, Function.comp_def]
    · intro d hd
      obtain ⟨z, hz, rfl⟩ := iv_mem hd
      refine ⟨_, rfl, by walk_at "fl", ?_⟩
      repeat first | simp only [g_add, g_pow (show CPowB 10 22 from pw 22 (by decide)), g_mod e24] | walk_at "fl"
  have hlen : ((iv ns).length : Int) = (ns.length : Int) := by simp [iv]
  have main : ∀ x : Int, Builtin.Int.intBits x ≤ 1048576 → (if (k : Int) < (ns.length : Int) then atI (iv ns) (k : Int) = some (.int x) else x = 31 * (k : Int) + 19) → ∃ c, F__law_jar [.d (.list (iv ns)), .d (.int k)] = .ok (.own c) [] ∧ Jar 0 c := fun x hx hxx => by
    have k1 : Bits (if x < 0 then -x else x) 40503 := Bits.of (a := 1048576) (b := 20) (absB hx) (bits_le (by decide)) (by decide)
    have jar : ∀ a b : Int, Jar 0 (.lst [.int a, .int (b % (10 ^ (30 : Int).toNat + 57)), .int 0]) := fun a b => ⟨_, _, _, rfl, Int.emod_nonneg _ (by decide), Int.lt_of_lt_of_le (Int.emod_lt_of_pos _ e27) (by decide), by decide, by decide⟩
    suffices h : Told (fun r bs => ∃ c, r = .own c ∧ bs = [] ∧ Jar 0 c) (F__law_jar [.d (.list (iv ns)), .d (.int k)]) by
      obtain ⟨r, bs, e, c, rfl, rfl, h⟩ := told_ex h
      exact ⟨c, e, h⟩
    have k5 : ∀ b : Bool, FL.gMul (.int 5) (.int (if b = true then 1 else 0)) = some (.int (5 * if b = true then 1 else 0)) := fun b => g_mul (bits_small (by decide) (by cases b <;> decide))
    unfold F__law_jar fb__law_jar
    by_cases hlt : (k : Int) < (ns.length : Int)
    · rw [if_pos hlt] at hxx
      repeat first | simp only [g_add, g_mul h31, hlen, hlt, decide_true, hxx, hlc, gSum_iv, hT, g_mul h83, g_mul k1, k5, g_mul hB, g_pow (show CPowB 10 30 from pw 30 (by decide)), g_mod e27, g_pow (show CPowB 10 18 from pw 18 (by decide))] | walk_at "fl"
      exact ⟨_, rfl, rfl, jar _ _⟩
    · rw [if_neg hlt] at hxx
      subst hxx
      repeat first | simp only [g_add, g_mul h31, hlen, hlt, decide_false, hlc, gSum_iv, hT, g_mul h83, g_mul k1, k5, g_mul hB, g_pow (show CPowB 10 30 from pw 30 (by decide)), g_mod e27, g_pow (show CPowB 10 18 from pw 18 (by decide))] | walk_at "fl"
      exact ⟨_, rfl, rfl, jar _ _⟩
  by_cases hlt : (k : Int) < (ns.length : Int)
  · have hlt' : k < ns.length := by omega
    refine main ns[k] (hb _ (List.getElem_mem hlt')) ?_
    rw [if_pos hlt]
    exact atI_nat (by simp [iv, hlt'])
  · refine main (31 * (k : Int) + 19) (Nat.le_trans (bits_le (k := 100) (by omega)) (by decide)) ?_
    rw [if_neg hlt]
end K31

namespace K31
open PySem hiding rule
open PySem.Spec PyProof.Rows L2 DL FL RF NA
local macro_rules | `(tactic| walk_at "fl") => `(tactic| simp only [ap_var, ap_c, ap_un, ap_unV, ap_op, ap_opO, ap_fn, ap_nil, ap_cons, ap_tr, ap_b, ap_tand, ap_tor, ap_tnot, ap_and, ap_or, ap_not, ap_if, ap_chain, ap_tup, ap_lst, ap_lstO, ap_dictO, ap_frz, ap_sl, ap_no, ap_part, ap_mut, ap_call, ap_callK, ap_get, ap_dict, ap_isi, ap_rep, ap_listO, ap_seq, ap_iargs, ap_lc, ap_lcO, ap_yes, ap_sq, ap_ret, ap_drop, ap_sif, ap_nx, ap_bk, ap_ct, ap_asg, ap_setR, ap_runT, ap_bb0, ap_bbs, ap_bbn, ap_bbd, ap_bbc, ap_bbb, ap_sfrz, ap_setI, ap_setK, ap_for, ap_par, ap_asgT, ap_run, ap_see, ap_seeo, ap_seer, ap_getC, ap_setC, ap_sees0, ap_sees1, ap_parN, ap_view, ap_frza0, ap_frza, ap_frzc, ap_frzb, ap_frzd, ap_frzn, ap_call1, ap_c1o, ap_sar0, ap_sar1, ap_frv, ap_fro, ap_tgN, ap_tgT, fin_val, fin_own, fin_ref, fin_nx, bors_nil, bors_d, bors_b, R.bind_ok, ofO_some, ofB_some, ofOL_list, seeV, frV, vals, setAllF, wipeF, restF, callR, refsOf, argVs, putBack, setR2, setI, setK, ap_glt, ap_gle, ap_ggt, ap_gge, ap_gsub, ap_gadd, ap_gneg, ap_gix, ap_cutl, ap_cutt, ap_gtup, ap_glist, ap_glen, ap_gint, ap_gintb, ap_gabs, ap_gmax, ap_gmin, ap_isN, ap_notN, ap_geq, ap_gne, ap_eqi, ap_eqb, ap_eqs, ap_iol, ap_iot, ap_gtn, ap_gtb, ap_gti, ap_gtl, ap_gtt, ap_isn0, ap_isni, ap_isnl, ap_isnt, ap_revl, ap_revt, ap_enum, ap_zipl, ap_zipt, intsOf_map, boolsOf_map, ap_cellL, startF, List.map_cons, List.map_nil, List.length_cons, List.length_nil, List.replicate_succ, List.replicate_zero, List.cons_append, List.nil_append, List.append_nil, List.getElem?_cons_zero, List.getElem?_cons_succ, List.getElem?_nil, List.set_cons_zero, List.set_cons_succ, List.set_nil, Option.map_some, Option.map_none, Option.bind_some, Option.bind_none, Nat.reduceSub, Nat.reduceAdd, if_true, if_false, Bool.false_eq_true, reduceIte, true_and, and_true, Nat.sub_zero, Nat.zero_add, reduceCtorEq, List.nodup_nil, List.nodup_cons, List.not_mem_nil, not_false_eq_true, and_self, Bool.not_true, Bool.not_false, Bool.not_not, decide_true, decide_false, Nat.reduceLeDiff, atI0, atI1, req_true])
theorem iv_snoc' {a : List Int} {x : Int} : iv a ++ [.int x] = iv (a ++ [x]) := by simp [iv]
theorem g_append {xs : List PyData} {x : PyData} (h : xs.length + 1 ≤ 900000) : gAppend xs [x] = some (.none, xs ++ [x]) := req_pos (by omega)
def pdF (vs : List Int) (j : Int) : PyData → PyData
  | .tuple [.int o, .int f] => .int (f * at' vs (j + o))
  | _ => .none
theorem pd_f {a : RF.Tm} {vs : List Int} {j : Int} : (a.map pr).map (pdF vs j) = iv (a.map fun p => p.2 * at' vs (j + p.1)) := by
  unfold iv
  rw [List.map_map, List.map_map]
  rfl
theorem loop_step {m : Int} {a : RF.Tm} {vs : List Int} (ha : Ok m a) (hv : Rnd m vs) : ∀ (js acc : List Int) (y : Option FV), acc.length + js.length ≤ 900000 → bb y = false →
    ∃ y', fsGo (tgN 4) lb__law_step_1 (iv js) [some (.d (rule m a)), some (.d (.tuple (iv vs))), some (.d (.int vs.length)), some (.c (.lst (iv acc))), y, none, none]
      = .ok .nx [some (.d (rule m a)), some (.d (.tuple (iv vs))), some (.d (.int vs.length)), some (.c (.lst (iv (acc ++ js.map fun j => (ev a fun o => at' vs (j + o)) % m)))), y', none, none]
  | [], acc, y, _, _ => ⟨y, by rw [List.map_nil, List.append_nil]; rfl⟩
  | j :: js, acc, y, hl, hy => by
    simp only [List.length_cons] at hl
    have m0 := mods_pos ha.mo
    have hl0 : (0 : Int) < vs.length := by have := List.length_pos_iff.mpr hv.ne; omega
    have hlen : ((iv vs).length : Int) = (vs.length : Int) := by simp [iv]
    obtain ⟨y', e⟩ := loop_step ha hv js (acc ++ [(ev a fun o => at' vs (j + o)) % m]) (some (.d (.int j))) (by simp; omega) rfl
    refine ⟨y', ?_⟩
    rw [show iv (j :: js) = .int j :: iv js from rfl]
    rw [List.append_assoc] at e
    refine (go_nx ?_).trans e
    have hacc : (iv acc).length + 1 ≤ 900000 := by simp [iv]; omega
    unfold lb__law_step_1 rule tm
    repeat first | simp only [hy] | walk_at "fl"
    rw [lc_all (pdF vs j) (by have := ha.len; simp; omega), pd_f]
    · repeat first | simp only [gSum_iv, g_mod m0, g_append hacc, iv_snoc'] | walk_at "fl"
      rfl
    · intro d hd
      obtain ⟨p, hp, rfl⟩ := pr_mem hd
      have h1 := ha.cn.vl p hp
      have h2 := at_rg hv.rg m0 (j + p.1)
      have h3 := modsB ha.mo
      refine ⟨_, rfl, by walk_at "fl", ?_⟩
      repeat first | simp only [pdF, hlen, g_mod hl0, at_ix _ hv.ne, g_mul (bits_small (v := p.2) (c := at' vs (j + p.1)) (by omega) (by omega))] | walk_at "fl"
theorem e_lstep {m : Int} {a : RF.Tm} {vs : List Int} (ha : Ok m a) (hv : Rnd m vs) : F__law_step [.d (rule m a), .d (.tuple (iv vs))] = tell (.tuple (iv (stepR m a vs))) := by
  have hlen : ((iv vs).length : Int) = (vs.length : Int) := by simp [iv]
  have rg : gRange1 [.int (vs.length : Int)] = some (rangeD 0 vs.length) := by
    rw [gRange1]
    exact (req_pos (by have := hv.len; omega)).trans (by rw [Int.toNat_natCast])
  obtain ⟨y, e⟩ := loop_step ha hv ((List.range vs.length).map fun (i : Nat) => (i : Int)) [] none (by have := hv.len; simp; omega) rfl
  have e2 : ([] : List Int) ++ (((List.range vs.length).map fun (i : Nat) => (i : Int)).map fun j => (ev a fun o => at' vs (j + o)) % m) = stepR m a vs := by
    unfold stepR
    rw [List.map_map]
    rfl
  rw [e2, ← rangeD0, show iv ([] : List Int) = [] from rfl] at e
  unfold F__law_step fb__law_step
  repeat first | simp only [hlen, rg, e] | walk_at "fl"
theorem e_lmod {c : Cell} {n : Nat} (h : Jar n c) (hn : n ≤ 1000000) : ∃ m c', F__law_modulus [.b c] = .ok (.val (.int m)) [c'] ∧ m ∈ mods ∧ Jar (n + 1) c' := by
  obtain ⟨r, c', e, r0, r1, hp⟩ := e_take h (many := 10) (by decide) (by decide) hn
  obtain ⟨d, e2, hd⟩ := getI (xs := [PyData.int 2, .int 3, .int 5, .int 6, .int 7, .int 10, .int 11, .int 13, .int 14, .int 15]) r0 r1
  have : [PyData.int 2, .int 3, .int 5, .int 6, .int 7, .int 10, .int 11, .int 13, .int 14, .int 15] = iv mods := rfl
  rw [this] at hd
  obtain ⟨m, hm, rfl⟩ := iv_mem hd
  refine ⟨m, c', ?_, hm, hp⟩
  unfold F__law_modulus fb__law_modulus
  repeat first | simp only [e, e2] | walk_at "fl"
/-- one of four, all in range -/
theorem pick_rg {m : Int} {xs : List Int} (h : Pn m xs) {r : Int} (h0 : 0 ≤ r) (h1 : r < xs.length) : ∃ v, atI (iv xs) r = some (.int v) ∧ 0 ≤ v ∧ v < m := by
  obtain ⟨d, e, hd⟩ := getI (xs := iv xs) h0 (by simpa [iv] using h1)
  obtain ⟨v, hv, rfl⟩ := iv_mem hd
  exact ⟨v, e, h v hv⟩
def prF (root m : Int) : PyData → PyData
  | .tuple [.int x, .int y] => .int ((x - root * y) % m)
  | _ => .none
theorem prF_zip {root m : Int} : ∀ {ws us : List Int}, (zipD (iv ws) (iv us)).map (prF root m) = iv (List.zipWith (fun x y => (x - root * y) % m) ws us)
  | [], _ => by simp [iv, zipD]
  | _ :: _, [] => by simp [iv, zipD]
  | x :: ws, y :: us => by
    have ih := prF_zip (root := root) (m := m) (ws := ws) (us := us)
    simp only [iv, List.map_cons, zipD, List.zipWith_cons_cons] at ih ⊢
    rw [ih]
    rfl
theorem loop_product {m u : Int} (hm : m ∈ mods) (u0 : 0 ≤ u) (u1 : u < m) : ∀ (ds : List PyData) (c : Cell) (n : Nat) (f : List Int) (x2 y z : Option FV), Jar n c → n + 2 * ds.length ≤ 1000000 → Pn m f → f.length + ds.length ≤ 100 → bb y = false → bb z = false →
    ∃ f' c' y' z', fsGo (tgN 5) lb__law_product_1 ds [some (.b c), some (.d (.int m)), x2, some (.d (.int u)), some (.d (.list (iv f))), y, z, none, none]
      = .ok .nx [some (.b c'), some (.d (.int m)), x2, some (.d (.int u)), some (.d (.list (iv f'))), y', z', none, none] ∧ Pn m f' ∧ f'.length = f.length + ds.length ∧ Jar (n + 2 * ds.length) c'
  | [], c, n, f, x2, y, z, h, _, pf, _, _, _ => ⟨f, c, y, z, rfl, pf, rfl, h⟩
  | d :: ds, c, n, f, x2, y, z, h, hn, pf, hl, hy, hz => by
    simp only [List.length_cons] at hn hl
    have mb := modsB hm
    have m0 : 0 < m := by omega
    obtain ⟨t, c1, e1, t0, t1, j1⟩ := e_take h (many := m) (by omega) (Int.le_trans mb.2 (by decide)) (by omega)
    obtain ⟨r, c2, e2, r0, r1, j2⟩ := e_take j1 (many := 4) (by decide) (by decide) (by omega)
    obtain ⟨v, ev, v0, v1⟩ := pick_rg (m := m) (xs := [u, u, u, t]) (fun x hx => by
      simp only [List.mem_cons, List.not_mem_nil, or_false] at hx
      rcases hx with rfl | rfl | rfl | rfl <;> omega) r0 r1
    have ev : atI [PyData.int u, PyData.int u, PyData.int u, PyData.int t] r = some (.int v) := ev
    have p2 : Pn m (List.zipWith (fun x y => (x - v * y) % m) (0 :: f) (f ++ [0])) := fun x hx => by
      obtain ⟨i, hi, rfl⟩ := List.getElem_of_mem hx
      rw [List.getElem_zipWith]
      exact ⟨Int.emod_nonneg _ (by omega), Int.emod_lt_of_pos _ m0⟩
    have l2 : (List.zipWith (fun x y => (x - v * y) % m) (0 :: f) (f ++ [0])).length = f.length + 1 := by simp
    obtain ⟨f', c', y', z', e, pf', lf', j'⟩ := loop_product hm u0 u1 ds c2 (n + 2) _ x2 (some (.d d)) (some (.d (.int v))) j2 (by omega) p2 (by rw [l2]; omega) rfl rfl
    refine ⟨f', c', y', z', (go_nx ?_).trans e, pf', by rw [lf', l2, List.length_cons]; omega, j'.mono (by simp only [List.length_cons]; omega)⟩
    have hlc : ∀ x0 x2 x3 x4 x5 : Option FV, fLcGo (tgT [7, 8]) fYes (fOp gMod (fFn gInt (faCons (fOp gSub (fVar 7) (fOp gMul (fVar 6) (fVar 8))) faNil)) (fVar 1)) [7, 8] (zipD (iv (0 :: f)) (iv (f ++ [0]))) [] [x0, some (.d (.int m)), x2, x3, x4, x5, some (.d (.int v)), none, none]
        = .ok (iv (List.zipWith (fun x y => (x - v * y) % m) (0 :: f) (f ++ [0]))) [x0, some (.d (.int m)), x2, x3, x4, x5, some (.d (.int v)), none, none]   := fun x0 x2 x3 x4 x5 => by
      rw [lc_all (prF v m) (by have := zipD_len (iv (0 :: f)) (iv (f ++ [0])); rw [show (iv (0 :: f)).length = (0 :: f).length from List.length_map _, List.length_cons] at this; omega), prF_zip]
      intro d hd
      obtain ⟨x, y, hx, hy, rfl⟩ := zip_mem _ _ _ hd
      obtain ⟨i, hi, rfl⟩ := iv_mem hx
      obtain ⟨j, hj, rfl⟩ := iv_mem hy
      have hj2 : 0 ≤ j ∧ j < m := by
        rcases List.mem_append.mp hj with h | h
        · exact pf j h
        · rw [List.mem_singleton.mp h]; omega
      refine ⟨_, rfl, by walk_at "fl", ?_⟩
      repeat first | simp only [prF, g_mod m0, g_mul (bits_small (v := v) (c := j) (by omega) (by omega))] | walk_at "fl"
    have ea : FL.gAdd (.list [.int 0]) (.list (iv f)) = some (.list (iv (0 :: f))) := gadd_l (by simp [iv]; omega)
    have eb : FL.gAdd (.list (iv f)) (.list [.int 0]) = some (.list (iv (f ++ [0]))) := (gadd_l (by simp [iv]; omega)).trans (by rw [iv_snoc'])
    unfold lb__law_product_1
    repeat first | simp only [hy, hz, e1, e2, ev, ea, eb, hlc] | walk_at "fl"
theorem e_product {c : Cell} {n : Nat} {m : Int} (h : Jar n c) (hm : m ∈ mods) (hn : n ≤ 100000) : ∃ f c', F__law_product [.b c, .d (.int m), .d (.int 8)] = .ok (.val (.list (iv f))) [c'] ∧ Pn m f ∧ 0 < f.length ∧ f.length ≤ 9 ∧ Jar (n + 20) c' := by
  have mb := modsB hm
  obtain ⟨t, c1, e1, t0, t1, j1⟩ := e_take h (many := m - 1) (by omega) (Int.le_trans (b := 15) (by omega) (by decide)) (by omega)
  obtain ⟨r, c2, e2, r0, r1, j2⟩ := e_take j1 (many := 3) (by decide) (by decide) (by omega)
  obtain ⟨u, eu, u0, u1⟩ := pick_rg (m := m) (xs := [1, m - 1, 1 + t]) (fun x hx => by
    simp only [List.mem_cons, List.not_mem_nil, or_false] at hx
    rcases hx with rfl | rfl | rfl <;> omega) r0 r1
  have eu : atI [PyData.int 1, PyData.int (m - 1), PyData.int (1 + t)] r = some (.int u) := eu
  obtain ⟨k, c3, e3, k0, k1, j3⟩ := e_take j2 (many := 9) (by decide) (by decide) (by omega)
  have rg : gRange1 [.int k] = some (rangeD 0 k.toNat) := req_pos (by omega)
  have lr : (rangeD 0 k.toNat).length = k.toNat := by simp [rangeD]
  obtain ⟨f, c', y, z, e, pf, lf, j4⟩ := loop_product hm u0 u1 (rangeD 0 k.toNat) c3 _ [1] (some (.d (.int 8))) none none j3 (by rw [lr]; omega) (fun x hx => by rw [List.mem_singleton.mp hx]; omega) (by rw [lr, List.length_singleton]; omega) rfl rfl
  rw [lr, List.length_singleton] at lf
  have e : fsGo (tgN 5) lb__law_product_1 (rangeD 0 k.toNat) [some (.b c3), some (.d (.int m)), some (.d (.int 8)), some (.d (.int u)), some (.d (.list [.int 1])), none, none, none, none] = _ := e
  refine ⟨f, c', ?_, pf, by omega, by omega, j4.mono (by rw [lr]; omega)⟩
  unfold F__law_product fb__law_product
  repeat first | simp only [e1, e2, eu, e3, rg, e, show (8 : Int) + 1 = 9 from rfl, g_add] | walk_at "fl"
def prs (low : Int) : Nat → List Int → RF.Tm
  | _, [] => []
  | k, x :: r => (low + k, x) :: prs low (k + 1) r
theorem prs_mem {low : Int} : ∀ {b : List Int} {k : Nat} {q : Int × Int}, q ∈ prs low k b → low + k ≤ q.1 ∧ q.2 ∈ b
  | [], _, _, h => by cases h
  | x :: r, k, q, h => by
    rcases List.mem_cons.mp h with rfl | h
    · exact ⟨Int.le_refl _, List.mem_cons_self⟩
    · obtain ⟨h1, h2⟩ := prs_mem h
      exact ⟨by omega, List.mem_cons_of_mem _ h2⟩
theorem prs_up {low : Int} : ∀ {b : List Int} {k : Nat} {q : Int × Int}, q ∈ prs low k b → q.1 < low + k + b.length
  | [], _, _, h => by cases h
  | x :: r, k, q, h => by
    rw [List.length_cons]
    rcases List.mem_cons.mp h with rfl | h
    · show low + (k : Int) < _
      omega
    · have := prs_up h
      omega
theorem prs_so {low : Int} : ∀ {b : List Int} {k : Nat}, (prs low k b).Pairwise fun x y => x.1 < y.1
  | [], _ => .nil
  | x :: r, k => List.pairwise_cons.mpr ⟨fun q hq => by have := (prs_mem hq).1; show low + (k : Int) < _; omega, prs_so⟩
theorem prs_len {low : Int} : ∀ {b : List Int} {k : Nat}, (prs low k b).length = b.length
  | [], _ => rfl
  | x :: r, k => by unfold prs; rw [List.length_cons, List.length_cons, prs_len]
def tF (low s m : Int) : PyData → PyData
  | .tuple [.int i, .int x] => .tuple [.int (low + i), .int (x * s % m)]
  | _ => .none
theorem tF_enum {low s m : Int} : ∀ {b : List Int} {k : Nat}, (enumD k (iv b)).map (tF low s m) = (prs low k (b.map fun x => x * s % m)).map pr
  | [], _ => rfl
  | x :: r, k => by
    rw [show enumD k (iv (x :: r)) = .tuple [.int k, .int x] :: enumD (k + 1) (iv r) from rfl, List.map_cons, tF_enum]
    rfl
def posP : PyData → Bool
  | .tuple [_, .int x] => decide (x > 0)
  | _ => false
theorem rule_end {c : Cell} {n : Nat} {m : Int} {b : List Int} (h : Jar n c) (hm : m ∈ mods) (hn : n ≤ 100000) (pb : Pn m b) (b1 : b.length ≤ 9) :
    ∃ r6 c1 t c2 r5 c3 s a ts, F__law_take [.b c, .d (.int (10 - (b.length : Int)))] = .ok (.val (.int r6)) [c1] ∧ F__law_take [.b c1, .d (.int m)] = .ok (.val (.int t)) [c2] ∧ F__law_take [.b c2, .d (.int 5)] = .ok (.val (.int r5)) [c3] ∧
      atI [PyData.int 1, PyData.int 1, PyData.int 1, PyData.int 1, PyData.int t] r5 = some (.int s) ∧
      (∀ x0 x2 x3 x4 x8 x10 : Option FV, fLcGo (tgT [9, 5]) fYes (fTup (faCons (fOp gAdd (fVar 6) (fVar 9)) (faCons (fOp gMod (fFn gInt (faCons (fOp gMul (fVar 5) (fVar 7)) faNil)) (fVar 1)) faNil))) [9, 5] (enumD 0 (iv b)) [] [x0, some (.d (.int m)), x2, x3, x4, none, some (.d (.int (r6 - 4))), some (.d (.int s)), x8, none, x10]
        = .ok ts [x0, some (.d (.int m)), x2, x3, x4, none, some (.d (.int (r6 - 4))), some (.d (.int s)), x8, none, x10]) ∧
      (∀ x0 x1 x2 x3 x4 x5 x6 x7 x8 x9 : Option FV, fLcGo (tgN 10) (fB (fOp gGt (fOp gIx (fVar 10) (fC (.int 1))) (fC (.int 0)))) (fVar 10) [10] ts [] [x0, x1, x2, x3, x4, x5, x6, x7, x8, x9, none]
        = .ok (a.map pr) [x0, x1, x2, x3, x4, x5, x6, x7, x8, x9, none]) ∧ Okk m a ∧ Jar (n + 3) c3 := by
  have mb := modsB hm
  have m0 : 0 < m := by omega
  obtain ⟨r6, c1, e1, r60, r61, j1⟩ := e_take h (many := 10 - (b.length : Int)) (by omega) (Int.le_trans (b := 10) (by omega) (by decide)) (by omega)
  obtain ⟨t, c2, e2, t0, t1, j2⟩ := e_take j1 (many := m) (by omega) (Int.le_trans mb.2 (by decide)) (by omega)
  obtain ⟨r5, c3, e3, r50, r51, j3⟩ := e_take j2 (many := 5) (by decide) (by decide) (by omega)
  obtain ⟨s, es, s0, s1⟩ := pick_rg (m := m) (xs := [1, 1, 1, 1, t]) (fun x hx => by
    simp only [List.mem_cons, List.not_mem_nil, or_false] at hx
    rcases hx with rfl | rfl | rfl | rfl | rfl <;> omega) r50 r51
  refine ⟨r6, c1, t, c2, r5, c3, s, (prs (r6 - 4) 0 (b.map fun x => x * s % m)).filter (fun q => decide (q.2 > 0)), (prs (r6 - 4) 0 (b.map fun x => x * s % m)).map pr, e1, e2, e3, es, fun x0 x2 x3 x4 x8 x10 => ?_, fun x0 x1 x2 x3 x4 x5 x6 x7 x8 x9 => ?_, ⟨⟨hm, ⟨?_, ?_⟩, ?_⟩, ?_, ?_⟩, j3⟩
  · rw [lc_all (tF (r6 - 4) s m) (by rw [enumD_len]; simp [iv]; omega), tF_enum]
    intro d hd
    obtain ⟨i, x, _, _, hx, rfl⟩ := enumD_mem _ _ _ hd
    obtain ⟨v, hv, rfl⟩ := iv_mem (List.mem_of_getElem? hx)
    have := pb v hv
    refine ⟨_, rfl, by walk_at "fl", ?_⟩
    repeat first | simp only [tF, g_mod m0, g_mul (bits_small (v := v) (c := s) (by omega) (by omega)), g_add] | walk_at "fl"
  · rw [lc_some (fun d => d) posP (by rw [List.length_map, prs_len, List.length_map]; omega)]
    · rw [List.map_id', List.filter_map]
      rfl
    · intro d hd
      obtain ⟨q, hq, rfl⟩ := pr_mem hd
      refine ⟨_, rfl, by walk_at "fl", ?_, fun _ => by walk_at "fl"⟩
      repeat first | simp only [posP] | walk_at "fl"
  · exact List.Pairwise.sublist List.filter_sublist prs_so
  · intro q hq
    obtain ⟨h1, h2⟩ := List.mem_filter.mp hq
    obtain ⟨x, _, e⟩ := List.mem_map.mp (prs_mem h1).2
    have h3 : q.2 > 0 := of_decide_eq_true h2
    refine ⟨h3, ?_⟩
    rw [← e]
    exact Int.emod_lt_of_pos _ m0
  · refine Nat.le_trans (List.length_filter_le _ _) ?_
    rw [prs_len, List.length_map]
    omega
  · intro q hq
    obtain ⟨h1, _⟩ := List.mem_filter.mp hq
    have h3 := (prs_mem h1).1
    have h4 := prs_up h1
    rw [List.length_map] at h4
    omega
  · refine Nat.le_trans (List.length_filter_le _ _) ?_
    rw [prs_len, List.length_map]
    omega
theorem e_rule {c : Cell} {n : Nat} {m : Int} (h : Jar n c) (hm : m ∈ mods) (hn : n ≤ 10000) : ∃ a c', F__law_rule [.b c, .d (.int m)] = .ok (.val (rule m a)) [c'] ∧ Okk m a ∧ Jar (n + 60) c' := by
  have mb := modsB hm
  have m0 : 0 < m := by omega
  obtain ⟨way, c1, ew, w0, w1, j1⟩ := e_take h (many := 5) (by decide) (by decide) (by omega)
  have hlen : ∀ b : List Int, ((iv b).length : Int) = (b.length : Int) := fun b => by simp [iv]
  by_cases h2 : way < 2
  · obtain ⟨b, c2, eb, pb, b0, b9, j2⟩ := e_product j1 hm (by omega)
    obtain ⟨r6, c3, t, c4, r5, c5, s, a, ts, e1, e2, e3, e4, e5, e6, oa, j3⟩ := rule_end j2 hm (by omega) pb b9
    refine ⟨a, c5, ?_, oa, j3.mono (by omega)⟩
    unfold F__law_rule fb__law_rule
    repeat first | simp only [ew, h2, decide_true, eb, hlen, e1, e2, e3, e4, e5, e6] | walk_at "fl"
    rfl
  · obtain ⟨k, c2, ek, k0, k1, j2⟩ := e_take j1 (many := 9) (by decide) (by decide) (by omega)
    have rg : gRange1 [.int (1 + k)] = some (rangeD 0 (1 + k).toNat) := req_pos (by omega)
    have lr : (rangeD 0 (1 + k).toNat).length = (1 + k).toNat := by simp [rangeD]
    obtain ⟨ys, ε', ey, py, c3, rfl, j3⟩ := lc_rel (gf := tgN 4) (tt := fYes) (fe := fCall F__law_take (faCons (fVar 0) (faCons (fVar 1) faNil))) (vs := [4])
      (fun k ε => ∃ c, ε = [some (.b c), some (.d (.int m)), some (.d (.int way)), none, none, none, none, none, none, none, none] ∧ Jar k c) (fun _ r => ∃ v : Int, r = PyData.int v ∧ 0 ≤ v ∧ v < m) 1 900000 (rangeD 0 (1 + k).toNat) [] (n + 2) _ (by rw [lr, List.length_nil]; omega) (by rw [lr]; omega) ⟨c2, rfl, j2⟩ (by
      rintro d hd k ε ⟨c, rfl, hc⟩ hk
      obtain ⟨f, c', e, f0, f1, hp⟩ := e_take hc (many := m) (by omega) (Int.le_trans mb.2 (by decide)) (by omega)
      refine ⟨_, _, .int f, [some (.b c'), some (.d (.int m)), some (.d (.int way)), none, some (.d d), none, none, none, none, none, none], rfl, rfl, ?_, ⟨f, rfl, f0, f1⟩, c', by walk_at "fl", hp⟩
      repeat first | simp only [e] | walk_at "fl")
    rw [List.nil_append] at ey
    obtain ⟨b, rfl, pb, lb⟩ := paired_rg py
    rw [lr] at lb
    by_cases h3 : way = 2
    · subst h3
      obtain ⟨zs, ε', ez, pz, c4, rfl, j4⟩ := lc_rel (gf := tgN 5) (tt := fYes) (fe := fOp gMul (fVar 5) (fFn gInt (faCons (fOp gEq (fCall F__law_take (faCons (fVar 0) (faCons (fC (.int 3)) faNil))) (fC (.int 0))) faNil))) (vs := [5])
        (fun k ε => ∃ c, ε = [some (.b c), some (.d (.int m)), some (.d (.int 2)), some (.d (.list (iv b))), none, none, none, none, none, none, none] ∧ Jar k c) (fun _ r => ∃ v : Int, r = PyData.int v ∧ 0 ≤ v ∧ v < m) 1 900000 (iv b) [] (n + 2 + 1 * (rangeD 0 (1 + k).toNat).length) _ (by rw [List.length_nil]; simp [iv]; omega) (by rw [lr]; simp [iv]; omega) ⟨c3, rfl, j3⟩ (by
        rintro d hd k ε ⟨c, rfl, hc⟩ hk
        obtain ⟨x, hx, rfl⟩ := iv_mem hd
        have := pb x hx
        obtain ⟨f, c', e, f0, f1, hp⟩ := e_take hc (many := 3) (by decide) (by decide) (by omega)
        refine ⟨_, _, .int (x * (if f = 0 then 1 else 0)), [some (.b c'), some (.d (.int m)), some (.d (.int 2)), some (.d (.list (iv b))), none, some (.d (.int x)), none, none, none, none, none], rfl, rfl, ?_, ⟨_, rfl, by split <;> omega, by split <;> omega⟩, c', by walk_at "fl", hp⟩
        by_cases hf : f = 0
        · subst hf
          repeat first | simp only [e, eqP, decide_true, if_true, g_mul (bits_small (v := x) (c := 1) (by omega) (by decide))] | walk_at "fl"
        · repeat first | simp only [e, eqP, hf, decide_false, if_false, g_mul (bits_small (v := x) (c := 0) (by omega) (by decide))] | walk_at "fl")
      rw [List.nil_append] at ez
      obtain ⟨b', rfl, pb', lb'⟩ := paired_rg pz
      have lb2 : b'.length ≤ 9 := by rw [lb']; simp [iv]; omega
      obtain ⟨r6, c5, t, c6, r5, c7, s, a, ts, e1, e2, e3, e4, e5, e6, oa, j5⟩ := rule_end j4 hm (by rw [lr]; simp [iv]; omega) pb' lb2
      refine ⟨a, c7, ?_, oa, j5.mono (by rw [lr]; simp [iv]; omega)⟩
      unfold F__law_rule fb__law_rule
      repeat first | simp only [ew, show decide ((2 : Int) < 2) = false from rfl, ek, g_add, rg, ey, eqP, ez, hlen, e1, e2, e3, e4, e5, e6] | walk_at "fl"
      rfl
    · obtain ⟨r6, c5, t, c6, r5, c7, s, a, ts, e1, e2, e3, e4, e5, e6, oa, j5⟩ := rule_end j3 hm (by rw [lr]; omega) pb (by omega)
      refine ⟨a, c7, ?_, oa, j5.mono (by rw [lr]; omega)⟩
      unfold F__law_rule fb__law_rule
      repeat first | simp only [ew, h2, h3, decide_false, ek, g_add, rg, ey, eqP, hlen, e1, e2, e3, e4, e5, e6] | walk_at "fl"
      rfl
theorem e_values {c : Cell} {n : Nat} {m : Int} {L : Nat} (h : Jar n c) (hm : m ∈ mods) (hL : 0 < L) (hL2 : L ≤ 60) (hn : n ≤ 10000) : ∃ us c', F__law_values [.b c, .d (.int m), .d (.int L)] = .ok (.val (.tuple (iv us))) [c'] ∧ Pn m us ∧ us.length = L ∧ Jar (n + 200) c' := by
  have mb := modsB hm
  have m0 : 0 < m := by omega
  obtain ⟨way, c1, ew, w0, w1, j1⟩ := e_take h (many := 4) (by decide) (by decide) (by omega)
  have rL : gRange1 [.int (L : Int)] = some (rangeD 0 L) := by
    rw [gRange1]
    exact (req_pos (by omega)).trans (by rw [Int.toNat_natCast])
  have lL : (rangeD 0 L).length = L := by simp [rangeD]
  by_cases h0 : way = 0
  · subst h0
    obtain ⟨k, c2, ek, k0, k1, j2⟩ := e_take j1 (many := (L : Int)) (by omega) (Int.le_trans (b := 60) (by omega) (by decide)) (by omega)
    have rg : gRange1 [.int (1 + k)] = some (rangeD 0 (1 + k).toNat) := req_pos (by omega)
    have lr : (rangeD 0 (1 + k).toNat).length = (1 + k).toNat := by simp [rangeD]
    obtain ⟨ys, ε', ey, py, c3, rfl, j3⟩ := lc_rel (gf := tgN 5) (tt := fYes) (fe := fCall F__law_take (faCons (fVar 0) (faCons (fVar 1) faNil))) (vs := [5])
      (fun k ε => ∃ c, ε = [some (.b c), some (.d (.int m)), some (.d (.int L)), some (.d (.int 0)), none, none, none] ∧ Jar k c) (fun _ r => ∃ v : Int, r = PyData.int v ∧ 0 ≤ v ∧ v < m) 1 900000 (rangeD 0 (1 + k).toNat) [] (n + 2) _ (by rw [lr, List.length_nil]; omega) (by rw [lr]; omega) ⟨c2, rfl, j2⟩ (by
      rintro d hd k ε ⟨c, rfl, hc⟩ hk
      obtain ⟨f, c', e, f0, f1, hp⟩ := e_take hc (many := m) (by omega) (Int.le_trans mb.2 (by decide)) (by omega)
      refine ⟨_, _, .int f, [some (.b c'), some (.d (.int m)), some (.d (.int L)), some (.d (.int 0)), none, some (.d d), none], rfl, rfl, ?_, ⟨f, rfl, f0, f1⟩, c', by walk_at "fl", hp⟩
      repeat first | simp only [e] | walk_at "fl")
    rw [List.nil_append] at ey
    obtain ⟨own, rfl, po, lo⟩ := paired_rg py
    rw [lr] at lo
    have lo0 : 0 < own.length := by omega
    have hlen : ((iv own).length : Int) = (own.length : Int) := by simp [iv]
    refine ⟨(List.range L).map fun (i : Nat) => at' own i, c3, ?_, fun x hx => ?_, by simp, j3.mono (by rw [lr]; omega)⟩
    · unfold F__law_values fb__law_values
      repeat first | simp only [ew, eqP, decide_true, ek, g_add, rg, ey, rL] | walk_at "fl"
      rw [lc_all (fun d => match d with
        | .int i => .int (at' own i)
        | _ => .none) (by rw [lL]; omega)]
      · walk_at "fl"
        rw [rangeD0]
        simp [iv, Function.comp_def]
      · intro d hd
        rw [rangeD0] at hd
        obtain ⟨i, _, rfl⟩ := iv_mem hd
        refine ⟨_, rfl, by walk_at "fl", ?_⟩
        repeat first | simp only [hlen, g_mod (show (0 : Int) < own.length by omega), at_ix i (List.length_pos_iff.mp lo0)] | walk_at "fl"
    · obtain ⟨i, _, rfl⟩ := List.mem_map.mp hx
      exact at_rg po m0 i
  · by_cases h1 : way = 1
    · subst h1
      obtain ⟨ys, ε', ey, py, c3, rfl, j3⟩ := lc_rel (gf := tgN 6) (tt := fYes) (fe := fOp gMul (fCall F__law_take (faCons (fVar 0) (faCons (fVar 1) faNil))) (fFn gInt (faCons (fOp gEq (fCall F__law_take (faCons (fVar 0) (faCons (fC (.int 4)) faNil))) (fC (.int 0))) faNil))) (vs := [6])
        (fun k ε => ∃ c, ε = [some (.b c), some (.d (.int m)), some (.d (.int L)), some (.d (.int 1)), none, none, none] ∧ Jar k c) (fun _ r => ∃ v : Int, r = PyData.int v ∧ 0 ≤ v ∧ v < m) 2 900000 (rangeD 0 L) [] (n + 1) _ (by rw [lL, List.length_nil]; omega) (by rw [lL]; omega) ⟨c1, rfl, j1⟩ (by
        rintro d hd k ε ⟨c, rfl, hc⟩ hk
        obtain ⟨x, c2, e1, x0, x1, hp⟩ := e_take hc (many := m) (by omega) (Int.le_trans mb.2 (by decide)) (by omega)
        obtain ⟨f, c', e, f0, f1, hp⟩ := e_take hp (many := 4) (by decide) (by decide) (by omega)
        refine ⟨_, _, .int (x * (if f = 0 then 1 else 0)), [some (.b c'), some (.d (.int m)), some (.d (.int L)), some (.d (.int 1)), none, none, some (.d d)], rfl, rfl, ?_, ⟨_, rfl, by split <;> omega, by split <;> omega⟩, c', by walk_at "fl", hp⟩
        by_cases hf : f = 0
        · subst hf
          repeat first | simp only [e1, e, eqP, decide_true, if_true, g_mul (bits_small (v := x) (c := 1) (by omega) (by decide))] | walk_at "fl"
        · repeat first | simp only [e1, e, eqP, hf, decide_false, if_false, g_mul (bits_small (v := x) (c := 0) (by omega) (by decide))] | walk_at "fl")
      rw [List.nil_append] at ey
      obtain ⟨us, rfl, pu, lu⟩ := paired_rg py
      refine ⟨us, c3, ?_, pu, by rw [lu, lL], j3.mono (by rw [lL]; omega)⟩
      unfold F__law_values fb__law_values
      repeat first | simp only [ew, eqP, show decide ((1 : Int) = 0) = false from rfl, decide_true, rL, ey] | walk_at "fl"
    · obtain ⟨ys, ε', ey, py, c3, rfl, j3⟩ := lc_rel (gf := tgN 6) (tt := fYes) (fe := fCall F__law_take (faCons (fVar 0) (faCons (fVar 1) faNil))) (vs := [6])
        (fun k ε => ∃ c, ε = [some (.b c), some (.d (.int m)), some (.d (.int L)), some (.d (.int way)), none, none, none] ∧ Jar k c) (fun _ r => ∃ v : Int, r = PyData.int v ∧ 0 ≤ v ∧ v < m) 1 900000 (rangeD 0 L) [] (n + 1) _ (by rw [lL, List.length_nil]; omega) (by rw [lL]; omega) ⟨c1, rfl, j1⟩ (by
        rintro d hd k ε ⟨c, rfl, hc⟩ hk
        obtain ⟨f, c', e, f0, f1, hp⟩ := e_take hc (many := m) (by omega) (Int.le_trans mb.2 (by decide)) (by omega)
        refine ⟨_, _, .int f, [some (.b c'), some (.d (.int m)), some (.d (.int L)), some (.d (.int way)), none, none, some (.d d)], rfl, rfl, ?_, ⟨f, rfl, f0, f1⟩, c', by walk_at "fl", hp⟩
        repeat first | simp only [e] | walk_at "fl")
      rw [List.nil_append] at ey
      obtain ⟨us, rfl, pu, lu⟩ := paired_rg py
      refine ⟨us, c3, ?_, pu, by rw [lu, lL], j3.mono (by rw [lL]; omega)⟩
      unfold F__law_values fb__law_values
      repeat first | simp only [ew, eqP, h0, h1, decide_false, rL, ey] | walk_at "fl"
end K31

namespace K31
open PySem hiding rule
open PySem.Spec PyProof.Rows L2 DL FL RF NA
local macro_rules | `(tactic| walk_at "fl") => `(tactic| simp only [ap_var, ap_c, ap_un, ap_unV, ap_op, ap_opO, ap_fn, ap_nil, ap_cons, ap_tr, ap_b, ap_tand, ap_tor, ap_tnot, ap_and, ap_or, ap_not, ap_if, ap_chain, ap_tup, ap_lst, ap_lstO, ap_dictO, ap_frz, ap_sl, ap_no, ap_part, ap_mut, ap_call, ap_callK, ap_get, ap_dict, ap_isi, ap_rep, ap_listO, ap_seq, ap_iargs, ap_lc, ap_lcO, ap_yes, ap_sq, ap_ret, ap_drop, ap_sif, ap_nx, ap_bk, ap_ct, ap_asg, ap_setR, ap_runT, ap_bb0, ap_bbs, ap_bbn, ap_bbd, ap_bbc, ap_bbb, ap_sfrz, ap_setI, ap_setK, ap_for, ap_par, ap_asgT, ap_run, ap_see, ap_seeo, ap_seer, ap_getC, ap_setC, ap_sees0, ap_sees1, ap_parN, ap_view, ap_frza0, ap_frza, ap_frzc, ap_frzb, ap_frzd, ap_frzn, ap_call1, ap_c1o, ap_sar0, ap_sar1, ap_frv, ap_fro, ap_tgN, ap_tgT, fin_val, fin_own, fin_ref, fin_nx, bors_nil, bors_d, bors_b, R.bind_ok, ofO_some, ofB_some, ofOL_list, seeV, frV, vals, setAllF, wipeF, restF, callR, refsOf, argVs, putBack, setR2, setI, setK, ap_glt, ap_gle, ap_ggt, ap_gge, ap_gsub, ap_gadd, ap_gneg, ap_gix, ap_cutl, ap_cutt, ap_gtup, ap_glist, ap_glen, ap_gint, ap_gintb, ap_gabs, ap_gmax, ap_gmin, ap_isN, ap_notN, ap_geq, ap_gne, ap_eqi, ap_eqb, ap_eqs, ap_iol, ap_iot, ap_gtn, ap_gtb, ap_gti, ap_gtl, ap_gtt, ap_isn0, ap_isni, ap_isnl, ap_isnt, ap_revl, ap_revt, ap_enum, ap_zipl, ap_zipt, intsOf_map, boolsOf_map, ap_cellL, startF, List.map_cons, List.map_nil, List.length_cons, List.length_nil, List.replicate_succ, List.replicate_zero, List.cons_append, List.nil_append, List.append_nil, List.getElem?_cons_zero, List.getElem?_cons_succ, List.getElem?_nil, List.set_cons_zero, List.set_cons_succ, List.set_nil, Option.map_some, Option.map_none, Option.bind_some, Option.bind_none, Nat.reduceSub, Nat.reduceAdd, if_true, if_false, Bool.false_eq_true, reduceIte, true_and, and_true, Nat.sub_zero, Nat.zero_add, reduceCtorEq, List.nodup_nil, List.nodup_cons, List.not_mem_nil, not_false_eq_true, and_self, Bool.not_true, Bool.not_false, Bool.not_not, decide_true, decide_false, Nat.reduceLeDiff, atI0, atI1, req_true])
def seenR (m : Int) (a : RF.Tm) (vs : List Int) (t : Nat) : List (List Int × PyData) := (List.range t).map fun (i : Nat) => (it (stepR m a) i vs, PyData.int (i : Int))
theorem seen_len {m : Int} {a : RF.Tm} {vs : List Int} {t : Nat} : (seenR m a vs t).length = t := by simp [seenR]
theorem seen_none {m : Int} {a : RF.Tm} {vs w : List Int} {t : Nat} (h : ∀ i, i < t → it (stepR m a) i vs ≠ w) : valI (seenR m a vs t) w = none := by
  unfold valI
  rw [List.find?_eq_none.mpr]
  · rfl
  · intro x hx
    unfold seenR at hx
    obtain ⟨i, hi, rfl⟩ := List.mem_map.mp hx
    simpa using h i (List.mem_range.mp hi)
theorem seen_some {m : Int} {a : RF.Tm} {vs w : List Int} {t b : Nat} (hb : b < t) (e : it (stepR m a) b vs = w) (h : ∀ i, i < t → it (stepR m a) i vs = w → i = b) : valI (seenR m a vs t) w = some (.int (b : Int)) := by
  unfold valI
  cases hf : (seenR m a vs t).find? fun x => decide (x.1 = w) with
  | none =>
    have := List.find?_eq_none.mp hf (it (stepR m a) b vs, PyData.int (b : Int)) (List.mem_map.mpr ⟨b, List.mem_range.mpr hb, rfl⟩)
    simp [e] at this
  | some x =>
    have h1 := List.mem_of_find?_eq_some hf
    have h2 := List.find?_some hf
    unfold seenR at h1
    obtain ⟨i, hi, rfl⟩ := List.mem_map.mp h1
    have := h i (List.mem_range.mp hi) (of_decide_eq_true h2)
    subst this
    rfl
theorem seen_put {m : Int} {a : RF.Tm} {vs : List Int} {t : Nat} (h : ∀ i, i < t → it (stepR m a) i vs ≠ it (stepR m a) t vs) : putI (seenR m a vs t) (it (stepR m a) t vs) (.int (t : Int)) = seenR m a vs (t + 1) := by
  unfold putI
  rw [if_neg]
  · unfold seenR
    rw [List.range_succ, List.map_append]
    rfl
  · rw [Bool.not_eq_true, List.any_eq_false]
    intro x hx
    unfold seenR at hx
    obtain ⟨i, hi, rfl⟩ := List.mem_map.mp hx
    simpa using h i (List.mem_range.mp hi)
theorem keyI_iv {l : List Int} : keyI (.tuple (iv l)) = some l := keyI_t
theorem rnd_it {m : Int} {a : RF.Tm} {vs : List Int} (h : Rnd m vs) (k : Nat) : Rnd m (it (stepR m a) k vs) := by
  have mb := modsB h.mo
  exact ⟨h.mo, it_ne h.ne k, it_pn (by omega) h.rg k, by rw [it_len]; exact h.len⟩
theorem loop_walk {m : Int} {a : RF.Tm} {vs : List Int} {b l : Nat} (ha : Ok m a) (hv : Rnd m vs) (hr : Rho (stepR m a) vs b l) {x1 x2 : Option FV} : ∀ (j s : Nat) (y : Option FV), bb y = false → s + j = 401 → s ≤ b + l →
    (b + l ≤ 400 ∧ ∃ y3 y4 y5, fsGo (tgN 5) lb__law_walked_1 ((List.range' s j).map fun (i : Nat) => PyData.int i) [some (.d (rule m a)), x1, x2, some (.c (.dti (seenR m a vs s))), some (.d (.tuple (iv (it (stepR m a) s vs)))), y]
      = .ok (.rt (.val (.tuple [.int b, .int l]))) [some (.d (rule m a)), x1, x2, y3, y4, y5]) ∨ (400 < b + l ∧ ∃ y3 y4 y5, fsGo (tgN 5) lb__law_walked_1 ((List.range' s j).map fun (i : Nat) => PyData.int i) [some (.d (rule m a)), x1, x2, some (.c (.dti (seenR m a vs s))), some (.d (.tuple (iv (it (stepR m a) s vs)))), y]
      = .ok .nx [some (.d (rule m a)), x1, x2, y3, y4, y5])
  | 0, s, y, _, hj, hs => .inr ⟨by omega, _, _, _, rfl⟩
  | j + 1, s, y, hy, hj, hs => by
    have l0 := hr.1
    rw [List.range'_succ, List.map_cons]
    by_cases he : s = b + l
    · refine .inl ⟨by omega, ?_⟩
      have e1 : it (stepR m a) b vs = it (stepR m a) s vs := (hr.2 b s (by omega)).mpr ⟨Nat.le_refl _, ⟨1, by omega⟩⟩
      have e2 := seen_some (w := it (stepR m a) s vs) (t := s) (b := b) (by omega) e1 (fun i hi e => by
        obtain ⟨h1, h2⟩ := (hr.2 i s hi).mp e
        have := Nat.le_of_dvd (by omega) h2
        omega)
      have e3 : (s : Int) - (b : Int) = (l : Int) := by omega
      refine ⟨_, _, _, go_rt (ε2 := [some (.d (rule m a)), x1, x2, some (.c (.dti (seenR m a vs s))), some (.d (.tuple (iv (it (stepR m a) s vs)))), some (.d (.int (s : Int)))]) ?_⟩
      unfold lb__law_walked_1
      generalize seenR m a vs s = S at *
      repeat first | simp only [hy, ap_inI, ap_ixI, keyI_iv, e2, e3, Option.isSome_some] | walk_at "fl"
    · have hlt : ∀ i, i < s → it (stepR m a) i vs ≠ it (stepR m a) s vs := fun i hi e => by
        obtain ⟨h1, h2⟩ := (hr.2 i s hi).mp e
        have := Nat.le_of_dvd (by omega) h2
        omega
      have e1 := seen_none hlt
      have e2 := seen_put hlt
      have e3 := e_lstep ha (rnd_it hv (a := a) s)
      rw [show stepR m a (it (stepR m a) s vs) = it (stepR m a) (s + 1) vs from rfl] at e3
      have hl : (seenR m a vs s).length < 900000 := by rw [seen_len]; omega
      have body : lb__law_walked_1 [some (.d (rule m a)), x1, x2, some (.c (.dti (seenR m a vs s))), some (.d (.tuple (iv (it (stepR m a) s vs)))), some (.d (.int (s : Int)))]
          = .ok .nx [some (.d (rule m a)), x1, x2, some (.c (.dti (seenR m a vs (s + 1)))), some (.d (.tuple (iv (it (stepR m a) (s + 1) vs)))), some (.d (.int (s : Int)))] := by
        unfold lb__law_walked_1
        generalize seenR m a vs s = S at *
        generalize seenR m a vs (s + 1) = S' at *
        generalize rule m a = A at *
        repeat first | simp only [ap_inI, ap_setDI, setDI, keyI_iv, e1, hl, e2, e3, Option.isSome_none] | walk_at "fl"
      have st : ∀ {q}, fsGo (tgN 5) lb__law_walked_1 ((List.range' (s + 1) j).map fun (i : Nat) => PyData.int i) [some (.d (rule m a)), x1, x2, some (.c (.dti (seenR m a vs (s + 1)))), some (.d (.tuple (iv (it (stepR m a) (s + 1) vs)))), some (.d (.int (s : Int)))] = q →
          fsGo (tgN 5) lb__law_walked_1 (PyData.int (s : Int) :: (List.range' (s + 1) j).map fun (i : Nat) => PyData.int i) [some (.d (rule m a)), x1, x2, some (.c (.dti (seenR m a vs s))), some (.d (.tuple (iv (it (stepR m a) s vs)))), y] = q := fun e => by
        refine (go_nx ?_).trans e
        repeat first | simp only [hy] | walk_at "fl"
        exact body
      rcases loop_walk ha hv hr (x1 := x1) (x2 := x2) j (s + 1) (some (.d (.int (s : Int)))) rfl (by omega) (by omega) with ⟨h1, y3, y4, y5, e⟩ | ⟨h1, y3, y4, y5, e⟩
      · exact .inl ⟨h1, y3, y4, y5, st e⟩
      · exact .inr ⟨h1, y3, y4, y5, st e⟩
theorem e_walked {m : Int} {a : RF.Tm} {vs : List Int} {b l : Nat} (ha : Ok m a) (hv : Rnd m vs) (hr : Rho (stepR m a) vs b l) :
    (b + l ≤ 400 ∧ F__law_walked [.d (rule m a), .d (.tuple (iv vs)), .d (.int 400)] = tell (.tuple [.int b, .int l])) ∨ (400 < b + l ∧ F__law_walked [.d (rule m a), .d (.tuple (iv vs)), .d (.int 400)] = tell .none) := by
  have rg : gRange1 [.int 401] = some ((List.range' 0 401).map fun (i : Nat) => PyData.int i) := by
    rw [gRange1]
    refine (req_pos (by decide)).trans ?_
    rw [← List.range_eq_range', rangeD0, iv, List.map_map]
    rfl
  have e400 : (400 : Int) + 1 = 401 := by decide
  rcases loop_walk ha hv hr (x1 := some (.d (.tuple (iv vs)))) (x2 := some (.d (.int 400))) 401 0 none rfl (by omega) (by omega) with ⟨h1, y3, y4, y5, e⟩ | ⟨h1, y3, y4, y5, e⟩
  · refine .inl ⟨h1, ?_⟩
    have e : fsGo (tgN 5) lb__law_walked_1 ((List.range' 0 401).map fun (i : Nat) => PyData.int i) [some (.d (rule m a)), some (.d (.tuple (iv vs))), some (.d (.int 400)), some (.c (.dti [])), some (.d (.tuple (iv vs))), none] = _ := e
    generalize (List.range' 0 401).map (fun (i : Nat) => PyData.int i) = D at *
    unfold F__law_walked fb__law_walked
    repeat first | simp only [ap_dictIO, e400, rg, e] | walk_at "fl"
  · refine .inr ⟨h1, ?_⟩
    have e : fsGo (tgN 5) lb__law_walked_1 ((List.range' 0 401).map fun (i : Nat) => PyData.int i) [some (.d (rule m a)), some (.d (.tuple (iv vs))), some (.d (.int 400)), some (.c (.dti [])), some (.d (.tuple (iv vs))), none] = _ := e
    generalize (List.range' 0 401).map (fun (i : Nat) => PyData.int i) = D at *
    unfold F__law_walked fb__law_walked
    repeat first | simp only [ap_dictIO, e400, rg, e] | walk_at "fl"
theorem dvals {b l : Nat} (hb : b ≤ 12) (hl : l ≤ 2 ^ 120) : gRepr [.tuple [.int (b : Int), .int (l : Int)]] = some (.str (PyData.tuple [.int (b : Int), .int (l : Int)]).shown) :=
  g_repr ((DL.Pl.pair (DL.Pl.int (by omega)) (DL.Pl.int (by omega))).sz.show (by decide) (by decide))
theorem right_lc {b l : Nat} {x0 x1 x2 x3 : Option FV} : fLcGo (tgN 5) fYes (fAndV (fIsi "int" (fVar 5)) (fNotV (fIsi "bool" (fVar 5)))) [5] [PyData.int (b : Int), .int (l : Int)] [] [x0, x1, x2, x3, some (.d (.tuple [.int (b : Int), .int (l : Int)])), none]
    = .ok [.bool true, .bool true] [x0, x1, x2, x3, some (.d (.tuple [.int (b : Int), .int (l : Int)])), none] := by
  rw [lc_all (fun _ => .bool true) (by simp)]
  · rfl
  · intro d hd
    have : ∃ i : Int, d = .int i := by
      simp only [List.mem_cons, List.not_mem_nil, or_false] at hd
      rcases hd with rfl | rfl <;> exact ⟨_, rfl⟩
    obtain ⟨i, rfl⟩ := this
    refine ⟨_, rfl, by walk_at "fl", ?_⟩
    have k1 : ((kitB (kindOf (PyData.int i)) "int").getD false) = true := rfl
    have k2 : ((kitB (kindOf (PyData.int i)) "bool").getD false) = false := rfl
    repeat first | simp only [k1, k2] | walk_at "fl"
theorem right_body {b l : Nat} {d : PyData} {x0 x1 : Option FV} (hb : b ≤ 12) (hl : l ≤ 2 ^ 120) (l0 : 0 < l) (hd : (b + l ≤ 400 ∧ d = .tuple [.int (b : Int), .int (l : Int)]) ∨ (400 < b + l ∧ d = .none)) :
    lb__law_right_1 [x0, x1, some (.d (.int 400)), some (.d d), some (.d (.tuple [.int (b : Int), .int (l : Int)])), none] = .ok .nx [x0, x1, some (.d (.int 400)), some (.d d), some (.d (.tuple [.int (b : Int), .int (l : Int)])), none] := by
  have e1 := dvals hb hl
  have e2 := right_lc (b := b) (l := l) (x0 := x0) (x1 := x1) (x2 := some (.d (.int 400))) (x3 := some (.d d))
  have k1 : ((kitB (kindOf (PyData.tuple [.int (b : Int), .int (l : Int)])) "tuple").getD false) = true := rfl
  have c1 : decide ((b : Int) < 0) = false := decide_eq_false (by omega)
  have c2 : decide ((l : Int) < 1) = false := decide_eq_false (by omega)
  have c3 : gAll [.list [.bool true, .bool true]] = some (.bool true) := rfl
  have c4 : decide (((2 : Nat) : Int) = 2) = true := rfl
  rcases hd with ⟨hd, rfl⟩ | ⟨hd, rfl⟩
  · have n1 : isNone (PyData.tuple [.int (b : Int), .int (l : Int)]) = false := rfl
    unfold lb__law_right_1
    repeat first | simp only [n1, e1, e2, k1, c1, c2, c3, c4] | walk_at "fl"
  · have n1 : isNone PyData.none = true := rfl
    have c5 : decide ((b : Int) + (l : Int) ≤ 400) = false := decide_eq_false (by omega)
    unfold lb__law_right_1
    repeat first | simp only [n1, e2, k1, c1, c2, c3, c4, c5] | walk_at "fl"
theorem e_right {m : Int} {a : RF.Tm} {vs : List Int} (ha : Okk m a) (hv : Rnd m vs) (hl : vs.length ≤ 12) : F__law_right [.d (rule m a), .d (.tuple (iv vs)), .d (.int 400)] = tell (.bool true) := by
  obtain ⟨b, l, e1, hr, hb, hl2⟩ := e_comes ha hv hl
  obtain ⟨d, hd, ed⟩ : ∃ d : PyData, ((b + l ≤ 400 ∧ d = .tuple [.int (b : Int), .int (l : Int)]) ∨ (400 < b + l ∧ d = .none)) ∧ F__law_walked [.d (rule m a), .d (.tuple (iv vs)), .d (.int 400)] = tell d := by
    rcases e_walked ha.ok hv hr with ⟨h1, h2⟩ | ⟨h1, h2⟩
    · exact ⟨_, .inl ⟨h1, rfl⟩, h2⟩
    · exact ⟨_, .inr ⟨h1, rfl⟩, h2⟩
  have body := right_body (x0 := some (.d (rule m a))) (x1 := some (.d (.tuple (iv vs)))) hb hl2 hr.1 hd
  generalize hD : PyData.tuple [.int (b : Int), .int (l : Int)] = D at *
  have lp : fsGo (tgN 4) lb__law_right_1 [D, D] [some (.d (rule m a)), some (.d (.tuple (iv vs))), some (.d (.int 400)), some (.d d), none, none] = .ok .nx [some (.d (rule m a)), some (.d (.tuple (iv vs))), some (.d (.int 400)), some (.d d), some (.d D), none] := by
    refine (go_nx (ε2 := [some (.d (rule m a)), some (.d (.tuple (iv vs))), some (.d (.int 400)), some (.d d), some (.d D), none]) ?_).trans ((go_nx ?_).trans rfl)
    · repeat first | walk_at "fl"
      exact body
    · repeat first | walk_at "fl"
      exact body
  have i0 : atI [PyData.int m, tm a] 0 = some (.int m) := atI0
  have e2 : rnd m vs = .tuple [.int m, .tuple (iv vs)] := rfl
  rw [e2] at e1
  unfold F__law_right fb__law_right
  unfold rule at e1 ed lp ⊢
  repeat first | simp only [ed, i0, e1, g_comes_again_row_rule, lp] | walk_at "fl"
end K31

namespace K31
open PySem hiding rule
open PySem.Spec PyProof.Rows L2 DL FL RF NA
local macro_rules | `(tactic| walk_at "fl") => `(tactic| simp only [ap_var, ap_c, ap_un, ap_unV, ap_op, ap_opO, ap_fn, ap_nil, ap_cons, ap_tr, ap_b, ap_tand, ap_tor, ap_tnot, ap_and, ap_or, ap_not, ap_if, ap_chain, ap_tup, ap_lst, ap_lstO, ap_dictO, ap_frz, ap_sl, ap_no, ap_part, ap_mut, ap_call, ap_callK, ap_get, ap_dict, ap_isi, ap_rep, ap_listO, ap_seq, ap_iargs, ap_lc, ap_lcO, ap_yes, ap_sq, ap_ret, ap_drop, ap_sif, ap_nx, ap_bk, ap_ct, ap_asg, ap_setR, ap_runT, ap_bb0, ap_bbs, ap_bbn, ap_bbd, ap_bbc, ap_bbb, ap_sfrz, ap_setI, ap_setK, ap_for, ap_par, ap_asgT, ap_run, ap_see, ap_seeo, ap_seer, ap_getC, ap_setC, ap_sees0, ap_sees1, ap_parN, ap_view, ap_frza0, ap_frza, ap_frzc, ap_frzb, ap_frzd, ap_frzn, ap_call1, ap_c1o, ap_sar0, ap_sar1, ap_frv, ap_fro, ap_tgN, ap_tgT, fin_val, fin_own, fin_ref, fin_nx, bors_nil, bors_d, bors_b, R.bind_ok, ofO_some, ofB_some, ofOL_list, seeV, frV, vals, setAllF, wipeF, restF, callR, refsOf, argVs, putBack, setR2, setI, setK, ap_glt, ap_gle, ap_ggt, ap_gge, ap_gsub, ap_gadd, ap_gneg, ap_gix, ap_cutl, ap_cutt, ap_gtup, ap_glist, ap_glen, ap_gint, ap_gintb, ap_gabs, ap_gmax, ap_gmin, ap_isN, ap_notN, ap_geq, ap_gne, ap_eqi, ap_eqb, ap_eqs, ap_iol, ap_iot, ap_gtn, ap_gtb, ap_gti, ap_gtl, ap_gtt, ap_isn0, ap_isni, ap_isnl, ap_isnt, ap_revl, ap_revt, ap_enum, ap_zipl, ap_zipt, intsOf_map, boolsOf_map, ap_cellL, startF, List.map_cons, List.map_nil, List.length_cons, List.length_nil, List.replicate_succ, List.replicate_zero, List.cons_append, List.nil_append, List.append_nil, List.getElem?_cons_zero, List.getElem?_cons_succ, List.getElem?_nil, List.set_cons_zero, List.set_cons_succ, List.set_nil, Option.map_some, Option.map_none, Option.bind_some, Option.bind_none, Nat.reduceSub, Nat.reduceAdd, if_true, if_false, Bool.false_eq_true, reduceIte, true_and, and_true, Nat.sub_zero, Nat.zero_add, reduceCtorEq, List.nodup_nil, List.nodup_cons, List.not_mem_nil, not_false_eq_true, and_self, Bool.not_true, Bool.not_false, Bool.not_not, decide_true, decide_false, Nat.reduceLeDiff, atI0, atI1, req_true])
theorem loop_later {m : Int} {a : RF.Tm} {x0 x1 x2 x3 x4 x6 x7 x10 : Option FV} (ha : Ok m a) : ∀ (ds : List PyData) (w : List Int) (y : Option FV), Rnd m w → bb y = false →
    ∃ w' y', fsGo (tgN 9) lb_law_2 ds [x0, x1, x2, x3, x4, some (.d (rule m a)), x6, x7, some (.d (.tuple (iv w))), y, x10]
      = .ok .nx [x0, x1, x2, x3, x4, some (.d (rule m a)), x6, x7, some (.d (.tuple (iv w'))), y', x10] ∧ Rnd m w' ∧ w'.length = w.length ∧ bb y' = false
  | [], w, y, hw, hy => ⟨w, y, rfl, hw, rfl, hy⟩
  | d :: ds, w, y, hw, hy => by
    obtain ⟨w', y', e, h1, h2, h3⟩ := loop_later (x0 := x0) (x1 := x1) (x2 := x2) (x3 := x3) (x4 := x4) (x6 := x6) (x7 := x7) (x10 := x10) ha ds (stepR m a w) (some (.d d)) (rnd_it hw 1) rfl
    refine ⟨w', y', (go_nx ?_).trans e, h1, by rw [h2, stepR_len], h3⟩
    have e1 := e_lstep ha hw
    unfold lb_law_2
    generalize rule m a = A at *
    repeat first | simp only [hy, e1] | walk_at "fl"
theorem loop_rows {m : Int} {a : RF.Tm} {x0 x1 x2 x3 x4 x6 x7 x8 x9 : Option FV} (ha : Okk m a) : ∀ (ws : List (List Int)) (y : Option FV), (∀ w ∈ ws, Rnd m w ∧ w.length ≤ 12) → bb y = false →
    ∃ y', fsGo (tgN 10) lb_law_3 (ws.map fun w => .tuple (iv w)) [x0, x1, x2, x3, x4, some (.d (rule m a)), x6, x7, x8, x9, y]
      = .ok .nx [x0, x1, x2, x3, x4, some (.d (rule m a)), x6, x7, x8, x9, y'] ∧ bb y' = false
  | [], y, _, hy => ⟨y, rfl, hy⟩
  | w :: ws, y, h, hy => by
    obtain ⟨h1, h2⟩ := h w List.mem_cons_self
    obtain ⟨y', e, hy'⟩ := loop_rows (x0 := x0) (x1 := x1) (x2 := x2) (x3 := x3) (x4 := x4) (x6 := x6) (x7 := x7) (x8 := x8) (x9 := x9) ha ws (some (.d (.tuple (iv w)))) (fun v hv => h v (List.mem_cons_of_mem _ hv)) rfl
    refine ⟨y', (go_nx ?_).trans e, hy'⟩
    have e1 := e_right ha h1 h2
    unfold lb_law_3
    generalize rule m a = A at *
    repeat first | simp only [hy, e1] | walk_at "fl"
theorem zeros_rnd {m : Int} {n : Nat} (hm : m ∈ mods) (hn : 0 < n) (hl : n ≤ 12) : Rnd m (List.replicate n 0) := by
  have mb := modsB hm
  refine ⟨hm, List.length_pos_iff.mp (by simpa using hn), fun v hv => ?_, by simp; omega⟩
  rw [(List.mem_replicate.mp hv).2]
  omega
theorem e_turn {ns : List Int} {k : Nat} (hl : ns.length ≤ 63) (hb : ∀ z ∈ ns, Builtin.Int.intBits z ≤ 1048576) (hk : k ≤ 1000) {s2 s3 s4 s5 s6 s7 s8 s9 s10 : Option FV}
    (b2 : bb s2 = false) (b3 : bb s3 = false) (b4 : bb s4 = false) (b5 : bb s5 = false) (b6 : bb s6 = false) (b7 : bb s7 = false) (b8 : bb s8 = false) (b9 : bb s9 = false) (b10 : bb s10 = false) :
    ∃ t2 t3 t4 t5 t6 t7 t8 t9 t10, lb_law_1 [some (.d (.list (iv ns))), some (.d (.int k)), s2, s3, s4, s5, s6, s7, s8, s9, s10] = .ok .nx [some (.d (.list (iv ns))), some (.d (.int k)), t2, t3, t4, t5, t6, t7, t8, t9, t10] ∧
      bb t2 = false ∧ bb t3 = false ∧ bb t4 = false ∧ bb t5 = false ∧ bb t6 = false ∧ bb t7 = false ∧ bb t8 = false ∧ bb t9 = false ∧ bb t10 = false := by
  obtain ⟨c0, e0, j0⟩ := e_jar hl hb hk
  obtain ⟨m1, c1, e1, hm1, j1⟩ := e_lmod j0 (by omega)
  obtain ⟨r2, c2, e2, r20, r21, j2⟩ := e_take j1 (many := 3) (by decide) (by decide) (by omega)
  obtain ⟨m, em, hm⟩ : ∃ m : Int, atI [PyData.int m1, .int 2, .int 3] r2 = some (.int m) ∧ m ∈ mods := by
    obtain ⟨d, e, hd⟩ := getI (xs := [PyData.int m1, .int 2, .int 3]) r20 (by simpa using r21)
    simp only [List.mem_cons, List.not_mem_nil, or_false] at hd
    rcases hd with rfl | rfl | rfl
    · exact ⟨m1, e, hm1⟩
    · exact ⟨2, e, by decide⟩
    · exact ⟨3, e, by decide⟩
  obtain ⟨r3, c3, e3, r30, r31, j3⟩ := e_take j2 (many := 12) (by decide) (by decide) (by omega)
  obtain ⟨r4, c4, e4, r40, r41, j4⟩ := e_take j3 (many := 5) (by decide) (by decide) (by omega)
  obtain ⟨r5, c5, e5, r50, r51, j5⟩ := e_take j4 (many := 5) (by decide) (by decide) (by omega)
  obtain ⟨n, en, n0, n1⟩ : ∃ n : Nat, atI [PyData.int (1 + r3), .int (1 + r4), .int 8, .int 9, .int 12] r5 = some (.int (n : Int)) ∧ 0 < n ∧ n ≤ 12 := by
    obtain ⟨d, e, hd⟩ := getI (xs := [PyData.int (1 + r3), .int (1 + r4), .int 8, .int 9, .int 12]) r50 (by simpa using r51)
    simp only [List.mem_cons, List.not_mem_nil, or_false] at hd
    rcases hd with rfl | rfl | rfl | rfl | rfl
    · exact ⟨(1 + r3).toNat, by rw [e]; congr 2; omega, by omega, by omega⟩
    · exact ⟨(1 + r4).toNat, by rw [e]; congr 2; omega, by omega, by omega⟩
    · exact ⟨8, e, by decide, by decide⟩
    · exact ⟨9, e, by decide, by decide⟩
    · exact ⟨12, e, by decide, by decide⟩
  obtain ⟨a, c6, e6, ha, j6⟩ := e_rule j5 hm (by omega)
  obtain ⟨us, c7, e7, pu, lu, j7⟩ := e_values j6 hm (L := n) n0 (by omega) (by omega)
  obtain ⟨r8, c8, e8, r80, r81, j8⟩ := e_take j7 (many := 12) (by decide) (by decide) (by omega)
  obtain ⟨q, hq, q0, q1⟩ : ∃ q : Nat, 1 + r8 = (q : Int) ∧ 0 < q ∧ q ≤ 12 := ⟨(1 + r8).toNat, by omega, by omega, by omega⟩
  obtain ⟨ws, c9, e9, pw, lw, j9⟩ := e_values j8 hm (L := q) q0 (by omega) (by omega)
  obtain ⟨r10, c10, e10, r100, r101, j10⟩ := e_take j9 (many := 4) (by decide) (by decide) (by omega)
  have ru : Rnd m us := ⟨hm, List.length_pos_iff.mp (by omega), pu, by omega⟩
  have rw' : Rnd m ws := ⟨hm, List.length_pos_iff.mp (by omega), pw, by omega⟩
  have rg : gRange1 [.int (1 + r10)] = some (rangeD 0 (1 + r10).toNat) := by
    rw [gRange1]
    exact req_pos (by omega)
  obtain ⟨w', y9, e11, rl, ll, by9⟩ := loop_later (x0 := some (.d (.list (iv ns)))) (x1 := some (.d (.int k))) (x2 := some (.c c10)) (x3 := some (.d (.int m))) (x4 := some (.d (.int (n : Int)))) (x6 := some (.d (.tuple (iv us)))) (x7 := some (.d (.tuple (iv ws)))) (x10 := s10) ha.ok (rangeD 0 (1 + r10).toNat) us s9 ru b9
  obtain ⟨y10, e12, by10⟩ := loop_rows (x0 := some (.d (.list (iv ns)))) (x1 := some (.d (.int k))) (x2 := some (.c c10)) (x3 := some (.d (.int m))) (x4 := some (.d (.int (n : Int)))) (x6 := some (.d (.tuple (iv us)))) (x7 := some (.d (.tuple (iv ws)))) (x8 := some (.d (.tuple (iv w')))) (x9 := y9) ha [us, ws, w', us, List.replicate n 0] s10 (fun w hw => by
    simp only [List.mem_cons, List.not_mem_nil, or_false] at hw
    rcases hw with rfl | rfl | rfl | rfl | rfl
    · exact ⟨ru, by omega⟩
    · exact ⟨rw', by omega⟩
    · exact ⟨rl, by omega⟩
    · exact ⟨ru, by omega⟩
    · exact ⟨zeros_rnd hm n0 n1, by simp; omega⟩) b10
  have e12 : fsGo (tgN 10) lb_law_3 [.tuple (iv us), .tuple (iv ws), .tuple (iv w'), .tuple (iv us), .tuple (iv (List.replicate n 0))] _ = _ := e12
  have ez : gMulT (.tuple [.int 0]) (.int (n : Int)) = some (.tuple (iv (List.replicate n 0))) := mulT_zeros (by omega)
  refine ⟨some (.c c10), some (.d (.int m)), some (.d (.int (n : Int))), some (.d (rule m a)), some (.d (.tuple (iv us))), some (.d (.tuple (iv ws))), some (.d (.tuple (iv w'))), y9, y10, ?_, rfl, rfl, rfl, rfl, rfl, rfl, rfl, by9, by10⟩
  unfold lb_law_1
  generalize rule m a = A at *
  generalize iv (List.replicate n 0) = Z at *
  repeat first | simp only [b2, b3, b4, b5, b6, b7, b8, b9, b10, e0, e1, e2, em, e3, e4, e5, en, e6, e7, e8, hq, e9, e10, rg, e11, ez, e12] | walk_at "fl"
theorem loop_main {ns : List Int} (hl : ns.length ≤ 63) (hb : ∀ z ∈ ns, Builtin.Int.intBits z ≤ 1048576) : ∀ (j s : Nat), j + s ≤ 1000 → ∀ {s1 s2 s3 s4 s5 s6 s7 s8 s9 s10 : Option FV},
    bb s1 = false → bb s2 = false → bb s3 = false → bb s4 = false → bb s5 = false → bb s6 = false → bb s7 = false → bb s8 = false → bb s9 = false → bb s10 = false →
    ∃ t1 t2 t3 t4 t5 t6 t7 t8 t9 t10, fsGo (tgN 1) lb_law_1 ((List.range' s j).map fun (i : Nat) => PyData.int i) [some (.d (.list (iv ns))), s1, s2, s3, s4, s5, s6, s7, s8, s9, s10]
      = .ok .nx [some (.d (.list (iv ns))), t1, t2, t3, t4, t5, t6, t7, t8, t9, t10]
  | 0, s, _, s1, s2, s3, s4, s5, s6, s7, s8, s9, s10, _, _, _, _, _, _, _, _, _, _ => ⟨s1, s2, s3, s4, s5, s6, s7, s8, s9, s10, rfl⟩
  | j + 1, s, hj, s1, s2, s3, s4, s5, s6, s7, s8, s9, s10, b1, b2, b3, b4, b5, b6, b7, b8, b9, b10 => by
    obtain ⟨t2, t3, t4, t5, t6, t7, t8, t9, t10, e, c2, c3, c4, c5, c6, c7, c8, c9, c10⟩ := e_turn (k := s) hl hb (by omega) b2 b3 b4 b5 b6 b7 b8 b9 b10
    obtain ⟨u1, u2, u3, u4, u5, u6, u7, u8, u9, u10, e2⟩ := loop_main hl hb j (s + 1) (by omega) (s1 := some (.d (.int s))) rfl c2 c3 c4 c5 c6 c7 c8 c9 c10
    refine ⟨u1, u2, u3, u4, u5, u6, u7, u8, u9, u10, ?_⟩
    rw [List.range'_succ, List.map_cons]
    refine (go_nx ?_).trans e2
    repeat first | simp only [b1] | walk_at "fl"
    exact e
theorem main : Law F_law := fun ns hl hb => by
  have hlen : ((iv ns).length : Int) = (ns.length : Int) := by simp [iv]
  obtain ⟨j, hj, rg⟩ : ∃ j : Nat, j ≤ 3 ∧ gRange1 [.int (if (if (ns.length : Int) < 3 then (ns.length : Int) else 3) > 1 then (if (ns.length : Int) < 3 then (ns.length : Int) else 3) else 1)] = some ((List.range' 0 j).map fun (i : Nat) => PyData.int i) := by
    refine ⟨(if (if (ns.length : Int) < 3 then (ns.length : Int) else 3) > 1 then (if (ns.length : Int) < 3 then (ns.length : Int) else 3) else 1).toNat, by split <;> (try split) <;> omega, ?_⟩
    rw [gRange1]
    refine (req_pos (by split <;> (try split) <;> omega)).trans ?_
    rw [← List.range_eq_range', rangeD0, iv, List.map_map]
    rfl
  obtain ⟨t1, t2, t3, t4, t5, t6, t7, t8, t9, t10, e⟩ := loop_main hl hb j 0 (by omega) (s1 := none) (s2 := none) (s3 := none) (s4 := none) (s5 := none) (s6 := none) (s7 := none) (s8 := none) (s9 := none) (s10 := none) rfl rfl rfl rfl rfl rfl rfl rfl rfl rfl
  show F_law [.d (.list (iv ns))] = _
  unfold F_law fb_law
  repeat first | simp only [hlen, rg, e] | walk_at "fl"
end K31

namespace K31
open PySem PySem.Spec PyProof.Rows L2 DL FL
open NA

def topS (i : Nat) : Stmt := PySem.Challenge.pw_nearadds_k31_rounds_that_come_again.main.body.getD i (.Pass ⟨0, 0, 0, 0⟩)
abbrev st_share_of : Stmt := topS 2
abbrev N_share_of : List Str := ["number", "prime", "share"]
abbrev ps_share_of : List Str := ["number", "prime"]
abbrev st_stepped : Stmt := topS 3
abbrev N_stepped : List Str := ["terms", "values", "stretch", "prime", "many", "shares", "offset", "factor", "at", "sums", "moved", "total", "value"]
abbrev ps_stepped : List Str := ["terms", "values", "stretch", "prime"]
abbrev st_done_often : Stmt := topS 4
abbrev N_done_often : List Str := ["terms", "times", "values", "prime", "stretch", "_"]
abbrev ps_done_often : List Str := ["terms", "times", "values", "prime"]
abbrev st_is_number : Stmt := topS 13
abbrev N_is_number : List Str := ["value"]
abbrev ps_is_number : List Str := ["value"]
abbrev st_is_within : Stmt := topS 14
abbrev N_is_within : List Str := ["value", "least", "greatest"]
abbrev ps_is_within : List Str := ["value", "least", "greatest"]
abbrev st_is_two : Stmt := topS 15
abbrev N_is_two : List Str := ["value"]
abbrev ps_is_two : List Str := ["value"]
abbrev st_ascends : Stmt := topS 16
abbrev N_ascends : List Str := ["numbers", "low", "high"]
abbrev ps_ascends : List Str := ["numbers"]
abbrev st_is_pairs : Stmt := topS 17
abbrev N_is_pairs : List Str := ["value", "modulus", "pair"]
abbrev ps_is_pairs : List Str := ["value", "modulus"]
abbrev st_renewed : Stmt := topS 18
abbrev N_renewed : List Str := ["value", "part"]
abbrev ps_renewed : List Str := ["value"]
abbrev st_is_modulus : Stmt := topS 21
abbrev N_is_modulus : List Str := ["value"]
abbrev ps_is_modulus : List Str := ["value"]
abbrev st_has_modulus : Stmt := topS 22
abbrev N_has_modulus : List Str := ["value"]
abbrev ps_has_modulus : List Str := ["value"]
abbrev st_is_rule : Stmt := topS 23
abbrev N_is_rule : List Str := ["value"]
abbrev ps_is_rule : List Str := ["value"]
abbrev st_is_round : Stmt := topS 24
abbrev N_is_round : List Str := ["value", "rest"]
abbrev ps_is_round : List Str := ["value"]
abbrev st_need_rule : Stmt := topS 25
abbrev N_need_rule : List Str := ["value"]
abbrev ps_need_rule : List Str := ["value"]
abbrev st_need_round : Stmt := topS 26
abbrev N_need_round : List Str := ["value"]
abbrev ps_need_round : List Str := ["value"]
abbrev st_need_same : Stmt := topS 27
abbrev N_need_same : List Str := ["one", "other"]
abbrev ps_need_same : List Str := ["one", "other"]
abbrev st_primes_of : Stmt := topS 28
abbrev N_primes_of : List Str := ["modulus"]
abbrev ps_primes_of : List Str := ["modulus"]
abbrev st_by_prime : Stmt := topS 29
abbrev N_by_prime : List Str := ["rule", "prime", "offset", "factor"]
abbrev ps_by_prime : List Str := ["rule", "prime"]
abbrev st_divisors_of : Stmt := topS 31
abbrev N_divisors_of : List Str := ["number", "found", "divisor"]
abbrev ps_divisors_of : List Str := ["number"]
abbrev st_need_both : Stmt := topS 33
abbrev N_need_both : List Str := ["rule", "row"]
abbrev ps_need_both : List Str := ["rule", "row"]
abbrev st_rests_of : Stmt := topS 34
abbrev N_rests_of : List Str := ["row", "prime", "value"]
abbrev ps_rests_of : List Str := ["row", "prime"]
abbrev st_comes_again : Stmt := topS 35
abbrev N_comes_again : List Str := ["rule", "row", "begin", "length", "prime", "told"]
abbrev ps_comes_again : List Str := ["rule", "row"]
abbrev st_again_modulo : Stmt := topS 36
abbrev N_again_modulo : List Str := ["terms", "values", "prime", "share", "power", "turns", "begin", "divisor"]
abbrev ps_again_modulo : List Str := ["terms", "values", "prime"]
abbrev st_turns_on_ring : Stmt := topS 37
abbrev N_turns_on_ring : List Str := ["many", "prime", "share", "rest", "power"]
abbrev ps_turns_on_ring : List Str := ["many", "prime"]
abbrev st__law_jar : Stmt := topS 39
abbrev N__law_jar : List Str := ["_law_script", "_law_k", "_law_cell", "_law_crowd", "_law_other", "_law_mixed"]
abbrev ps__law_jar : List Str := ["_law_script", "_law_k"]
abbrev st__law_take : Stmt := topS 40
abbrev N__law_take : List Str := ["_law_jar_here", "_law_many", "_law_found", "_law_stir"]
abbrev ps__law_take : List Str := ["_law_jar_here", "_law_many"]
abbrev st__law_modulus : Stmt := topS 41
abbrev N__law_modulus : List Str := ["_law_jar_here"]
abbrev ps__law_modulus : List Str := ["_law_jar_here"]
abbrev st__law_product : Stmt := topS 42
abbrev N__law_product : List Str := ["_law_jar_here", "_law_modulus_here", "_law_most", "_law_usual", "_law_found", "_law_turn", "_law_root", "_law_ahead", "_law_own"]
abbrev ps__law_product : List Str := ["_law_jar_here", "_law_modulus_here", "_law_most"]
abbrev st__law_rule : Stmt := topS 43
abbrev N__law_rule : List Str := ["_law_jar_here", "_law_modulus_here", "_law_way", "_law_parts", "_law_turn", "_law_own", "_law_low", "_law_share", "_law_terms", "_law_at", "_law_term"]
abbrev ps__law_rule : List Str := ["_law_jar_here", "_law_modulus_here"]
abbrev st__law_values : Stmt := topS 44
abbrev N__law_values : List Str := ["_law_jar_here", "_law_modulus_here", "_law_n", "_law_way", "_law_own", "_law_turn", "_law_at"]
abbrev ps__law_values : List Str := ["_law_jar_here", "_law_modulus_here", "_law_n"]
abbrev st__law_step : Stmt := topS 45
abbrev N__law_step : List Str := ["_law_rule_here", "_law_values_here", "_law_many", "_law_found", "_law_place", "_law_offset", "_law_factor"]
abbrev ps__law_step : List Str := ["_law_rule_here", "_law_values_here"]
abbrev st__law_walked : Stmt := topS 46
abbrev N__law_walked : List Str := ["_law_rule_here", "_law_values_here", "_law_most", "_law_seen", "_law_current", "_law_turn"]
abbrev ps__law_walked : List Str := ["_law_rule_here", "_law_values_here", "_law_most"]
abbrev st__law_right : Stmt := topS 47
abbrev N__law_right : List Str := ["_law_rule_here", "_law_values_here", "_law_most", "_law_due", "_law_told", "_law_part"]
abbrev ps__law_right : List Str := ["_law_rule_here", "_law_values_here", "_law_most"]
abbrev st_law : Stmt := topS 48
abbrev N_law : List Str := ["_law_script", "_law_k", "_law_jar_here", "_law_modulus_here", "_law_n", "_law_rule_here", "_law_first", "_law_second", "_law_later", "_law_turn", "_law_values_here"]
abbrev ps_law : List Str := ["_law_script"]
theorem bd_share_of {K : PySem.W.Frag} : ∀ f fd, Fun K "share_of" "share_of" st_share_of f fd → Binds K fd ps_share_of [] := fun _ _ F => F.binds (ps := ps_share_of) fun _ _ _ _ _ _ us hl => match us, hl with | [_, _], _ => rfl
theorem bd_stepped {K : PySem.W.Frag} : ∀ f fd, Fun K "stepped" "stepped" st_stepped f fd → Binds K fd ps_stepped [] := fun _ _ F => F.binds (ps := ps_stepped) fun _ _ _ _ _ _ us hl => match us, hl with | [_, _, _, _], _ => rfl
theorem bd_done_often {K : PySem.W.Frag} : ∀ f fd, Fun K "done_often" "done_often" st_done_often f fd → Binds K fd ps_done_often [] := fun _ _ F => F.binds (ps := ps_done_often) fun _ _ _ _ _ _ us hl => match us, hl with | [_, _, _, _], _ => rfl
theorem bd_is_number {K : PySem.W.Frag} : ∀ f fd, Fun K "is_number" "is_number" st_is_number f fd → Binds K fd ps_is_number [] := fun _ _ F => F.binds (ps := ps_is_number) fun _ _ _ _ _ _ us hl => match us, hl with | [_], _ => rfl
theorem bd_is_within {K : PySem.W.Frag} : ∀ f fd, Fun K "is_within" "is_within" st_is_within f fd → Binds K fd ps_is_within [] := fun _ _ F => F.binds (ps := ps_is_within) fun _ _ _ _ _ _ us hl => match us, hl with | [_, _, _], _ => rfl
theorem bd_is_two {K : PySem.W.Frag} : ∀ f fd, Fun K "is_two" "is_two" st_is_two f fd → Binds K fd ps_is_two [] := fun _ _ F => F.binds (ps := ps_is_two) fun _ _ _ _ _ _ us hl => match us, hl with | [_], _ => rfl
theorem bd_ascends {K : PySem.W.Frag} : ∀ f fd, Fun K "ascends" "ascends" st_ascends f fd → Binds K fd ps_ascends [] := fun _ _ F => F.binds (ps := ps_ascends) fun _ _ _ _ _ _ us hl => match us, hl with | [_], _ => rfl
theorem bd_is_pairs {K : PySem.W.Frag} : ∀ f fd, Fun K "is_pairs" "is_pairs" st_is_pairs f fd → Binds K fd ps_is_pairs [] := fun _ _ F => F.binds (ps := ps_is_pairs) fun _ _ _ _ _ _ us hl => match us, hl with | [_, _], _ => rfl
theorem bd_is_modulus {K : PySem.W.Frag} : ∀ f fd, Fun K "is_modulus" "is_modulus" st_is_modulus f fd → Binds K fd ps_is_modulus [] := fun _ _ F => F.binds (ps := ps_is_modulus) fun _ _ _ _ _ _ us hl => match us, hl with | [_], _ => rfl
theorem bd_has_modulus {K : PySem.W.Frag} : ∀ f fd, Fun K "has_modulus" "has_modulus" st_has_modulus f fd → Binds K fd ps_has_modulus [] := fun _ _ F => F.binds (ps := ps_has_modulus) fun _ _ _ _ _ _ us hl => match us, hl with | [_], _ => rfl
theorem bd_is_rule {K : PySem.W.Frag} : ∀ f fd, Fun K "is_rule" "is_rule" st_is_rule f fd → Binds K fd ps_is_rule [] := fun _ _ F => F.binds (ps := ps_is_rule) fun _ _ _ _ _ _ us hl => match us, hl with | [_], _ => rfl
theorem bd_is_round {K : PySem.W.Frag} : ∀ f fd, Fun K "is_round" "is_round" st_is_round f fd → Binds K fd ps_is_round [] := fun _ _ F => F.binds (ps := ps_is_round) fun _ _ _ _ _ _ us hl => match us, hl with | [_], _ => rfl
theorem bd_need_rule {K : PySem.W.Frag} : ∀ f fd, Fun K "need_rule" "need_rule" st_need_rule f fd → Binds K fd ps_need_rule [] := fun _ _ F => F.binds (ps := ps_need_rule) fun _ _ _ _ _ _ us hl => match us, hl with | [_], _ => rfl
theorem bd_need_round {K : PySem.W.Frag} : ∀ f fd, Fun K "need_round" "need_round" st_need_round f fd → Binds K fd ps_need_round [] := fun _ _ F => F.binds (ps := ps_need_round) fun _ _ _ _ _ _ us hl => match us, hl with | [_], _ => rfl
theorem bd_need_same {K : PySem.W.Frag} : ∀ f fd, Fun K "need_same" "need_same" st_need_same f fd → Binds K fd ps_need_same [] := fun _ _ F => F.binds (ps := ps_need_same) fun _ _ _ _ _ _ us hl => match us, hl with | [_, _], _ => rfl
theorem bd_primes_of {K : PySem.W.Frag} : ∀ f fd, Fun K "primes_of" "primes_of" st_primes_of f fd → Binds K fd ps_primes_of [] := fun _ _ F => F.binds (ps := ps_primes_of) fun _ _ _ _ _ _ us hl => match us, hl with | [_], _ => rfl
theorem bd_by_prime {K : PySem.W.Frag} : ∀ f fd, Fun K "by_prime" "by_prime" st_by_prime f fd → Binds K fd ps_by_prime [] := fun _ _ F => F.binds (ps := ps_by_prime) fun _ _ _ _ _ _ us hl => match us, hl with | [_, _], _ => rfl
theorem bd_divisors_of {K : PySem.W.Frag} : ∀ f fd, Fun K "divisors_of" "divisors_of" st_divisors_of f fd → Binds K fd ps_divisors_of [] := fun _ _ F => F.binds (ps := ps_divisors_of) fun _ _ _ _ _ _ us hl => match us, hl with | [_], _ => rfl
theorem bd_need_both {K : PySem.W.Frag} : ∀ f fd, Fun K "need_both" "need_both" st_need_both f fd → Binds K fd ps_need_both [] := fun _ _ F => F.binds (ps := ps_need_both) fun _ _ _ _ _ _ us hl => match us, hl with | [_, _], _ => rfl
theorem bd_rests_of {K : PySem.W.Frag} : ∀ f fd, Fun K "rests_of" "rests_of" st_rests_of f fd → Binds K fd ps_rests_of [] := fun _ _ F => F.binds (ps := ps_rests_of) fun _ _ _ _ _ _ us hl => match us, hl with | [_, _], _ => rfl
theorem bd_comes_again {K : PySem.W.Frag} : ∀ f fd, Fun K "comes_again" "comes_again" st_comes_again f fd → Binds K fd ps_comes_again [] := fun _ _ F => F.binds (ps := ps_comes_again) fun _ _ _ _ _ _ us hl => match us, hl with | [_, _], _ => rfl
theorem bd_again_modulo {K : PySem.W.Frag} : ∀ f fd, Fun K "again_modulo" "again_modulo" st_again_modulo f fd → Binds K fd ps_again_modulo [] := fun _ _ F => F.binds (ps := ps_again_modulo) fun _ _ _ _ _ _ us hl => match us, hl with | [_, _, _], _ => rfl
theorem bd_turns_on_ring {K : PySem.W.Frag} : ∀ f fd, Fun K "turns_on_ring" "turns_on_ring" st_turns_on_ring f fd → Binds K fd ps_turns_on_ring [] := fun _ _ F => F.binds (ps := ps_turns_on_ring) fun _ _ _ _ _ _ us hl => match us, hl with | [_, _], _ => rfl
theorem bd__law_jar {K : PySem.W.Frag} : ∀ f fd, Fun K "_law_jar" "_law_jar" st__law_jar f fd → Binds K fd ps__law_jar [] := fun _ _ F => F.binds (ps := ps__law_jar) fun _ _ _ _ _ _ us hl => match us, hl with | [_, _], _ => rfl
theorem bd__law_take {K : PySem.W.Frag} : ∀ f fd, Fun K "_law_take" "_law_take" st__law_take f fd → Binds K fd ps__law_take [] := fun _ _ F => F.binds (ps := ps__law_take) fun _ _ _ _ _ _ us hl => match us, hl with | [_, _], _ => rfl
theorem bd__law_modulus {K : PySem.W.Frag} : ∀ f fd, Fun K "_law_modulus" "_law_modulus" st__law_modulus f fd → Binds K fd ps__law_modulus [] := fun _ _ F => F.binds (ps := ps__law_modulus) fun _ _ _ _ _ _ us hl => match us, hl with | [_], _ => rfl
theorem bd__law_product {K : PySem.W.Frag} : ∀ f fd, Fun K "_law_product" "_law_product" st__law_product f fd → Binds K fd ps__law_product [] := fun _ _ F => F.binds (ps := ps__law_product) fun _ _ _ _ _ _ us hl => match us, hl with | [_, _, _], _ => rfl
theorem bd__law_rule {K : PySem.W.Frag} : ∀ f fd, Fun K "_law_rule" "_law_rule" st__law_rule f fd → Binds K fd ps__law_rule [] := fun _ _ F => F.binds (ps := ps__law_rule) fun _ _ _ _ _ _ us hl => match us, hl with | [_, _], _ => rfl
theorem bd__law_values {K : PySem.W.Frag} : ∀ f fd, Fun K "_law_values" "_law_values" st__law_values f fd → Binds K fd ps__law_values [] := fun _ _ F => F.binds (ps := ps__law_values) fun _ _ _ _ _ _ us hl => match us, hl with | [_, _, _], _ => rfl
theorem bd__law_step {K : PySem.W.Frag} : ∀ f fd, Fun K "_law_step" "_law_step" st__law_step f fd → Binds K fd ps__law_step [] := fun _ _ F => F.binds (ps := ps__law_step) fun _ _ _ _ _ _ us hl => match us, hl with | [_, _], _ => rfl
theorem bd__law_walked {K : PySem.W.Frag} : ∀ f fd, Fun K "_law_walked" "_law_walked" st__law_walked f fd → Binds K fd ps__law_walked [] := fun _ _ F => F.binds (ps := ps__law_walked) fun _ _ _ _ _ _ us hl => match us, hl with | [_, _, _], _ => rfl
theorem bd__law_right {K : PySem.W.Frag} : ∀ f fd, Fun K "_law_right" "_law_right" st__law_right f fd → Binds K fd ps__law_right [] := fun _ _ F => F.binds (ps := ps__law_right) fun _ _ _ _ _ _ us hl => match us, hl with | [_, _, _], _ => rfl
theorem kb_comes_again_row_rule {K : PySem.W.Frag} : ∀ f fd, Fun K "comes_again" "comes_again" st_comes_again f fd → KB K fd ps_comes_again ["row", "rule"] g_comes_again_row_rule := by
  rintro f fd F
  obtain ⟨oc, od, kV, doc, pm, an, cdv, ct, osl, rfl, lk, hcd⟩ := F.ex
  exact ⟨fun s ws hl => .of_eq (match ws, hl with | [x0, x1], _ => rfl), fun hl r => match r, hl with | .cons h0 (.cons h1 (.nil)), _ => (.cons h1 (.cons h0 .nil)), fun hl r => match r, hl with | .cons h0 (.cons h1 (.nil)), _ => (.cons h1 (.cons h0 .nil))⟩
end K31

namespace K31
open PySem PySem.Spec PyProof.Rows L2 DL FL
open NA
open RF
theorem sc_share_of : FnScope N_share_of ps_share_of (defScope st_share_of) := ⟨rfl, rfl, rfl, by decide +kernel, rfl, by decide +kernel, by decide +kernel⟩
theorem der_share_of {P : Program} {w : World} {K : PySem.W.Frag} {mg : Str → Option Value} {base : Heap} (B : Bl mg) {f : Addr} {cdv : Value} {A : Around} {outer : List Env} {s : Shared} {H : Hp} (hr : RoomG 0 (A.deeper (envOfC "share_of" (defScope st_share_of) s.heap.objs.size f cdv))) :
    FSts (cxD P w K mg base N_share_of "share_of" (defScope st_share_of) f cdv A outer s H) (defBody st_share_of) fb_share_of :=
    (fs_cons (fs_asg (i := 2) sc_share_of.nd rfl (by first | exact Or.inl rfl | exact Or.inr rfl) f_int)
    (fs_cons (fs_while PassesOwn.never (fc_eq hr.r.units (f_mod (f_var 0) (f_mul (f_var 2) (f_var 1))) f_int) (show FSts _ _ lb_share_of_1 from (fs_one (fs_asg (i := 2) sc_share_of.nd rfl (by first | exact Or.inl rfl | exact Or.inr rfl) (f_mul (f_var 2) (f_var 1))))))
    (fs_one (fs_ret (f_var 2)))))
theorem sc_stepped : FnScope N_stepped ps_stepped (defScope st_stepped) := ⟨rfl, rfl, rfl, by decide +kernel, rfl, by decide +kernel, by decide +kernel⟩
theorem der_stepped {P : Program} {w : World} {K : PySem.W.Frag} {mg : Str → Option Value} {base : Heap} (B : Bl mg) {f : Addr} {cdv : Value} {A : Around} {outer : List Env} {s : Shared} {H : Hp} (hr : RoomG 0 (A.deeper (envOfC "stepped" (defScope st_stepped) s.heap.objs.size f cdv))) :
    FSts (cxD P w K mg base N_stepped "stepped" (defScope st_stepped) f cdv A outer s H) (defBody st_stepped) fb_stepped :=
    (fs_cons (fs_asg (i := 4) sc_stepped.nd rfl (by first | exact Or.inl rfl | exact Or.inr rfl) (f_callB call_len_seq p_len rfl B.len (by decide +kernel) (fa_cons (f_var 1) fa_nil)))
    (fs_cons (fs_asg (i := 5) sc_stepped.nd rfl (by first | exact Or.inl rfl | exact Or.inr rfl) f_dictO)
    (fs_cons (fs_for PassesOwn.never rfl (fi_seq (f_var 0)) (g_tup (is := [6, 7]) rfl (pgs_name2 (pg_name (i := 6) sc_stepped.nd rfl (by first | exact Or.inl rfl | exact Or.inr rfl)) (pgs_name2 (pg_name (i := 7) sc_stepped.nd rfl (by first | exact Or.inl rfl | exact Or.inr rfl)) pgs_nil))) (tgd_tup (is := [6, 7])) (show FSts _ _ lb_stepped_1 from (fs_cons (fs_asg (i := 8) sc_stepped.nd rfl (by first | exact Or.inl rfl | exact Or.inr rfl) (f_mod (f_mul (f_var 6) (f_var 2)) (f_var 4)))
    (fs_one (fs_setK hr.r.units (f_var 5) (f_var 8) (f_add (f_get hr.r.units (f_var 5) (f_var 8) f_int) (f_var 7)))))))
    (fs_cons (fs_asg (i := 9) sc_stepped.nd rfl (by first | exact Or.inl rfl | exact Or.inr rfl) (f_frz (f_rep (f_lstO (fa_cons f_int fa_nil)) (f_var 4))))
    (fs_cons (fs_frz (i := 5) (fs_for PassesOwn.never rfl (fi_items (f_var 5)) (g_tup (is := [8, 7]) rfl (pgs_name2 (pg_name (i := 8) sc_stepped.nd rfl (by first | exact Or.inl rfl | exact Or.inr rfl)) (pgs_name2 (pg_name (i := 7) sc_stepped.nd rfl (by first | exact Or.inl rfl | exact Or.inr rfl)) pgs_nil))) (tgd_tup (is := [8, 7])) (show FSts _ _ lb_stepped_2 from (fs_cons (fs_asg (i := 10) sc_stepped.nd rfl (by first | exact Or.inl rfl | exact Or.inr rfl) (f_add (f_slice (f_var 1) (fp_some (f_var 8)) fp_no) (f_slice (f_var 1) fp_no (fp_some (f_var 8)))))
    (fs_one (fs_setLc (i := 9) rfl sc_stepped.nd rfl rfl (sw_true rfl rfl rfl (by decide +kernel)) (fi_zip rfl B.zip (fa_cons (f_var 9) (fa_cons (f_var 10) fa_nil))) (blkOk_by (own := [("total", 11), ("value", 12)]) (N := N_stepped) (sc := defScope st_stepped) (by decide +kernel)) (compG_tup (is := [11, 12]) (by decide)) (tgc_tup (is := [11, 12]) (by decide)) (fun _ _ _ _ _ => (pg_tup (n := 2) rfl (pgs_name2 (pg_name (i := 11) sc_stepped.nd rfl (by first | exact Or.inl rfl | exact Or.inr rfl)) (pgs_name2 (pg_name (i := 12) sc_stepped.nd rfl (by first | exact Or.inl rfl | exact Or.inr rfl)) pgs_nil)))) (fun _ _ _ _ _ => ft_nil) (fun _ _ _ _ _ => (f_add (f_var 11) (f_mul (f_var 7) (f_var 12))))))))))
    (fs_one (fs_ret (f_lcO rfl sc_stepped.nd (fi_seq (f_var 9)) (blkOk_by (own := [("total", 11)]) (N := N_stepped) (sc := defScope st_stepped) (by decide +kernel)) (compG_name (i := 11) (by decide)) (tgc_name (i := 11) (by decide)) (fun _ _ _ _ _ => (pg_name (i := 11) sc_stepped.nd rfl (by first | exact Or.inl rfl | exact Or.inr rfl))) (fun _ _ _ _ _ => ft_nil) (fun _ _ _ _ _ => (f_mod (f_var 11) (f_var 3)))))))))))
theorem sc_done_often : FnScope N_done_often ps_done_often (defScope st_done_often) := ⟨rfl, rfl, rfl, by decide +kernel, rfl, by decide +kernel, by decide +kernel⟩
theorem der_done_often {P : Program} {w : World} {K : PySem.W.Frag} {mg : Str → Option Value} {base : Heap} (B : Bl mg) (C_stepped : Cal P w K mg base 1 "stepped" st_stepped ps_stepped (spF F_stepped 4)) {f : Addr} {cdv : Value} {A : Around} {outer : List Env} {s : Shared} {H : Hp} (hr : RoomG 1 (A.deeper (envOfC "done_often" (defScope st_done_often) s.heap.objs.size f cdv))) :
    FSts (cxD P w K mg base N_done_often "done_often" (defScope st_done_often) f cdv A outer s H) (defBody st_done_often) fb_done_often :=
    (fs_cons (fs_asg (i := 4) sc_done_often.nd rfl (by first | exact Or.inl rfl | exact Or.inr rfl) f_int)
    (fs_cons (fs_while PassesOwn.never (fc_tr (f_var 1)) (show FSts _ _ lb_done_often_1 from (fs_cons (fs_for PassesOwn.never rfl (fi_range1 rfl B.range (fa_cons (f_mod (f_var 1) (f_var 3)) fa_nil)) (g_name (i := 5) sc_done_often.nd rfl (by first | exact Or.inl rfl | exact Or.inr rfl)) (tgd_name (i := 5)) (show FSts _ _ lb_done_often_2 from (fs_one (fs_asg (i := 2) sc_done_often.nd rfl (by first | exact Or.inl rfl | exact Or.inr rfl) (f_frz (f_call C_stepped (hr.mono (by decide)) rfl bd_stepped (fa_cons (f_var 0) (fa_cons (f_var 2) (fa_cons (f_var 4) (fa_cons (f_var 3) fa_nil)))) (alen_cons (alen_cons (alen_cons (alen_cons alen_nil))))))))))
    (fs_cons (fs_asg (i := 1) sc_done_often.nd rfl (by first | exact Or.inl rfl | exact Or.inr rfl) (f_fdiv (f_var 1) (f_var 3)))
    (fs_one (fs_asg (i := 4) sc_done_often.nd rfl (by first | exact Or.inl rfl | exact Or.inr rfl) (f_mod (f_mul (f_var 4) (f_var 3)) (f_callB call_len_seq p_len rfl B.len (by decide +kernel) (fa_cons (f_var 2) fa_nil)))))))))
    (fs_one (fs_ret (f_var 2)))))
theorem sc_is_number : FnScope N_is_number ps_is_number (defScope st_is_number) := ⟨rfl, rfl, rfl, by decide +kernel, rfl, by decide +kernel, by decide +kernel⟩
theorem der_is_number {P : Program} {w : World} {K : PySem.W.Frag} {mg : Str → Option Value} {base : Heap} (B : Bl mg) {f : Addr} {cdv : Value} {A : Around} {outer : List Env} {s : Shared} {H : Hp} (hr : RoomG 0 (A.deeper (envOfC "is_number" (defScope st_is_number) s.heap.objs.size f cdv))) :
    FSts (cxD P w K mg base N_is_number "is_number" (defScope st_is_number) f cdv A outer s H) (defBody st_is_number) fb_is_number :=
    (fs_one (fs_ret (f_and (f_isi (by decide) rfl B.isinstance (by decide +kernel) rfl B.int (by decide +kernel) (f_var 0)) (f_one (f_not (f_isi (by decide) rfl B.isinstance (by decide +kernel) rfl B.bool (by decide +kernel) (f_var 0)))))))
theorem sc_is_within : FnScope N_is_within ps_is_within (defScope st_is_within) := ⟨rfl, rfl, rfl, by decide +kernel, rfl, by decide +kernel, by decide +kernel⟩
theorem der_is_within {P : Program} {w : World} {K : PySem.W.Frag} {mg : Str → Option Value} {base : Heap} (B : Bl mg) (C_is_number : Cal P w K mg base 1 "is_number" st_is_number ps_is_number (spF F_is_number 1)) {f : Addr} {cdv : Value} {A : Around} {outer : List Env} {s : Shared} {H : Hp} (hr : RoomG 1 (A.deeper (envOfC "is_within" (defScope st_is_within) s.heap.objs.size f cdv))) :
    FSts (cxD P w K mg base N_is_within "is_within" (defScope st_is_within) f cdv A outer s H) (defBody st_is_within) fb_is_within :=
    (fs_one (fs_ret (f_and (f_call C_is_number (hr.mono (by decide)) rfl bd_is_number (fa_cons (f_var 0) fa_nil) (alen_cons alen_nil)) (f_one (f_chain op_le p_le op_le p_le (f_var 1) (f_var 0) (f_var 2))))))
theorem sc_is_two : FnScope N_is_two ps_is_two (defScope st_is_two) := ⟨rfl, rfl, rfl, by decide +kernel, rfl, by decide +kernel, by decide +kernel⟩
theorem der_is_two {P : Program} {w : World} {K : PySem.W.Frag} {mg : Str → Option Value} {base : Heap} (B : Bl mg) {f : Addr} {cdv : Value} {A : Around} {outer : List Env} {s : Shared} {H : Hp} (hr : RoomG 0 (A.deeper (envOfC "is_two" (defScope st_is_two) s.heap.objs.size f cdv))) :
    FSts (cxD P w K mg base N_is_two "is_two" (defScope st_is_two) f cdv A outer s H) (defBody st_is_two) fb_is_two :=
    (fs_one (fs_ret (f_and (f_isi (by decide) rfl B.isinstance (by decide +kernel) rfl B.tuple (by decide +kernel) (f_var 0)) (f_one (f_eq hr.r.units (f_callB call_len_seq p_len rfl B.len (by decide +kernel) (fa_cons (f_var 0) fa_nil)) f_int)))))
theorem sc_ascends : FnScope N_ascends ps_ascends (defScope st_ascends) := ⟨rfl, rfl, rfl, by decide +kernel, rfl, by decide +kernel, by decide +kernel⟩
theorem der_ascends {P : Program} {w : World} {K : PySem.W.Frag} {mg : Str → Option Value} {base : Heap} (B : Bl mg) {f : Addr} {cdv : Value} {A : Around} {outer : List Env} {s : Shared} {H : Hp} (hr : RoomG 0 (A.deeper (envOfC "ascends" (defScope st_ascends) s.heap.objs.size f cdv))) :
    FSts (cxD P w K mg base N_ascends "ascends" (defScope st_ascends) f cdv A outer s H) (defBody st_ascends) fb_ascends :=
    (fs_one (fs_ret (f_callB (cr_all rfl) p_all rfl B.all (by decide +kernel) (fa_cons (f_lc rfl sc_ascends.nd (fi_zip rfl B.zip (fa_cons (f_var 0) (fa_cons (f_slice (f_var 0) (fp_some f_int) fp_no) fa_nil))) (blkOk_by (own := [("low", 1), ("high", 2)]) (N := N_ascends) (sc := defScope st_ascends) (by decide +kernel)) (compG_tup (is := [1, 2]) (by decide)) (tgc_tup (is := [1, 2]) (by decide)) (fun _ _ _ _ _ => (pg_tup (n := 2) rfl (pgs_name2 (pg_name (i := 1) sc_ascends.nd rfl (by first | exact Or.inl rfl | exact Or.inr rfl)) (pgs_name2 (pg_name (i := 2) sc_ascends.nd rfl (by first | exact Or.inl rfl | exact Or.inr rfl)) pgs_nil)))) (fun _ _ _ _ _ => ft_nil) (fun _ _ _ _ _ => (f_lt (f_var 1) (f_var 2)))) fa_nil))))
theorem sc_is_pairs : FnScope N_is_pairs ps_is_pairs (defScope st_is_pairs) := ⟨rfl, rfl, rfl, by decide +kernel, rfl, by decide +kernel, by decide +kernel⟩
theorem der_is_pairs {P : Program} {w : World} {K : PySem.W.Frag} {mg : Str → Option Value} {base : Heap} (B : Bl mg) (C_is_two : Cal P w K mg base 1 "is_two" st_is_two ps_is_two (spF F_is_two 1)) (C_is_number : Cal P w K mg base 1 "is_number" st_is_number ps_is_number (spF F_is_number 1)) (C_is_within : Cal P w K mg base 2 "is_within" st_is_within ps_is_within (spF F_is_within 3)) (C_ascends : Cal P w K mg base 1 "ascends" st_ascends ps_ascends (spF F_ascends 1)) {f : Addr} {cdv : Value} {A : Around} {outer : List Env} {s : Shared} {H : Hp} (hr : RoomG 2 (A.deeper (envOfC "is_pairs" (defScope st_is_pairs) s.heap.objs.size f cdv))) :
    FSts (cxD P w K mg base N_is_pairs "is_pairs" (defScope st_is_pairs) f cdv A outer s H) (defBody st_is_pairs) fb_is_pairs :=
    (fs_cons (fs_if (fc_not (fc_tr (f_isi (by decide) rfl B.isinstance (by decide +kernel) rfl B.tuple (by decide +kernel) (f_var 0)))) (fs_one (fs_ret f_bl)) fs_nil)
    (fs_cons (fs_if (fc_not (fc_tr (f_callB (cr_all rfl) p_all rfl B.all (by decide +kernel) (fa_cons (f_lc rfl sc_is_pairs.nd (fi_seq (f_var 0)) (blkOk_by (own := [("pair", 2)]) (N := N_is_pairs) (sc := defScope st_is_pairs) (by decide +kernel)) (compG_name (i := 2) (by decide)) (tgc_name (i := 2) (by decide)) (fun _ _ _ _ _ => (pg_name (i := 2) sc_is_pairs.nd rfl (by first | exact Or.inl rfl | exact Or.inr rfl))) (fun _ _ _ _ _ => ft_nil) (fun _ _ _ _ _ => (f_and (f_call C_is_two (hr.mono (by decide)) rfl bd_is_two (fa_cons (f_var 2) fa_nil) (alen_cons alen_nil)) (f_and (f_call C_is_number (hr.mono (by decide)) rfl bd_is_number (fa_cons (f_item (f_var 2) f_int) fa_nil) (alen_cons alen_nil)) (f_one (f_call C_is_within (hr.mono (by decide)) rfl bd_is_within (fa_cons (f_item (f_var 2) f_int) (fa_cons f_int (fa_cons (f_sub (f_var 1) f_int) fa_nil))) (alen_cons (alen_cons (alen_cons alen_nil))))))))) fa_nil)))) (fs_one (fs_ret f_bl)) fs_nil)
    (fs_one (fs_ret (f_call C_ascends (hr.mono (by decide)) rfl bd_ascends (fa_cons (f_lc rfl sc_is_pairs.nd (fi_seq (f_var 0)) (blkOk_by (own := [("pair", 2)]) (N := N_is_pairs) (sc := defScope st_is_pairs) (by decide +kernel)) (compG_name (i := 2) (by decide)) (tgc_name (i := 2) (by decide)) (fun _ _ _ _ _ => (pg_name (i := 2) sc_is_pairs.nd rfl (by first | exact Or.inl rfl | exact Or.inr rfl))) (fun _ _ _ _ _ => ft_nil) (fun _ _ _ _ _ => (f_item (f_var 2) f_int))) fa_nil) (alen_cons alen_nil))))))
theorem sc_is_modulus : FnScope N_is_modulus ps_is_modulus (defScope st_is_modulus) := ⟨rfl, rfl, rfl, by decide +kernel, rfl, by decide +kernel, by decide +kernel⟩
theorem der_is_modulus {P : Program} {w : World} {K : PySem.W.Frag} {mg : Str → Option Value} {base : Heap} (B : Bl mg) (H_PRIMES : KName K mg "PRIMES" [2, 3, 5, 6, 7, 10, 11, 13, 14, 15]) (HT_PRIMES : KTup K mg "PRIMES" [(2, [2]), (3, [3]), (5, [5]), (6, [2, 3]), (7, [7]), (10, [2, 5]), (11, [11]), (13, [13]), (14, [2, 7]), (15, [3, 5])]) (C_is_number : Cal P w K mg base 1 "is_number" st_is_number ps_is_number (spF F_is_number 1)) {f : Addr} {cdv : Value} {A : Around} {outer : List Env} {s : Shared} {H : Hp} (hr : RoomG 1 (A.deeper (envOfC "is_modulus" (defScope st_is_modulus) s.heap.objs.size f cdv))) :
    FSts (cxD P w K mg base N_is_modulus "is_modulus" (defScope st_is_modulus) f cdv A outer s H) (defBody st_is_modulus) fb_is_modulus :=
    (fs_one (fs_ret (f_and (f_call C_is_number (hr.mono (by decide)) rfl bd_is_number (fa_cons (f_var 0) fa_nil) (alen_cons alen_nil)) (f_one (f_inK H_PRIMES rfl (f_var 0))))))
theorem sc_has_modulus : FnScope N_has_modulus ps_has_modulus (defScope st_has_modulus) := ⟨rfl, rfl, rfl, by decide +kernel, rfl, by decide +kernel, by decide +kernel⟩
theorem der_has_modulus {P : Program} {w : World} {K : PySem.W.Frag} {mg : Str → Option Value} {base : Heap} (B : Bl mg) (C_is_two : Cal P w K mg base 1 "is_two" st_is_two ps_is_two (spF F_is_two 1)) (C_is_modulus : Cal P w K mg base 2 "is_modulus" st_is_modulus ps_is_modulus (spF F_is_modulus 1)) {f : Addr} {cdv : Value} {A : Around} {outer : List Env} {s : Shared} {H : Hp} (hr : RoomG 2 (A.deeper (envOfC "has_modulus" (defScope st_has_modulus) s.heap.objs.size f cdv))) :
    FSts (cxD P w K mg base N_has_modulus "has_modulus" (defScope st_has_modulus) f cdv A outer s H) (defBody st_has_modulus) fb_has_modulus :=
    (fs_one (fs_ret (f_and (f_call C_is_two (hr.mono (by decide)) rfl bd_is_two (fa_cons (f_var 0) fa_nil) (alen_cons alen_nil)) (f_one (f_call C_is_modulus (hr.mono (by decide)) rfl bd_is_modulus (fa_cons (f_item (f_var 0) f_int) fa_nil) (alen_cons alen_nil))))))
theorem sc_is_rule : FnScope N_is_rule ps_is_rule (defScope st_is_rule) := ⟨rfl, rfl, rfl, by decide +kernel, rfl, by decide +kernel, by decide +kernel⟩
theorem der_is_rule {P : Program} {w : World} {K : PySem.W.Frag} {mg : Str → Option Value} {base : Heap} (B : Bl mg) (C_has_modulus : Cal P w K mg base 3 "has_modulus" st_has_modulus ps_has_modulus (spF F_has_modulus 1)) (C_is_pairs : Cal P w K mg base 3 "is_pairs" st_is_pairs ps_is_pairs (spF F_is_pairs 2)) {f : Addr} {cdv : Value} {A : Around} {outer : List Env} {s : Shared} {H : Hp} (hr : RoomG 3 (A.deeper (envOfC "is_rule" (defScope st_is_rule) s.heap.objs.size f cdv))) :
    FSts (cxD P w K mg base N_is_rule "is_rule" (defScope st_is_rule) f cdv A outer s H) (defBody st_is_rule) fb_is_rule :=
    (fs_one (fs_ret (f_and (f_call C_has_modulus (hr.mono (by decide)) rfl bd_has_modulus (fa_cons (f_var 0) fa_nil) (alen_cons alen_nil)) (f_one (f_call C_is_pairs (hr.mono (by decide)) rfl bd_is_pairs (fa_cons (f_item (f_var 0) f_int) (fa_cons (f_item (f_var 0) f_int) fa_nil)) (alen_cons (alen_cons alen_nil)))))))
theorem sc_is_round : FnScope N_is_round ps_is_round (defScope st_is_round) := ⟨rfl, rfl, rfl, by decide +kernel, rfl, by decide +kernel, by decide +kernel⟩
theorem der_is_round {P : Program} {w : World} {K : PySem.W.Frag} {mg : Str → Option Value} {base : Heap} (B : Bl mg) (C_has_modulus : Cal P w K mg base 3 "has_modulus" st_has_modulus ps_has_modulus (spF F_has_modulus 1)) (C_is_within : Cal P w K mg base 2 "is_within" st_is_within ps_is_within (spF F_is_within 3)) {f : Addr} {cdv : Value} {A : Around} {outer : List Env} {s : Shared} {H : Hp} (hr : RoomG 3 (A.deeper (envOfC "is_round" (defScope st_is_round) s.heap.objs.size f cdv))) :
    FSts (cxD P w K mg base N_is_round "is_round" (defScope st_is_round) f cdv A outer s H) (defBody st_is_round) fb_is_round :=
    (fs_cons (fs_if (fc_w (fcw_or (fc_not (fc_tr (f_call C_has_modulus (hr.mono (by decide)) rfl bd_has_modulus (fa_cons (f_var 0) fa_nil) (alen_cons alen_nil)))) (fcw_or1 (fc_not (fc_tr (f_isi (by decide) rfl B.isinstance (by decide +kernel) rfl B.tuple (by decide +kernel) (f_item (f_var 0) f_int))))))) (fs_one (fs_ret f_bl)) fs_nil)
    (fs_one (fs_ret (f_and (f_gt (f_callB call_len_seq p_len rfl B.len (by decide +kernel) (fa_cons (f_item (f_var 0) f_int) fa_nil)) f_int) (f_one (f_callB (cr_all rfl) p_all rfl B.all (by decide +kernel) (fa_cons (f_lc rfl sc_is_round.nd (fi_seq (f_item (f_var 0) f_int)) (blkOk_by (own := [("rest", 1)]) (N := N_is_round) (sc := defScope st_is_round) (by decide +kernel)) (compG_name (i := 1) (by decide)) (tgc_name (i := 1) (by decide)) (fun _ _ _ _ _ => (pg_name (i := 1) sc_is_round.nd rfl (by first | exact Or.inl rfl | exact Or.inr rfl))) (fun _ _ _ _ _ => ft_nil) (fun _ _ _ _ _ => (f_call C_is_within (hr.mono (by decide)) rfl bd_is_within (fa_cons (f_var 1) (fa_cons f_int (fa_cons (f_sub (f_item (f_var 0) f_int) f_int) fa_nil))) (alen_cons (alen_cons (alen_cons alen_nil)))))) fa_nil)))))))
theorem sc_need_rule : FnScope N_need_rule ps_need_rule (defScope st_need_rule) := ⟨rfl, rfl, rfl, by decide +kernel, rfl, by decide +kernel, by decide +kernel⟩
theorem der_need_rule {P : Program} {w : World} {K : PySem.W.Frag} {mg : Str → Option Value} {base : Heap} (B : Bl mg) (C_is_rule : Cal P w K mg base 4 "is_rule" st_is_rule ps_is_rule (spF F_is_rule 1)) {f : Addr} {cdv : Value} {A : Around} {outer : List Env} {s : Shared} {H : Hp} (hr : RoomG 4 (A.deeper (envOfC "need_rule" (defScope st_need_rule) s.heap.objs.size f cdv))) :
    FSts (cxD P w K mg base N_need_rule "need_rule" (defScope st_need_rule) f cdv A outer s H) (defBody st_need_rule) fb_need_rule :=
    (fs_one (fs_if (fc_not (fc_tr (f_call C_is_rule (hr.mono (by decide)) rfl bd_is_rule (fa_cons (f_var 0) fa_nil) (alen_cons alen_nil)))) (fs_one fs_never) fs_nil))
theorem sc_need_round : FnScope N_need_round ps_need_round (defScope st_need_round) := ⟨rfl, rfl, rfl, by decide +kernel, rfl, by decide +kernel, by decide +kernel⟩
theorem der_need_round {P : Program} {w : World} {K : PySem.W.Frag} {mg : Str → Option Value} {base : Heap} (B : Bl mg) (C_is_round : Cal P w K mg base 4 "is_round" st_is_round ps_is_round (spF F_is_round 1)) {f : Addr} {cdv : Value} {A : Around} {outer : List Env} {s : Shared} {H : Hp} (hr : RoomG 4 (A.deeper (envOfC "need_round" (defScope st_need_round) s.heap.objs.size f cdv))) :
    FSts (cxD P w K mg base N_need_round "need_round" (defScope st_need_round) f cdv A outer s H) (defBody st_need_round) fb_need_round :=
    (fs_one (fs_if (fc_not (fc_tr (f_call C_is_round (hr.mono (by decide)) rfl bd_is_round (fa_cons (f_var 0) fa_nil) (alen_cons alen_nil)))) (fs_one fs_never) fs_nil))
theorem sc_need_same : FnScope N_need_same ps_need_same (defScope st_need_same) := ⟨rfl, rfl, rfl, by decide +kernel, rfl, by decide +kernel, by decide +kernel⟩
theorem der_need_same {P : Program} {w : World} {K : PySem.W.Frag} {mg : Str → Option Value} {base : Heap} (B : Bl mg) {f : Addr} {cdv : Value} {A : Around} {outer : List Env} {s : Shared} {H : Hp} (hr : RoomG 0 (A.deeper (envOfC "need_same" (defScope st_need_same) s.heap.objs.size f cdv))) :
    FSts (cxD P w K mg base N_need_same "need_same" (defScope st_need_same) f cdv A outer s H) (defBody st_need_same) fb_need_same :=
    (fs_one (fs_if (fc_ne hr.r.units (f_item (f_var 0) f_int) (f_item (f_var 1) f_int)) (fs_one fs_never) fs_nil))
theorem sc_primes_of : FnScope N_primes_of ps_primes_of (defScope st_primes_of) := ⟨rfl, rfl, rfl, by decide +kernel, rfl, by decide +kernel, by decide +kernel⟩
theorem der_primes_of {P : Program} {w : World} {K : PySem.W.Frag} {mg : Str → Option Value} {base : Heap} (B : Bl mg) (H_PRIMES : KName K mg "PRIMES" [2, 3, 5, 6, 7, 10, 11, 13, 14, 15]) (HT_PRIMES : KTup K mg "PRIMES" [(2, [2]), (3, [3]), (5, [5]), (6, [2, 3]), (7, [7]), (10, [2, 5]), (11, [11]), (13, [13]), (14, [2, 7]), (15, [3, 5])]) (C_is_modulus : Cal P w K mg base 2 "is_modulus" st_is_modulus ps_is_modulus (spF F_is_modulus 1)) {f : Addr} {cdv : Value} {A : Around} {outer : List Env} {s : Shared} {H : Hp} (hr : RoomG 2 (A.deeper (envOfC "primes_of" (defScope st_primes_of) s.heap.objs.size f cdv))) :
    FSts (cxD P w K mg base N_primes_of "primes_of" (defScope st_primes_of) f cdv A outer s H) (defBody st_primes_of) fb_primes_of :=
    (fs_cons (fs_if (fc_not (fc_tr (f_call C_is_modulus (hr.mono (by decide)) rfl bd_is_modulus (fa_cons (f_var 0) fa_nil) (alen_cons alen_nil)))) (fs_one fs_never) fs_nil)
    (fs_one (fs_ret (f_listO rfl B.list (f_ixK HT_PRIMES rfl (f_var 0))))))
theorem sc_by_prime : FnScope N_by_prime ps_by_prime (defScope st_by_prime) := ⟨rfl, rfl, rfl, by decide +kernel, rfl, by decide +kernel, by decide +kernel⟩
theorem der_by_prime {P : Program} {w : World} {K : PySem.W.Frag} {mg : Str → Option Value} {base : Heap} (B : Bl mg) (C_need_rule : Cal P w K mg base 5 "need_rule" st_need_rule ps_need_rule (spF F_need_rule 1)) (C_primes_of : Cal P w K mg base 3 "primes_of" st_primes_of ps_primes_of (spF F_primes_of 1)) {f : Addr} {cdv : Value} {A : Around} {outer : List Env} {s : Shared} {H : Hp} (hr : RoomG 5 (A.deeper (envOfC "by_prime" (defScope st_by_prime) s.heap.objs.size f cdv))) :
    FSts (cxD P w K mg base N_by_prime "by_prime" (defScope st_by_prime) f cdv A outer s H) (defBody st_by_prime) fb_by_prime :=
    (fs_cons (fs_expr (f_call C_need_rule (hr.mono (by decide)) rfl bd_need_rule (fa_cons (f_var 0) fa_nil) (alen_cons alen_nil)))
    (fs_cons (fs_if (fc_nin (f_var 1) (f_frz (f_call C_primes_of (hr.mono (by decide)) rfl bd_primes_of (fa_cons (f_item (f_var 0) f_int) fa_nil) (alen_cons alen_nil)))) (fs_one fs_never) fs_nil)
    (fs_one (fs_ret (f_callTy call_tuple_of2 p_tuple rfl B.tuple (by decide +kernel) (fa_cons (f_lc rfl sc_by_prime.nd (fi_seq (f_item (f_var 0) f_int)) (blkOk_by (own := [("offset", 2), ("factor", 3)]) (N := N_by_prime) (sc := defScope st_by_prime) (by decide +kernel)) (compG_tup (is := [2, 3]) (by decide)) (tgc_tup (is := [2, 3]) (by decide)) (fun _ _ _ _ _ => (pg_tup (n := 2) rfl (pgs_name2 (pg_name (i := 2) sc_by_prime.nd rfl (by first | exact Or.inl rfl | exact Or.inr rfl)) (pgs_name2 (pg_name (i := 3) sc_by_prime.nd rfl (by first | exact Or.inl rfl | exact Or.inr rfl)) pgs_nil)))) (fun _ _ _ _ _ => (ft_one (fc_tr (f_mod (f_var 3) (f_var 1))))) (fun _ _ _ _ _ => (f_tup (fa_cons (f_var 2) (fa_cons (f_mod (f_var 3) (f_var 1)) fa_nil))))) fa_nil))))))
theorem sc_divisors_of : FnScope N_divisors_of ps_divisors_of (defScope st_divisors_of) := ⟨rfl, rfl, rfl, by decide +kernel, rfl, by decide +kernel, by decide +kernel⟩
theorem der_divisors_of {P : Program} {w : World} {K : PySem.W.Frag} {mg : Str → Option Value} {base : Heap} (B : Bl mg) {f : Addr} {cdv : Value} {A : Around} {outer : List Env} {s : Shared} {H : Hp} (hr : RoomG 0 (A.deeper (envOfC "divisors_of" (defScope st_divisors_of) s.heap.objs.size f cdv))) :
    FSts (cxD P w K mg base N_divisors_of "divisors_of" (defScope st_divisors_of) f cdv A outer s H) (defBody st_divisors_of) fb_divisors_of :=
    (fs_cons (fs_asg (i := 1) sc_divisors_of.nd rfl (by first | exact Or.inl rfl | exact Or.inr rfl) (f_lstO fa_nil))
    (fs_cons (fs_asg (i := 2) sc_divisors_of.nd rfl (by first | exact Or.inl rfl | exact Or.inr rfl) f_int)
    (fs_cons (fs_while PassesOwn.never (fc_le (f_mul (f_var 2) (f_var 2)) (f_var 0)) (show FSts _ _ lb_divisors_of_1 from (fs_cons (fs_if (fc_eq hr.r.units (f_mod (f_var 0) (f_var 2)) f_int) (fs_cons (fs_expr (f_append (f_var 1) (fa_cons (f_var 2) fa_nil)))
    (fs_one (fs_while PassesOwn.never (fc_eq hr.r.units (f_mod (f_var 0) (f_var 2)) f_int) (show FSts _ _ lb_divisors_of_2 from (fs_one (fs_asg (i := 0) sc_divisors_of.nd rfl (by first | exact Or.inl rfl | exact Or.inr rfl) (f_fdiv (f_var 0) (f_var 2)))))))) fs_nil)
    (fs_one (fs_aug_add (i := 2) sc_divisors_of.nd rfl (by first | exact Or.inl rfl | exact Or.inr rfl) f_int)))))
    (fs_one (fs_ret (f_if (fc_gt (f_var 0) f_int) (f_addO (f_var 1) (f_lst (fa_cons (f_var 0) fa_nil))) (f_var 1)))))))
theorem sc_need_both : FnScope N_need_both ps_need_both (defScope st_need_both) := ⟨rfl, rfl, rfl, by decide +kernel, rfl, by decide +kernel, by decide +kernel⟩
theorem der_need_both {P : Program} {w : World} {K : PySem.W.Frag} {mg : Str → Option Value} {base : Heap} (B : Bl mg) (C_need_rule : Cal P w K mg base 5 "need_rule" st_need_rule ps_need_rule (spF F_need_rule 1)) (C_need_round : Cal P w K mg base 5 "need_round" st_need_round ps_need_round (spF F_need_round 1)) (C_need_same : Cal P w K mg base 1 "need_same" st_need_same ps_need_same (spF F_need_same 2)) {f : Addr} {cdv : Value} {A : Around} {outer : List Env} {s : Shared} {H : Hp} (hr : RoomG 5 (A.deeper (envOfC "need_both" (defScope st_need_both) s.heap.objs.size f cdv))) :
    FSts (cxD P w K mg base N_need_both "need_both" (defScope st_need_both) f cdv A outer s H) (defBody st_need_both) fb_need_both :=
    (fs_cons (fs_expr (f_call C_need_rule (hr.mono (by decide)) rfl bd_need_rule (fa_cons (f_var 0) fa_nil) (alen_cons alen_nil)))
    (fs_cons (fs_expr (f_call C_need_round (hr.mono (by decide)) rfl bd_need_round (fa_cons (f_var 1) fa_nil) (alen_cons alen_nil)))
    (fs_one (fs_expr (f_call C_need_same (hr.mono (by decide)) rfl bd_need_same (fa_cons (f_var 0) (fa_cons (f_var 1) fa_nil)) (alen_cons (alen_cons alen_nil)))))))
theorem sc_rests_of : FnScope N_rests_of ps_rests_of (defScope st_rests_of) := ⟨rfl, rfl, rfl, by decide +kernel, rfl, by decide +kernel, by decide +kernel⟩
theorem der_rests_of {P : Program} {w : World} {K : PySem.W.Frag} {mg : Str → Option Value} {base : Heap} (B : Bl mg) {f : Addr} {cdv : Value} {A : Around} {outer : List Env} {s : Shared} {H : Hp} (hr : RoomG 0 (A.deeper (envOfC "rests_of" (defScope st_rests_of) s.heap.objs.size f cdv))) :
    FSts (cxD P w K mg base N_rests_of "rests_of" (defScope st_rests_of) f cdv A outer s H) (defBody st_rests_of) fb_rests_of :=
    (fs_one (fs_ret (f_lcO rfl sc_rests_of.nd (fi_seq (f_item (f_var 0) f_int)) (blkOk_by (own := [("value", 2)]) (N := N_rests_of) (sc := defScope st_rests_of) (by decide +kernel)) (compG_name (i := 2) (by decide)) (tgc_name (i := 2) (by decide)) (fun _ _ _ _ _ => (pg_name (i := 2) sc_rests_of.nd rfl (by first | exact Or.inl rfl | exact Or.inr rfl))) (fun _ _ _ _ _ => ft_nil) (fun _ _ _ _ _ => (f_mod (f_var 2) (f_var 1))))))
theorem sc_turns_on_ring : FnScope N_turns_on_ring ps_turns_on_ring (defScope st_turns_on_ring) := ⟨rfl, rfl, rfl, by decide +kernel, rfl, by decide +kernel, by decide +kernel⟩
theorem der_turns_on_ring {P : Program} {w : World} {K : PySem.W.Frag} {mg : Str → Option Value} {base : Heap} (B : Bl mg) (C_share_of : Cal P w K mg base 1 "share_of" st_share_of ps_share_of (spF F_share_of 2)) {f : Addr} {cdv : Value} {A : Around} {outer : List Env} {s : Shared} {H : Hp} (hr : RoomG 1 (A.deeper (envOfC "turns_on_ring" (defScope st_turns_on_ring) s.heap.objs.size f cdv))) :
    FSts (cxD P w K mg base N_turns_on_ring "turns_on_ring" (defScope st_turns_on_ring) f cdv A outer s H) (defBody st_turns_on_ring) fb_turns_on_ring :=
    (fs_cons (fs_asg (i := 2) sc_turns_on_ring.nd rfl (by first | exact Or.inl rfl | exact Or.inr rfl) (f_call C_share_of (hr.mono (by decide)) rfl bd_share_of (fa_cons (f_var 0) (fa_cons (f_var 1) fa_nil)) (alen_cons (alen_cons alen_nil))))
    (fs_cons (fs_asg (i := 3) sc_turns_on_ring.nd rfl (by first | exact Or.inl rfl | exact Or.inr rfl) (f_fdiv (f_var 0) (f_var 2)))
    (fs_cons (fs_asg (i := 4) sc_turns_on_ring.nd rfl (by first | exact Or.inl rfl | exact Or.inr rfl) (f_var 1))
    (fs_cons (fs_while PassesOwn.never (fc_ne hr.r.units (f_mod (f_var 4) (f_var 3)) (f_mod f_int (f_var 3))) (show FSts _ _ lb_turns_on_ring_1 from (fs_one (fs_asg (i := 4) sc_turns_on_ring.nd rfl (by first | exact Or.inl rfl | exact Or.inr rfl) (f_mul (f_var 4) (f_var 1))))))
    (fs_one (fs_ret (f_tup (fa_cons (f_var 2) (fa_cons (f_var 4) fa_nil)))))))))
theorem sc_again_modulo : FnScope N_again_modulo ps_again_modulo (defScope st_again_modulo) := ⟨rfl, rfl, rfl, by decide +kernel, rfl, by decide +kernel, by decide +kernel⟩
theorem der_again_modulo {P : Program} {w : World} {K : PySem.W.Frag} {mg : Str → Option Value} {base : Heap} (B : Bl mg) (C_turns_on_ring : Cal P w K mg base 2 "turns_on_ring" st_turns_on_ring ps_turns_on_ring (spF F_turns_on_ring 2)) (C_done_often : Cal P w K mg base 2 "done_often" st_done_often ps_done_often (spF F_done_often 4)) (C_stepped : Cal P w K mg base 1 "stepped" st_stepped ps_stepped (spF F_stepped 4)) (C_divisors_of : Cal P w K mg base 1 "divisors_of" st_divisors_of ps_divisors_of (spF F_divisors_of 1)) {f : Addr} {cdv : Value} {A : Around} {outer : List Env} {s : Shared} {H : Hp} (hr : RoomG 2 (A.deeper (envOfC "again_modulo" (defScope st_again_modulo) s.heap.objs.size f cdv))) :
    FSts (cxD P w K mg base N_again_modulo "again_modulo" (defScope st_again_modulo) f cdv A outer s H) (defBody st_again_modulo) fb_again_modulo :=
    (fs_cons (fs_asgT (f_call C_turns_on_ring (hr.mono (by decide)) rfl bd_turns_on_ring (fa_cons (f_callB call_len_seq p_len rfl B.len (by decide +kernel) (fa_cons (f_var 1) fa_nil)) (fa_cons (f_var 2) fa_nil)) (alen_cons (alen_cons alen_nil))) (g_tup (is := [3, 4]) rfl (pgs_name2 (pg_name (i := 3) sc_again_modulo.nd rfl (by first | exact Or.inl rfl | exact Or.inr rfl)) (pgs_name2 (pg_name (i := 4) sc_again_modulo.nd rfl (by first | exact Or.inl rfl | exact Or.inr rfl)) pgs_nil))))
    (fs_cons (fs_asg (i := 5) sc_again_modulo.nd rfl (by first | exact Or.inl rfl | exact Or.inr rfl) (f_mul (f_var 3) (f_sub (f_var 4) f_int)))
    (fs_cons (fs_asg (i := 6) sc_again_modulo.nd rfl (by first | exact Or.inl rfl | exact Or.inr rfl) f_int)
    (fs_cons (fs_while PassesOwn.never (fc_ne hr.r.units (f_call C_done_often (hr.mono (by decide)) rfl bd_done_often (fa_cons (f_var 0) (fa_cons (f_var 5) (fa_cons (f_var 1) (fa_cons (f_var 2) fa_nil)))) (alen_cons (alen_cons (alen_cons (alen_cons alen_nil))))) (f_var 1)) (show FSts _ _ lb_again_modulo_1 from (fs_cons (fs_asg (i := 1) sc_again_modulo.nd rfl (by first | exact Or.inl rfl | exact Or.inr rfl) (f_frz (f_call C_stepped (hr.mono (by decide)) rfl bd_stepped (fa_cons (f_var 0) (fa_cons (f_var 1) (fa_cons f_int (fa_cons (f_var 2) fa_nil)))) (alen_cons (alen_cons (alen_cons (alen_cons alen_nil)))))))
    (fs_one (fs_aug_add (i := 6) sc_again_modulo.nd rfl (by first | exact Or.inl rfl | exact Or.inr rfl) f_int)))))
    (fs_cons (fs_for PassesOwn.never rfl (fi_seq (f_add (f_frz (f_call C_divisors_of (hr.mono (by decide)) rfl bd_divisors_of (fa_cons (f_sub (f_var 4) f_int) fa_nil) (alen_cons alen_nil))) (f_lst (fa_cons (f_var 2) fa_nil)))) (g_name (i := 7) sc_again_modulo.nd rfl (by first | exact Or.inl rfl | exact Or.inr rfl)) (tgd_name (i := 7)) (show FSts _ _ lb_again_modulo_2 from (fs_one (fs_while PassesOwn.never (fc_w (fcw_and (fc_eq hr.r.units (f_mod (f_var 5) (f_var 7)) f_int) (fcw_and1 (fc_eq hr.r.units (f_call C_done_often (hr.mono (by decide)) rfl bd_done_often (fa_cons (f_var 0) (fa_cons (f_fdiv (f_var 5) (f_var 7)) (fa_cons (f_var 1) (fa_cons (f_var 2) fa_nil)))) (alen_cons (alen_cons (alen_cons (alen_cons alen_nil))))) (f_var 1))))) (show FSts _ _ lb_again_modulo_3 from (fs_one (fs_asg (i := 5) sc_again_modulo.nd rfl (by first | exact Or.inl rfl | exact Or.inr rfl) (f_fdiv (f_var 5) (f_var 7)))))))))
    (fs_one (fs_ret (f_tup (fa_cons (f_var 6) (fa_cons (f_var 5) fa_nil))))))))))
theorem sc_comes_again : FnScope N_comes_again ps_comes_again (defScope st_comes_again) := ⟨rfl, rfl, rfl, by decide +kernel, rfl, by decide +kernel, by decide +kernel⟩
theorem der_comes_again {P : Program} {w : World} {K : PySem.W.Frag} {mg : Str → Option Value} {base : Heap} (B : Bl mg) (HM_lcm : KFun mg "lcm" "math.lcm") (C_need_both : Cal P w K mg base 6 "need_both" st_need_both ps_need_both (spF F_need_both 2)) (C_primes_of : Cal P w K mg base 3 "primes_of" st_primes_of ps_primes_of (spF F_primes_of 1)) (C_again_modulo : Cal P w K mg base 3 "again_modulo" st_again_modulo ps_again_modulo (spF F_again_modulo 3)) (C_by_prime : Cal P w K mg base 6 "by_prime" st_by_prime ps_by_prime (spF F_by_prime 2)) (C_rests_of : Cal P w K mg base 1 "rests_of" st_rests_of ps_rests_of (spF F_rests_of 2)) {f : Addr} {cdv : Value} {A : Around} {outer : List Env} {s : Shared} {H : Hp} (hr : RoomG 6 (A.deeper (envOfC "comes_again" (defScope st_comes_again) s.heap.objs.size f cdv))) :
    FSts (cxD P w K mg base N_comes_again "comes_again" (defScope st_comes_again) f cdv A outer s H) (defBody st_comes_again) fb_comes_again :=
    (fs_cons (fs_expr (f_call C_need_both (hr.mono (by decide)) rfl bd_need_both (fa_cons (f_var 0) (fa_cons (f_var 1) fa_nil)) (alen_cons (alen_cons alen_nil))))
    (fs_cons (fs_asgT (f_tup (fa_cons f_int (fa_cons f_int fa_nil))) (g_tup (is := [2, 3]) rfl (pgs_name2 (pg_name (i := 2) sc_comes_again.nd rfl (by first | exact Or.inl rfl | exact Or.inr rfl)) (pgs_name2 (pg_name (i := 3) sc_comes_again.nd rfl (by first | exact Or.inl rfl | exact Or.inr rfl)) pgs_nil))))
    (fs_cons (fs_for PassesOwn.never rfl (fi_seq (f_frz (f_call C_primes_of (hr.mono (by decide)) rfl bd_primes_of (fa_cons (f_item (f_var 1) f_int) fa_nil) (alen_cons alen_nil)))) (g_name (i := 4) sc_comes_again.nd rfl (by first | exact Or.inl rfl | exact Or.inr rfl)) (tgd_name (i := 4)) (show FSts _ _ lb_comes_again_1 from (fs_cons (fs_asg (i := 5) sc_comes_again.nd rfl (by first | exact Or.inl rfl | exact Or.inr rfl) (f_call C_again_modulo (hr.mono (by decide)) rfl bd_again_modulo (fa_cons (f_call C_by_prime (hr.mono (by decide)) rfl bd_by_prime (fa_cons (f_var 0) (fa_cons (f_var 4) fa_nil)) (alen_cons (alen_cons alen_nil))) (fa_cons (f_frz (f_call C_rests_of (hr.mono (by decide)) rfl bd_rests_of (fa_cons (f_var 1) (fa_cons (f_var 4) fa_nil)) (alen_cons (alen_cons alen_nil)))) (fa_cons (f_var 4) fa_nil))) (alen_cons (alen_cons (alen_cons alen_nil)))))
    (fs_cons (fs_asg (i := 2) sc_comes_again.nd rfl (by first | exact Or.inl rfl | exact Or.inr rfl) (f_callB (call_max2 rfl) p_max2 rfl B.max (by decide +kernel) (fa_cons (f_var 2) (fa_cons (f_item (f_var 5) f_int) fa_nil))))
    (fs_one (fs_asg (i := 3) sc_comes_again.nd rfl (by first | exact Or.inl rfl | exact Or.inr rfl) (f_callBf call_lcm p_lcm rfl HM_lcm (fa_cons (f_var 3) (fa_cons (f_item (f_var 5) f_int) fa_nil)))))))))
    (fs_one (fs_ret (f_tup (fa_cons (f_var 2) (fa_cons (f_var 3) fa_nil))))))))
theorem sc__law_jar : FnScope N__law_jar ps__law_jar (defScope st__law_jar) := ⟨rfl, rfl, rfl, by decide +kernel, rfl, by decide +kernel, by decide +kernel⟩
theorem der__law_jar {P : Program} {w : World} {K : PySem.W.Frag} {mg : Str → Option Value} {base : Heap} (B : Bl mg) {f : Addr} {cdv : Value} {A : Around} {outer : List Env} {s : Shared} {H : Hp} (hr : RoomG 0 (A.deeper (envOfC "_law_jar" (defScope st__law_jar) s.heap.objs.size f cdv))) :
    FSts (cxD P w K mg base N__law_jar "_law_jar" (defScope st__law_jar) f cdv A outer s H) (defBody st__law_jar) fb__law_jar :=
    (fs_cons (fs_asg (i := 2) sc__law_jar.nd rfl (by first | exact Or.inl rfl | exact Or.inr rfl) (f_add (f_mul f_int (f_var 1)) f_int))
    (fs_cons (fs_if (fc_lt (f_var 1) (f_callB call_len_seq p_len rfl B.len (by decide +kernel) (fa_cons (f_var 0) fa_nil))) (fs_one (fs_asg (i := 2) sc__law_jar.nd rfl (by first | exact Or.inl rfl | exact Or.inr rfl) (f_item (f_var 0) (f_var 1)))) fs_nil)
    (fs_cons (fs_asg (i := 3) sc__law_jar.nd rfl (by first | exact Or.inl rfl | exact Or.inr rfl) (f_add (f_callB (cr_sum rfl) p_sum rfl B.sum (by decide +kernel) (fa_cons (f_lc rfl sc__law_jar.nd (fi_seq (f_var 0)) (blkOk_by (own := [("_law_other", 4)]) (N := N__law_jar) (sc := defScope st__law_jar) (by decide +kernel)) (compG_name (i := 4) (by decide)) (tgc_name (i := 4) (by decide)) (fun _ _ _ _ _ => (pg_name (i := 4) sc__law_jar.nd rfl (by first | exact Or.inl rfl | exact Or.inr rfl))) (fun _ _ _ _ _ => ft_nil) (fun _ _ _ _ _ => (f_mod (f_callTy call_int1 p_int rfl B.int (by decide +kernel) (fa_cons (f_var 4) fa_nil)) (f_add (f_pow f_int f_int) f_int)))) fa_nil)) (f_mul f_int (f_callB call_len_seq p_len rfl B.len (by decide +kernel) (fa_cons (f_var 0) fa_nil)))))
    (fs_cons (fs_asg (i := 5) sc__law_jar.nd rfl (by first | exact Or.inl rfl | exact Or.inr rfl) (f_mod (f_callTy call_int1 p_int rfl B.int (by decide +kernel) (fa_cons (f_add (f_add (f_add (f_mul (f_callB call_abs p_abs rfl B.abs (by decide +kernel) (fa_cons (f_var 2) fa_nil)) f_int) (f_mul f_int (f_callTy call_int1 p_int rfl B.int (by decide +kernel) (fa_cons (f_lt (f_var 2) f_int) fa_nil)))) (f_mul (f_var 3) f_int)) (f_var 1)) fa_nil)) (f_add (f_pow f_int f_int) f_int)))
    (fs_one (fs_ret (f_lstO (fa_cons (f_callB (call_max2 rfl) p_max2 rfl B.max (by decide +kernel) (fa_cons f_int (fa_cons (f_sub (f_var 2) (f_pow f_int f_int)) fa_nil))) (fa_cons (f_var 5) (fa_cons f_int fa_nil))))))))))
theorem sc__law_take : FnScope N__law_take ps__law_take (defScope st__law_take) := ⟨rfl, rfl, rfl, by decide +kernel, rfl, by decide +kernel, by decide +kernel⟩
theorem der__law_take {P : Program} {w : World} {K : PySem.W.Frag} {mg : Str → Option Value} {base : Heap} (B : Bl mg) {f : Addr} {cdv : Value} {A : Around} {outer : List Env} {s : Shared} {H : Hp} (hr : RoomG 0 (A.deeper (envOfC "_law_take" (defScope st__law_take) s.heap.objs.size f cdv))) :
    FSts (cxD P w K mg base N__law_take "_law_take" (defScope st__law_take) f cdv A outer s H) (defBody st__law_take) fb__law_take :=
    (fs_cons (fs_if (fc_gt (f_item (f_var 0) f_int) f_int) (fs_cons (fs_asg (i := 2) sc__law_take.nd rfl (by first | exact Or.inl rfl | exact Or.inr rfl) (f_mod (f_callTy call_int1 p_int rfl B.int (by decide +kernel) (fa_cons (f_item (f_var 0) f_int) fa_nil)) (f_var 1)))
    (fs_cons (fs_setI (f_var 0) f_int (f_fdiv (f_item (f_var 0) f_int) (f_var 1)))
    (fs_one (fs_ret (f_var 2))))) fs_nil)
    (fs_cons (fs_setI (f_var 0) f_int (f_add (f_item (f_var 0) f_int) f_int))
    (fs_cons (fs_asg (i := 3) sc__law_take.nd rfl (by first | exact Or.inl rfl | exact Or.inr rfl) (f_mod (f_callTy call_int1 p_int rfl B.int (by decide +kernel) (fa_cons (f_add (f_pow (f_add (f_item (f_var 0) f_int) (f_mul f_int (f_item (f_var 0) f_int))) f_int) (f_mul f_int (f_item (f_var 0) f_int))) fa_nil)) (f_add (f_pow f_int f_int) f_int)))
    (fs_cons (fs_asg (i := 3) sc__law_take.nd rfl (by first | exact Or.inl rfl | exact Or.inr rfl) (f_mod (f_callTy call_int1 p_int rfl B.int (by decide +kernel) (fa_cons (f_mul (f_var 3) (f_add (f_var 3) (f_mul f_int (f_item (f_var 0) f_int)))) fa_nil)) (f_add (f_pow f_int f_int) f_int)))
    (fs_one (fs_ret (f_mod (f_callTy call_int1 p_int rfl B.int (by decide +kernel) (fa_cons (f_fdiv (f_var 3) f_int) fa_nil)) (f_var 1))))))))
theorem sc__law_modulus : FnScope N__law_modulus ps__law_modulus (defScope st__law_modulus) := ⟨rfl, rfl, rfl, by decide +kernel, rfl, by decide +kernel, by decide +kernel⟩
theorem der__law_modulus {P : Program} {w : World} {K : PySem.W.Frag} {mg : Str → Option Value} {base : Heap} (B : Bl mg) (C__law_take : Cal P w K mg base 1 "_law_take" st__law_take ps__law_take (spF F__law_take 2)) {f : Addr} {cdv : Value} {A : Around} {outer : List Env} {s : Shared} {H : Hp} (hr : RoomG 1 (A.deeper (envOfC "_law_modulus" (defScope st__law_modulus) s.heap.objs.size f cdv))) :
    FSts (cxD P w K mg base N__law_modulus "_law_modulus" (defScope st__law_modulus) f cdv A outer s H) (defBody st__law_modulus) fb__law_modulus :=
    (fs_one (fs_ret (f_item (f_lst (fa_cons f_int (fa_cons f_int (fa_cons f_int (fa_cons f_int (fa_cons f_int (fa_cons f_int (fa_cons f_int (fa_cons f_int (fa_cons f_int (fa_cons f_int fa_nil))))))))))) (f_call C__law_take (hr.mono (by decide)) rfl bd__law_take (fa_cons (f_var 0) (fa_cons f_int fa_nil)) (alen_cons (alen_cons alen_nil))))))
theorem sc__law_product : FnScope N__law_product ps__law_product (defScope st__law_product) := ⟨rfl, rfl, rfl, by decide +kernel, rfl, by decide +kernel, by decide +kernel⟩
theorem der__law_product {P : Program} {w : World} {K : PySem.W.Frag} {mg : Str → Option Value} {base : Heap} (B : Bl mg) (C__law_take : Cal P w K mg base 1 "_law_take" st__law_take ps__law_take (spF F__law_take 2)) {f : Addr} {cdv : Value} {A : Around} {outer : List Env} {s : Shared} {H : Hp} (hr : RoomG 1 (A.deeper (envOfC "_law_product" (defScope st__law_product) s.heap.objs.size f cdv))) :
    FSts (cxD P w K mg base N__law_product "_law_product" (defScope st__law_product) f cdv A outer s H) (defBody st__law_product) fb__law_product :=
    (fs_cons (fs_par (i := 3) (j := 4) rfl sc__law_product.nd rfl rfl (by decide) rfl rfl (fa_cons (f_item (f_lst (fa_cons f_int (fa_cons (f_sub (f_var 1) f_int) (fa_cons (f_add f_int (f_call C__law_take (hr.mono (by decide)) rfl bd__law_take (fa_cons (f_var 0) (fa_cons (f_sub (f_var 1) f_int) fa_nil)) (alen_cons (alen_cons alen_nil)))) fa_nil)))) (f_call C__law_take (hr.mono (by decide)) rfl bd__law_take (fa_cons (f_var 0) (fa_cons f_int fa_nil)) (alen_cons (alen_cons alen_nil)))) (fa_cons (f_lst (fa_cons f_int fa_nil)) fa_nil)) (by rfl))
    (fs_cons (fs_for PassesOwn.never rfl (fi_range1 rfl B.range (fa_cons (f_call C__law_take (hr.mono (by decide)) rfl bd__law_take (fa_cons (f_var 0) (fa_cons (f_add (f_var 2) f_int) fa_nil)) (alen_cons (alen_cons alen_nil))) fa_nil)) (g_name (i := 5) sc__law_product.nd rfl (by first | exact Or.inl rfl | exact Or.inr rfl)) (tgd_name (i := 5)) (show FSts _ _ lb__law_product_1 from (fs_cons (fs_asg (i := 6) sc__law_product.nd rfl (by first | exact Or.inl rfl | exact Or.inr rfl) (f_item (f_lst (fa_cons (f_var 3) (fa_cons (f_var 3) (fa_cons (f_var 3) (fa_cons (f_call C__law_take (hr.mono (by decide)) rfl bd__law_take (fa_cons (f_var 0) (fa_cons (f_var 1) fa_nil)) (alen_cons (alen_cons alen_nil))) fa_nil))))) (f_call C__law_take (hr.mono (by decide)) rfl bd__law_take (fa_cons (f_var 0) (fa_cons f_int fa_nil)) (alen_cons (alen_cons alen_nil)))))
    (fs_one (fs_setLc (i := 4) rfl sc__law_product.nd rfl rfl (sw_true rfl rfl rfl (by decide +kernel)) (fi_zip rfl B.zip (fa_cons (f_add (f_lst (fa_cons f_int fa_nil)) (f_var 4)) (fa_cons (f_add (f_var 4) (f_lst (fa_cons f_int fa_nil))) fa_nil))) (blkOk_by (own := [("_law_ahead", 7), ("_law_own", 8)]) (N := N__law_product) (sc := defScope st__law_product) (by decide +kernel)) (compG_tup (is := [7, 8]) (by decide)) (tgc_tup (is := [7, 8]) (by decide)) (fun _ _ _ _ _ => (pg_tup (n := 2) rfl (pgs_name2 (pg_name (i := 7) sc__law_product.nd rfl (by first | exact Or.inl rfl | exact Or.inr rfl)) (pgs_name2 (pg_name (i := 8) sc__law_product.nd rfl (by first | exact Or.inl rfl | exact Or.inr rfl)) pgs_nil)))) (fun _ _ _ _ _ => ft_nil) (fun _ _ _ _ _ => (f_mod (f_callTy call_int1 p_int rfl B.int (by decide +kernel) (fa_cons (f_sub (f_var 7) (f_mul (f_var 6) (f_var 8))) fa_nil)) (f_var 1))))))))
    (fs_one (fs_ret (f_var 4)))))
theorem sc__law_rule : FnScope N__law_rule ps__law_rule (defScope st__law_rule) := ⟨rfl, rfl, rfl, by decide +kernel, rfl, by decide +kernel, by decide +kernel⟩
theorem der__law_rule {P : Program} {w : World} {K : PySem.W.Frag} {mg : Str → Option Value} {base : Heap} (B : Bl mg) (C__law_take : Cal P w K mg base 1 "_law_take" st__law_take ps__law_take (spF F__law_take 2)) (C__law_product : Cal P w K mg base 2 "_law_product" st__law_product ps__law_product (spF F__law_product 3)) {f : Addr} {cdv : Value} {A : Around} {outer : List Env} {s : Shared} {H : Hp} (hr : RoomG 2 (A.deeper (envOfC "_law_rule" (defScope st__law_rule) s.heap.objs.size f cdv))) :
    FSts (cxD P w K mg base N__law_rule "_law_rule" (defScope st__law_rule) f cdv A outer s H) (defBody st__law_rule) fb__law_rule :=
    (fs_cons (fs_asg (i := 2) sc__law_rule.nd rfl (by first | exact Or.inl rfl | exact Or.inr rfl) (f_call C__law_take (hr.mono (by decide)) rfl bd__law_take (fa_cons (f_var 0) (fa_cons f_int fa_nil)) (alen_cons (alen_cons alen_nil))))
    (fs_cons (fs_if (fc_lt (f_var 2) f_int) (fs_one (fs_asg (i := 3) sc__law_rule.nd rfl (by first | exact Or.inl rfl | exact Or.inr rfl) (f_call C__law_product (hr.mono (by decide)) rfl bd__law_product (fa_cons (f_var 0) (fa_cons (f_var 1) (fa_cons f_int fa_nil))) (alen_cons (alen_cons (alen_cons alen_nil)))))) (fs_cons (fs_setLc (i := 3) rfl sc__law_rule.nd rfl rfl (sw_true rfl rfl rfl (by decide +kernel)) (fi_range1 rfl B.range (fa_cons (f_add f_int (f_call C__law_take (hr.mono (by decide)) rfl bd__law_take (fa_cons (f_var 0) (fa_cons f_int fa_nil)) (alen_cons (alen_cons alen_nil)))) fa_nil)) (blkOk_by (own := [("_law_turn", 4)]) (N := N__law_rule) (sc := defScope st__law_rule) (by decide +kernel)) (compG_name (i := 4) (by decide)) (tgc_name (i := 4) (by decide)) (fun _ _ _ _ _ => (pg_name (i := 4) sc__law_rule.nd rfl (by first | exact Or.inl rfl | exact Or.inr rfl))) (fun _ _ _ _ _ => ft_nil) (fun _ _ _ _ _ => (f_call C__law_take (hr.mono (by decide)) rfl bd__law_take (fa_cons (f_var 0) (fa_cons (f_var 1) fa_nil)) (alen_cons (alen_cons alen_nil)))))
    (fs_one (fs_if (fc_eq hr.r.units (f_var 2) f_int) (fs_one (fs_setLc (i := 3) rfl sc__law_rule.nd rfl rfl (sw_true rfl rfl rfl (by decide +kernel)) (fi_seq (f_var 3)) (blkOk_by (own := [("_law_own", 5)]) (N := N__law_rule) (sc := defScope st__law_rule) (by decide +kernel)) (compG_name (i := 5) (by decide)) (tgc_name (i := 5) (by decide)) (fun _ _ _ _ _ => (pg_name (i := 5) sc__law_rule.nd rfl (by first | exact Or.inl rfl | exact Or.inr rfl))) (fun _ _ _ _ _ => ft_nil) (fun _ _ _ _ _ => (f_mul (f_var 5) (f_callTy call_int1 p_int rfl B.int (by decide +kernel) (fa_cons (f_eq hr.r.units (f_call C__law_take (hr.mono (by decide)) rfl bd__law_take (fa_cons (f_var 0) (fa_cons f_int fa_nil)) (alen_cons (alen_cons alen_nil))) f_int) fa_nil)))))) fs_nil))))
    (fs_cons (fs_asg (i := 6) sc__law_rule.nd rfl (by first | exact Or.inl rfl | exact Or.inr rfl) (f_sub (f_call C__law_take (hr.mono (by decide)) rfl bd__law_take (fa_cons (f_var 0) (fa_cons (f_sub f_int (f_callB call_len_seq p_len rfl B.len (by decide +kernel) (fa_cons (f_var 3) fa_nil))) fa_nil)) (alen_cons (alen_cons alen_nil))) f_int))
    (fs_cons (fs_asg (i := 7) sc__law_rule.nd rfl (by first | exact Or.inl rfl | exact Or.inr rfl) (f_item (f_lst (fa_cons f_int (fa_cons f_int (fa_cons f_int (fa_cons f_int (fa_cons (f_call C__law_take (hr.mono (by decide)) rfl bd__law_take (fa_cons (f_var 0) (fa_cons (f_var 1) fa_nil)) (alen_cons (alen_cons alen_nil))) fa_nil)))))) (f_call C__law_take (hr.mono (by decide)) rfl bd__law_take (fa_cons (f_var 0) (fa_cons f_int fa_nil)) (alen_cons (alen_cons alen_nil)))))
    (fs_cons (fs_setLc (i := 8) rfl sc__law_rule.nd rfl rfl (sw_true rfl rfl rfl (by decide +kernel)) (fi_enum rfl B.enumerate (fa_cons (f_var 3) fa_nil)) (blkOk_by (own := [("_law_at", 9), ("_law_own", 5)]) (N := N__law_rule) (sc := defScope st__law_rule) (by decide +kernel)) (compG_tup (is := [9, 5]) (by decide)) (tgc_tup (is := [9, 5]) (by decide)) (fun _ _ _ _ _ => (pg_tup (n := 2) rfl (pgs_name2 (pg_name (i := 9) sc__law_rule.nd rfl (by first | exact Or.inl rfl | exact Or.inr rfl)) (pgs_name2 (pg_name (i := 5) sc__law_rule.nd rfl (by first | exact Or.inl rfl | exact Or.inr rfl)) pgs_nil)))) (fun _ _ _ _ _ => ft_nil) (fun _ _ _ _ _ => (f_tup (fa_cons (f_add (f_var 6) (f_var 9)) (fa_cons (f_mod (f_callTy call_int1 p_int rfl B.int (by decide +kernel) (fa_cons (f_mul (f_var 5) (f_var 7)) fa_nil)) (f_var 1)) fa_nil)))))
    (fs_one (fs_ret (f_tup (fa_cons (f_var 1) (fa_cons (f_callTy call_tuple_of2 p_tuple rfl B.tuple (by decide +kernel) (fa_cons (f_lc rfl sc__law_rule.nd (fi_seq (f_var 8)) (blkOk_by (own := [("_law_term", 10)]) (N := N__law_rule) (sc := defScope st__law_rule) (by decide +kernel)) (compG_name (i := 10) (by decide)) (tgc_name (i := 10) (by decide)) (fun _ _ _ _ _ => (pg_name (i := 10) sc__law_rule.nd rfl (by first | exact Or.inl rfl | exact Or.inr rfl))) (fun _ _ _ _ _ => (ft_one (fc_gt (f_item (f_var 10) f_int) f_int))) (fun _ _ _ _ _ => (f_var 10))) fa_nil)) fa_nil))))))))))
theorem sc__law_values : FnScope N__law_values ps__law_values (defScope st__law_values) := ⟨rfl, rfl, rfl, by decide +kernel, rfl, by decide +kernel, by decide +kernel⟩
theorem der__law_values {P : Program} {w : World} {K : PySem.W.Frag} {mg : Str → Option Value} {base : Heap} (B : Bl mg) (C__law_take : Cal P w K mg base 1 "_law_take" st__law_take ps__law_take (spF F__law_take 2)) {f : Addr} {cdv : Value} {A : Around} {outer : List Env} {s : Shared} {H : Hp} (hr : RoomG 1 (A.deeper (envOfC "_law_values" (defScope st__law_values) s.heap.objs.size f cdv))) :
    FSts (cxD P w K mg base N__law_values "_law_values" (defScope st__law_values) f cdv A outer s H) (defBody st__law_values) fb__law_values :=
    (fs_cons (fs_asg (i := 3) sc__law_values.nd rfl (by first | exact Or.inl rfl | exact Or.inr rfl) (f_call C__law_take (hr.mono (by decide)) rfl bd__law_take (fa_cons (f_var 0) (fa_cons f_int fa_nil)) (alen_cons (alen_cons alen_nil))))
    (fs_cons (fs_if (fc_eq hr.r.units (f_var 3) f_int) (fs_cons (fs_asg (i := 4) sc__law_values.nd rfl (by first | exact Or.inl rfl | exact Or.inr rfl) (f_lc rfl sc__law_values.nd (fi_range1 rfl B.range (fa_cons (f_add f_int (f_call C__law_take (hr.mono (by decide)) rfl bd__law_take (fa_cons (f_var 0) (fa_cons (f_var 2) fa_nil)) (alen_cons (alen_cons alen_nil)))) fa_nil)) (blkOk_by (own := [("_law_turn", 5)]) (N := N__law_values) (sc := defScope st__law_values) (by decide +kernel)) (compG_name (i := 5) (by decide)) (tgc_name (i := 5) (by decide)) (fun _ _ _ _ _ => (pg_name (i := 5) sc__law_values.nd rfl (by first | exact Or.inl rfl | exact Or.inr rfl))) (fun _ _ _ _ _ => ft_nil) (fun _ _ _ _ _ => (f_call C__law_take (hr.mono (by decide)) rfl bd__law_take (fa_cons (f_var 0) (fa_cons (f_var 1) fa_nil)) (alen_cons (alen_cons alen_nil))))))
    (fs_one (fs_ret (f_callTy call_tuple_of2 p_tuple rfl B.tuple (by decide +kernel) (fa_cons (f_lc rfl sc__law_values.nd (fi_range1 rfl B.range (fa_cons (f_var 2) fa_nil)) (blkOk_by (own := [("_law_at", 6)]) (N := N__law_values) (sc := defScope st__law_values) (by decide +kernel)) (compG_name (i := 6) (by decide)) (tgc_name (i := 6) (by decide)) (fun _ _ _ _ _ => (pg_name (i := 6) sc__law_values.nd rfl (by first | exact Or.inl rfl | exact Or.inr rfl))) (fun _ _ _ _ _ => ft_nil) (fun _ _ _ _ _ => (f_item (f_var 4) (f_mod (f_callTy call_int1 p_int rfl B.int (by decide +kernel) (fa_cons (f_var 6) fa_nil)) (f_callB call_len_seq p_len rfl B.len (by decide +kernel) (fa_cons (f_var 4) fa_nil)))))) fa_nil))))) fs_nil)
    (fs_cons (fs_if (fc_eq hr.r.units (f_var 3) f_int) (fs_one (fs_ret (f_callTy call_tuple_of2 p_tuple rfl B.tuple (by decide +kernel) (fa_cons (f_lc rfl sc__law_values.nd (fi_range1 rfl B.range (fa_cons (f_var 2) fa_nil)) (blkOk_by (own := [("_law_at", 6)]) (N := N__law_values) (sc := defScope st__law_values) (by decide +kernel)) (compG_name (i := 6) (by decide)) (tgc_name (i := 6) (by decide)) (fun _ _ _ _ _ => (pg_name (i := 6) sc__law_values.nd rfl (by first | exact Or.inl rfl | exact Or.inr rfl))) (fun _ _ _ _ _ => ft_nil) (fun _ _ _ _ _ => (f_mul (f_call C__law_take (hr.mono (by decide)) rfl bd__law_take (fa_cons (f_var 0) (fa_cons (f_var 1) fa_nil)) (alen_cons (alen_cons alen_nil))) (f_callTy call_int1 p_int rfl B.int (by decide +kernel) (fa_cons (f_eq hr.r.units (f_call C__law_take (hr.mono (by decide)) rfl bd__law_take (fa_cons (f_var 0) (fa_cons f_int fa_nil)) (alen_cons (alen_cons alen_nil))) f_int) fa_nil))))) fa_nil)))) fs_nil)
    (fs_one (fs_ret (f_callTy call_tuple_of2 p_tuple rfl B.tuple (by decide +kernel) (fa_cons (f_lc rfl sc__law_values.nd (fi_range1 rfl B.range (fa_cons (f_var 2) fa_nil)) (blkOk_by (own := [("_law_at", 6)]) (N := N__law_values) (sc := defScope st__law_values) (by decide +kernel)) (compG_name (i := 6) (by decide)) (tgc_name (i := 6) (by decide)) (fun _ _ _ _ _ => (pg_name (i := 6) sc__law_values.nd rfl (by first | exact Or.inl rfl | exact Or.inr rfl))) (fun _ _ _ _ _ => ft_nil) (fun _ _ _ _ _ => (f_call C__law_take (hr.mono (by decide)) rfl bd__law_take (fa_cons (f_var 0) (fa_cons (f_var 1) fa_nil)) (alen_cons (alen_cons alen_nil))))) fa_nil)))))))
theorem sc__law_step : FnScope N__law_step ps__law_step (defScope st__law_step) := ⟨rfl, rfl, rfl, by decide +kernel, rfl, by decide +kernel, by decide +kernel⟩
theorem der__law_step {P : Program} {w : World} {K : PySem.W.Frag} {mg : Str → Option Value} {base : Heap} (B : Bl mg) {f : Addr} {cdv : Value} {A : Around} {outer : List Env} {s : Shared} {H : Hp} (hr : RoomG 0 (A.deeper (envOfC "_law_step" (defScope st__law_step) s.heap.objs.size f cdv))) :
    FSts (cxD P w K mg base N__law_step "_law_step" (defScope st__law_step) f cdv A outer s H) (defBody st__law_step) fb__law_step :=
    (fs_cons (fs_parT (is := [2, 3]) rfl (pgs_name2 (pg_name (i := 2) sc__law_step.nd rfl (by first | exact Or.inl rfl | exact Or.inr rfl)) (pgs_name2 (pg_name (i := 3) sc__law_step.nd rfl (by first | exact Or.inl rfl | exact Or.inr rfl)) pgs_nil)) (fb_cons (f_callB call_len_seq p_len rfl B.len (by decide +kernel) (fa_cons (f_var 1) fa_nil)) (fb_cons (f_lstO fa_nil) fb_nil)))
    (fs_cons (fs_for PassesOwn.never rfl (fi_range1 rfl B.range (fa_cons (f_var 2) fa_nil)) (g_name (i := 4) sc__law_step.nd rfl (by first | exact Or.inl rfl | exact Or.inr rfl)) (tgd_name (i := 4)) (show FSts _ _ lb__law_step_1 from (fs_one (fs_expr (f_append (f_var 3) (fa_cons (f_mod (f_callTy call_int1 p_int rfl B.int (by decide +kernel) (fa_cons (f_callB (cr_sum rfl) p_sum rfl B.sum (by decide +kernel) (fa_cons (f_lc rfl sc__law_step.nd (fi_seq (f_item (f_var 0) f_int)) (blkOk_by (own := [("_law_offset", 5), ("_law_factor", 6)]) (N := N__law_step) (sc := defScope st__law_step) (by decide +kernel)) (compG_tup (is := [5, 6]) (by decide)) (tgc_tup (is := [5, 6]) (by decide)) (fun _ _ _ _ _ => (pg_tup (n := 2) rfl (pgs_name2 (pg_name (i := 5) sc__law_step.nd rfl (by first | exact Or.inl rfl | exact Or.inr rfl)) (pgs_name2 (pg_name (i := 6) sc__law_step.nd rfl (by first | exact Or.inl rfl | exact Or.inr rfl)) pgs_nil)))) (fun _ _ _ _ _ => ft_nil) (fun _ _ _ _ _ => (f_mul (f_var 6) (f_item (f_var 1) (f_mod (f_callTy call_int1 p_int rfl B.int (by decide +kernel) (fa_cons (f_add (f_var 4) (f_var 5)) fa_nil)) (f_var 2)))))) fa_nil)) fa_nil)) (f_item (f_var 0) f_int)) fa_nil))))))
    (fs_one (fs_ret (f_callTy call_tuple_of2 p_tuple rfl B.tuple (by decide +kernel) (fa_cons (f_var 3) fa_nil))))))
theorem sc__law_walked : FnScope N__law_walked ps__law_walked (defScope st__law_walked) := ⟨rfl, rfl, rfl, by decide +kernel, rfl, by decide +kernel, by decide +kernel⟩
theorem der__law_walked {P : Program} {w : World} {K : PySem.W.Frag} {mg : Str → Option Value} {base : Heap} (B : Bl mg) (C__law_step : Cal P w K mg base 1 "_law_step" st__law_step ps__law_step (spF F__law_step 2)) {f : Addr} {cdv : Value} {A : Around} {outer : List Env} {s : Shared} {H : Hp} (hr : RoomG 1 (A.deeper (envOfC "_law_walked" (defScope st__law_walked) s.heap.objs.size f cdv))) :
    FSts (cxD P w K mg base N__law_walked "_law_walked" (defScope st__law_walked) f cdv A outer s H) (defBody st__law_walked) fb__law_walked :=
    (fs_cons (fs_par (i := 3) (j := 4) rfl sc__law_walked.nd rfl rfl (by decide) rfl rfl (fa_cons f_dictIO (fa_cons (f_var 1) fa_nil)) (by rfl))
    (fs_cons (fs_for PassesOwn.never rfl (fi_range1 rfl B.range (fa_cons (f_add (f_var 2) f_int) fa_nil)) (g_name (i := 5) sc__law_walked.nd rfl (by first | exact Or.inl rfl | exact Or.inr rfl)) (tgd_name (i := 5)) (show FSts _ _ lb__law_walked_1 from (fs_cons (fs_if (fc_inDI hr.r.un65 (f_var 4) (f_var 3)) (fs_one (fs_ret (f_tup (fa_cons (f_ixDI hr.r.units (f_var 3) (f_var 4)) (fa_cons (f_sub (f_var 5) (f_ixDI hr.r.units (f_var 3) (f_var 4))) fa_nil))))) fs_nil)
    (fs_cons (fs_setDI hr.r.units (f_var 3) (f_var 4) (f_var 5))
    (fs_one (fs_asg (i := 4) sc__law_walked.nd rfl (by first | exact Or.inl rfl | exact Or.inr rfl) (f_call C__law_step (hr.mono (by decide)) rfl bd__law_step (fa_cons (f_var 0) (fa_cons (f_var 4) fa_nil)) (alen_cons (alen_cons alen_nil)))))))))
    (fs_one (fs_ret f_non))))
theorem sc__law_right : FnScope N__law_right ps__law_right (defScope st__law_right) := ⟨rfl, rfl, rfl, by decide +kernel, rfl, by decide +kernel, by decide +kernel⟩
theorem der__law_right {P : Program} {w : World} {K : PySem.W.Frag} {mg : Str → Option Value} {base : Heap} (B : Bl mg) (C__law_walked : Cal P w K mg base 2 "_law_walked" st__law_walked ps__law_walked (spF F__law_walked 3)) (C_comes_again : Cal P w K mg base 7 "comes_again" st_comes_again ps_comes_again (spF F_comes_again 2)) {f : Addr} {cdv : Value} {A : Around} {outer : List Env} {s : Shared} {H : Hp} (hr : RoomG 7 (A.deeper (envOfC "_law_right" (defScope st__law_right) s.heap.objs.size f cdv))) :
    FSts (cxD P w K mg base N__law_right "_law_right" (defScope st__law_right) f cdv A outer s H) (defBody st__law_right) fb__law_right :=
    (fs_cons (fs_asg (i := 3) sc__law_right.nd rfl (by first | exact Or.inl rfl | exact Or.inr rfl) (f_call C__law_walked (hr.mono (by decide)) rfl bd__law_walked (fa_cons (f_var 0) (fa_cons (f_var 1) (fa_cons (f_var 2) fa_nil))) (alen_cons (alen_cons (alen_cons alen_nil)))))
    (fs_cons (fs_for PassesOwn.never rfl (fi_seq (f_lst (fa_cons (f_call C_comes_again (hr.mono (by decide)) rfl bd_comes_again (fa_cons (f_var 0) (fa_cons (f_tup (fa_cons (f_item (f_var 0) f_int) (fa_cons (f_var 1) fa_nil))) fa_nil)) (alen_cons (alen_cons alen_nil))) (fa_cons (f_callK C_comes_again (hr.mono (by decide)) rfl kb_comes_again_row_rule pm_comes_again_row_rule (fk_cons (f_tup (fa_cons (f_item (f_var 0) f_int) (fa_cons (f_var 1) fa_nil))) (fk_cons (f_var 0) fk_nil)) (alen_cons (alen_cons alen_nil))) fa_nil)))) (g_name (i := 4) sc__law_right.nd rfl (by first | exact Or.inl rfl | exact Or.inr rfl)) (tgd_name (i := 4)) (show FSts _ _ lb__law_right_1 from (fs_cons (fs_if (fc_w (fcw_and (fc_notN (f_var 3) f_non) (fcw_and1 (fc_ne hr.r.units (f_callB (call_repr hr.g hr.r.units) p_repr rfl B.repr (by decide +kernel) (fa_cons (f_var 4) fa_nil)) (f_callB (call_repr hr.g hr.r.units) p_repr rfl B.repr (by decide +kernel) (fa_cons (f_var 3) fa_nil)))))) (fs_one (fs_ret f_bl)) fs_nil)
    (fs_cons (fs_if (fc_w (fcw_or (fc_not (fc_tr (f_isi (by decide) rfl B.isinstance (by decide +kernel) rfl B.tuple (by decide +kernel) (f_var 4)))) (fcw_or1 (fc_ne hr.r.units (f_callB call_len_seq p_len rfl B.len (by decide +kernel) (fa_cons (f_var 4) fa_nil)) f_int)))) (fs_one (fs_ret f_bl)) fs_nil)
    (fs_cons (fs_if (fc_not (fc_tr (f_callB (cr_all rfl) p_all rfl B.all (by decide +kernel) (fa_cons (f_lc rfl sc__law_right.nd (fi_seq (f_var 4)) (blkOk_by (own := [("_law_part", 5)]) (N := N__law_right) (sc := defScope st__law_right) (by decide +kernel)) (compG_name (i := 5) (by decide)) (tgc_name (i := 5) (by decide)) (fun _ _ _ _ _ => (pg_name (i := 5) sc__law_right.nd rfl (by first | exact Or.inl rfl | exact Or.inr rfl))) (fun _ _ _ _ _ => ft_nil) (fun _ _ _ _ _ => (f_and (f_isi (by decide) rfl B.isinstance (by decide +kernel) rfl B.int (by decide +kernel) (f_var 5)) (f_one (f_not (f_isi (by decide) rfl B.isinstance (by decide +kernel) rfl B.bool (by decide +kernel) (f_var 5))))))) fa_nil)))) (fs_one (fs_ret f_bl)) fs_nil)
    (fs_one (fs_if (fc_w (fcw_or (fc_lt (f_item (f_var 4) f_int) f_int) (fcw_or (fc_lt (f_item (f_var 4) f_int) f_int) (fcw_or1 (fc_w (fcw_and (fc_isN (f_var 3) f_non) (fcw_and1 (fc_le (f_add (f_item (f_var 4) f_int) (f_item (f_var 4) f_int)) (f_var 2))))))))) (fs_one (fs_ret f_bl)) fs_nil)))))))
    (fs_one (fs_ret f_bl))))
theorem sc_law : FnScope N_law ps_law (defScope st_law) := ⟨rfl, rfl, rfl, by decide +kernel, rfl, by decide +kernel, by decide +kernel⟩
theorem der_law {P : Program} {w : World} {K : PySem.W.Frag} {mg : Str → Option Value} {base : Heap} (B : Bl mg) (C__law_jar : Cal P w K mg base 1 "_law_jar" st__law_jar ps__law_jar (spF F__law_jar 2)) (C__law_modulus : Cal P w K mg base 2 "_law_modulus" st__law_modulus ps__law_modulus (spF F__law_modulus 1)) (C__law_take : Cal P w K mg base 1 "_law_take" st__law_take ps__law_take (spF F__law_take 2)) (C__law_rule : Cal P w K mg base 3 "_law_rule" st__law_rule ps__law_rule (spF F__law_rule 2)) (C__law_values : Cal P w K mg base 2 "_law_values" st__law_values ps__law_values (spF F__law_values 3)) (C__law_step : Cal P w K mg base 1 "_law_step" st__law_step ps__law_step (spF F__law_step 2)) (C__law_right : Cal P w K mg base 8 "_law_right" st__law_right ps__law_right (spF F__law_right 3)) {f : Addr} {cdv : Value} {A : Around} {outer : List Env} {s : Shared} {H : Hp} (hr : RoomG 8 (A.deeper (envOfC "law" (defScope st_law) s.heap.objs.size f cdv))) :
    FSts (cxD P w K mg base N_law "law" (defScope st_law) f cdv A outer s H) (defBody st_law) fb_law :=
    (fs_cons (fs_for PassesOwn.never rfl (fi_range1 rfl B.range (fa_cons (f_callB (call_max2 rfl) p_max2 rfl B.max (by decide +kernel) (fa_cons f_int (fa_cons (f_callB (call_min2 rfl) p_min2 rfl B.min (by decide +kernel) (fa_cons f_int (fa_cons (f_callB call_len_seq p_len rfl B.len (by decide +kernel) (fa_cons (f_var 0) fa_nil)) fa_nil))) fa_nil))) fa_nil)) (g_name (i := 1) sc_law.nd rfl (by first | exact Or.inl rfl | exact Or.inr rfl)) (tgd_name (i := 1)) (show FSts _ _ lb_law_1 from (fs_cons (fs_asg (i := 2) sc_law.nd rfl (by first | exact Or.inl rfl | exact Or.inr rfl) (f_call C__law_jar (hr.mono (by decide)) rfl bd__law_jar (fa_cons (f_var 0) (fa_cons (f_var 1) fa_nil)) (alen_cons (alen_cons alen_nil))))
    (fs_cons (fs_asg (i := 3) sc_law.nd rfl (by first | exact Or.inl rfl | exact Or.inr rfl) (f_item (f_lst (fa_cons (f_call C__law_modulus (hr.mono (by decide)) rfl bd__law_modulus (fa_cons (f_var 2) fa_nil) (alen_cons alen_nil)) (fa_cons f_int (fa_cons f_int fa_nil)))) (f_call C__law_take (hr.mono (by decide)) rfl bd__law_take (fa_cons (f_var 2) (fa_cons f_int fa_nil)) (alen_cons (alen_cons alen_nil)))))
    (fs_cons (fs_par (i := 4) (j := 5) rfl sc_law.nd rfl rfl (by decide) rfl rfl (fa_cons (f_item (f_lst (fa_cons (f_add f_int (f_call C__law_take (hr.mono (by decide)) rfl bd__law_take (fa_cons (f_var 2) (fa_cons f_int fa_nil)) (alen_cons (alen_cons alen_nil)))) (fa_cons (f_add f_int (f_call C__law_take (hr.mono (by decide)) rfl bd__law_take (fa_cons (f_var 2) (fa_cons f_int fa_nil)) (alen_cons (alen_cons alen_nil)))) (fa_cons f_int (fa_cons f_int (fa_cons f_int fa_nil)))))) (f_call C__law_take (hr.mono (by decide)) rfl bd__law_take (fa_cons (f_var 2) (fa_cons f_int fa_nil)) (alen_cons (alen_cons alen_nil)))) (fa_cons (f_call C__law_rule (hr.mono (by decide)) rfl bd__law_rule (fa_cons (f_var 2) (fa_cons (f_var 3) fa_nil)) (alen_cons (alen_cons alen_nil))) fa_nil)) (by rfl))
    (fs_cons (fs_par (i := 6) (j := 7) rfl sc_law.nd rfl rfl (by decide) rfl rfl (fa_cons (f_call C__law_values (hr.mono (by decide)) rfl bd__law_values (fa_cons (f_var 2) (fa_cons (f_var 3) (fa_cons (f_var 4) fa_nil))) (alen_cons (alen_cons (alen_cons alen_nil)))) (fa_cons (f_call C__law_values (hr.mono (by decide)) rfl bd__law_values (fa_cons (f_var 2) (fa_cons (f_var 3) (fa_cons (f_add f_int (f_call C__law_take (hr.mono (by decide)) rfl bd__law_take (fa_cons (f_var 2) (fa_cons f_int fa_nil)) (alen_cons (alen_cons alen_nil)))) fa_nil))) (alen_cons (alen_cons (alen_cons alen_nil)))) fa_nil)) (by rfl))
    (fs_cons (fs_asg (i := 8) sc_law.nd rfl (by first | exact Or.inl rfl | exact Or.inr rfl) (f_var 6))
    (fs_cons (fs_for PassesOwn.never rfl (fi_range1 rfl B.range (fa_cons (f_add f_int (f_call C__law_take (hr.mono (by decide)) rfl bd__law_take (fa_cons (f_var 2) (fa_cons f_int fa_nil)) (alen_cons (alen_cons alen_nil)))) fa_nil)) (g_name (i := 9) sc_law.nd rfl (by first | exact Or.inl rfl | exact Or.inr rfl)) (tgd_name (i := 9)) (show FSts _ _ lb_law_2 from (fs_one (fs_asg (i := 8) sc_law.nd rfl (by first | exact Or.inl rfl | exact Or.inr rfl) (f_call C__law_step (hr.mono (by decide)) rfl bd__law_step (fa_cons (f_var 5) (fa_cons (f_var 8) fa_nil)) (alen_cons (alen_cons alen_nil)))))))
    (fs_one (fs_for PassesOwn.never rfl (fi_seq (f_lst (fa_cons (f_var 6) (fa_cons (f_var 7) (fa_cons (f_var 8) (fa_cons (f_var 6) (fa_cons (f_mulT (f_tup (fa_cons f_int fa_nil)) (f_var 4)) fa_nil))))))) (g_name (i := 10) sc_law.nd rfl (by first | exact Or.inl rfl | exact Or.inr rfl)) (tgd_name (i := 10)) (show FSts _ _ lb_law_3 from (fs_one (fs_if (fc_not (fc_tr (f_call C__law_right (hr.mono (by decide)) rfl bd__law_right (fa_cons (f_var 5) (fa_cons (f_var 10) (fa_cons f_int fa_nil))) (alen_cons (alen_cons (alen_cons alen_nil)))))) (fs_one (fs_ret f_bl)) fs_nil)))))))))))))
    (fs_one (fs_ret f_bl)))
end K31

namespace K31
open PySem PySem.Spec PyProof.Rows L2 DL FL
open NA

structure Facts (K : PySem.W.Frag) (mg : Str → Option Value) : Prop where
  B : Bl mg
  H_PRIMES : KName K mg "PRIMES" [2, 3, 5, 6, 7, 10, 11, 13, 14, 15]
  HT_PRIMES : KTup K mg "PRIMES" [(2, [2]), (3, [3]), (5, [5]), (6, [2, 3]), (7, [7]), (10, [2, 5]), (11, [11]), (13, [13]), (14, [2, 7]), (15, [3, 5])]
  HM_lcm : KFun mg "lcm" "math.lcm"
  D_share_of : DefM K mg "share_of" st_share_of
  D_stepped : DefM K mg "stepped" st_stepped
  D_done_often : DefM K mg "done_often" st_done_often
  D_is_number : DefM K mg "is_number" st_is_number
  D_is_within : DefM K mg "is_within" st_is_within
  D_is_two : DefM K mg "is_two" st_is_two
  D_ascends : DefM K mg "ascends" st_ascends
  D_is_pairs : DefM K mg "is_pairs" st_is_pairs
  D_is_modulus : DefM K mg "is_modulus" st_is_modulus
  D_has_modulus : DefM K mg "has_modulus" st_has_modulus
  D_is_rule : DefM K mg "is_rule" st_is_rule
  D_is_round : DefM K mg "is_round" st_is_round
  D_need_rule : DefM K mg "need_rule" st_need_rule
  D_need_round : DefM K mg "need_round" st_need_round
  D_need_same : DefM K mg "need_same" st_need_same
  D_primes_of : DefM K mg "primes_of" st_primes_of
  D_by_prime : DefM K mg "by_prime" st_by_prime
  D_divisors_of : DefM K mg "divisors_of" st_divisors_of
  D_need_both : DefM K mg "need_both" st_need_both
  D_rests_of : DefM K mg "rests_of" st_rests_of
  D_turns_on_ring : DefM K mg "turns_on_ring" st_turns_on_ring
  D_again_modulo : DefM K mg "again_modulo" st_again_modulo
  D_comes_again : DefM K mg "comes_again" st_comes_again
  D__law_jar : DefM K mg "_law_jar" st__law_jar
  D__law_take : DefM K mg "_law_take" st__law_take
  D__law_modulus : DefM K mg "_law_modulus" st__law_modulus
  D__law_product : DefM K mg "_law_product" st__law_product
  D__law_rule : DefM K mg "_law_rule" st__law_rule
  D__law_values : DefM K mg "_law_values" st__law_values
  D__law_step : DefM K mg "_law_step" st__law_step
  D__law_walked : DefM K mg "_law_walked" st__law_walked
  D__law_right : DefM K mg "_law_right" st__law_right
  D_law : DefM K mg "law" st_law
theorem cal_share_of {P : Program} {w : World} {K : PySem.W.Frag} {mg : Str → Option Value} {base : Heap} (F : Facts K mg) : Cal P w K mg base 1 "share_of" st_share_of ps_share_of (spF F_share_of 2) := Cal.ofF F.D_share_of sc_share_of rfl (fun f cdv A outer s H hr => der_share_of F.B hr)
theorem cal_stepped {P : Program} {w : World} {K : PySem.W.Frag} {mg : Str → Option Value} {base : Heap} (F : Facts K mg) : Cal P w K mg base 1 "stepped" st_stepped ps_stepped (spF F_stepped 4) := Cal.ofF F.D_stepped sc_stepped rfl (fun f cdv A outer s H hr => der_stepped F.B hr)
theorem cal_done_often {P : Program} {w : World} {K : PySem.W.Frag} {mg : Str → Option Value} {base : Heap} (F : Facts K mg) : Cal P w K mg base 2 "done_often" st_done_often ps_done_often (spF F_done_often 4) := Cal.ofF F.D_done_often sc_done_often rfl (fun f cdv A outer s H hr => der_done_often F.B (cal_stepped F) hr)
theorem cal_is_number {P : Program} {w : World} {K : PySem.W.Frag} {mg : Str → Option Value} {base : Heap} (F : Facts K mg) : Cal P w K mg base 1 "is_number" st_is_number ps_is_number (spF F_is_number 1) := Cal.ofF F.D_is_number sc_is_number rfl (fun f cdv A outer s H hr => der_is_number F.B hr)
theorem cal_is_within {P : Program} {w : World} {K : PySem.W.Frag} {mg : Str → Option Value} {base : Heap} (F : Facts K mg) : Cal P w K mg base 2 "is_within" st_is_within ps_is_within (spF F_is_within 3) := Cal.ofF F.D_is_within sc_is_within rfl (fun f cdv A outer s H hr => der_is_within F.B (cal_is_number F) hr)
theorem cal_is_two {P : Program} {w : World} {K : PySem.W.Frag} {mg : Str → Option Value} {base : Heap} (F : Facts K mg) : Cal P w K mg base 1 "is_two" st_is_two ps_is_two (spF F_is_two 1) := Cal.ofF F.D_is_two sc_is_two rfl (fun f cdv A outer s H hr => der_is_two F.B hr)
theorem cal_ascends {P : Program} {w : World} {K : PySem.W.Frag} {mg : Str → Option Value} {base : Heap} (F : Facts K mg) : Cal P w K mg base 1 "ascends" st_ascends ps_ascends (spF F_ascends 1) := Cal.ofF F.D_ascends sc_ascends rfl (fun f cdv A outer s H hr => der_ascends F.B hr)
theorem cal_is_pairs {P : Program} {w : World} {K : PySem.W.Frag} {mg : Str → Option Value} {base : Heap} (F : Facts K mg) : Cal P w K mg base 3 "is_pairs" st_is_pairs ps_is_pairs (spF F_is_pairs 2) := Cal.ofF F.D_is_pairs sc_is_pairs rfl (fun f cdv A outer s H hr => der_is_pairs F.B (cal_is_two F) (cal_is_number F) (cal_is_within F) (cal_ascends F) hr)
theorem cal_is_modulus {P : Program} {w : World} {K : PySem.W.Frag} {mg : Str → Option Value} {base : Heap} (F : Facts K mg) : Cal P w K mg base 2 "is_modulus" st_is_modulus ps_is_modulus (spF F_is_modulus 1) := Cal.ofF F.D_is_modulus sc_is_modulus rfl (fun f cdv A outer s H hr => der_is_modulus F.B F.H_PRIMES F.HT_PRIMES (cal_is_number F) hr)
theorem cal_has_modulus {P : Program} {w : World} {K : PySem.W.Frag} {mg : Str → Option Value} {base : Heap} (F : Facts K mg) : Cal P w K mg base 3 "has_modulus" st_has_modulus ps_has_modulus (spF F_has_modulus 1) := Cal.ofF F.D_has_modulus sc_has_modulus rfl (fun f cdv A outer s H hr => der_has_modulus F.B (cal_is_two F) (cal_is_modulus F) hr)
theorem cal_is_rule {P : Program} {w : World} {K : PySem.W.Frag} {mg : Str → Option Value} {base : Heap} (F : Facts K mg) : Cal P w K mg base 4 "is_rule" st_is_rule ps_is_rule (spF F_is_rule 1) := Cal.ofF F.D_is_rule sc_is_rule rfl (fun f cdv A outer s H hr => der_is_rule F.B (cal_has_modulus F) (cal_is_pairs F) hr)
theorem cal_is_round {P : Program} {w : World} {K : PySem.W.Frag} {mg : Str → Option Value} {base : Heap} (F : Facts K mg) : Cal P w K mg base 4 "is_round" st_is_round ps_is_round (spF F_is_round 1) := Cal.ofF F.D_is_round sc_is_round rfl (fun f cdv A outer s H hr => der_is_round F.B (cal_has_modulus F) (cal_is_within F) hr)
theorem cal_need_rule {P : Program} {w : World} {K : PySem.W.Frag} {mg : Str → Option Value} {base : Heap} (F : Facts K mg) : Cal P w K mg base 5 "need_rule" st_need_rule ps_need_rule (spF F_need_rule 1) := Cal.ofF F.D_need_rule sc_need_rule rfl (fun f cdv A outer s H hr => der_need_rule F.B (cal_is_rule F) hr)
theorem cal_need_round {P : Program} {w : World} {K : PySem.W.Frag} {mg : Str → Option Value} {base : Heap} (F : Facts K mg) : Cal P w K mg base 5 "need_round" st_need_round ps_need_round (spF F_need_round 1) := Cal.ofF F.D_need_round sc_need_round rfl (fun f cdv A outer s H hr => der_need_round F.B (cal_is_round F) hr)
theorem cal_need_same {P : Program} {w : World} {K : PySem.W.Frag} {mg : Str → Option Value} {base : Heap} (F : Facts K mg) : Cal P w K mg base 1 "need_same" st_need_same ps_need_same (spF F_need_same 2) := Cal.ofF F.D_need_same sc_need_same rfl (fun f cdv A outer s H hr => der_need_same F.B hr)
theorem cal_primes_of {P : Program} {w : World} {K : PySem.W.Frag} {mg : Str → Option Value} {base : Heap} (F : Facts K mg) : Cal P w K mg base 3 "primes_of" st_primes_of ps_primes_of (spF F_primes_of 1) := Cal.ofF F.D_primes_of sc_primes_of rfl (fun f cdv A outer s H hr => der_primes_of F.B F.H_PRIMES F.HT_PRIMES (cal_is_modulus F) hr)
theorem cal_by_prime {P : Program} {w : World} {K : PySem.W.Frag} {mg : Str → Option Value} {base : Heap} (F : Facts K mg) : Cal P w K mg base 6 "by_prime" st_by_prime ps_by_prime (spF F_by_prime 2) := Cal.ofF F.D_by_prime sc_by_prime rfl (fun f cdv A outer s H hr => der_by_prime F.B (cal_need_rule F) (cal_primes_of F) hr)
theorem cal_divisors_of {P : Program} {w : World} {K : PySem.W.Frag} {mg : Str → Option Value} {base : Heap} (F : Facts K mg) : Cal P w K mg base 1 "divisors_of" st_divisors_of ps_divisors_of (spF F_divisors_of 1) := Cal.ofF F.D_divisors_of sc_divisors_of rfl (fun f cdv A outer s H hr => der_divisors_of F.B hr)
theorem cal_need_both {P : Program} {w : World} {K : PySem.W.Frag} {mg : Str → Option Value} {base : Heap} (F : Facts K mg) : Cal P w K mg base 6 "need_both" st_need_both ps_need_both (spF F_need_both 2) := Cal.ofF F.D_need_both sc_need_both rfl (fun f cdv A outer s H hr => der_need_both F.B (cal_need_rule F) (cal_need_round F) (cal_need_same F) hr)
theorem cal_rests_of {P : Program} {w : World} {K : PySem.W.Frag} {mg : Str → Option Value} {base : Heap} (F : Facts K mg) : Cal P w K mg base 1 "rests_of" st_rests_of ps_rests_of (spF F_rests_of 2) := Cal.ofF F.D_rests_of sc_rests_of rfl (fun f cdv A outer s H hr => der_rests_of F.B hr)
theorem cal_turns_on_ring {P : Program} {w : World} {K : PySem.W.Frag} {mg : Str → Option Value} {base : Heap} (F : Facts K mg) : Cal P w K mg base 2 "turns_on_ring" st_turns_on_ring ps_turns_on_ring (spF F_turns_on_ring 2) := Cal.ofF F.D_turns_on_ring sc_turns_on_ring rfl (fun f cdv A outer s H hr => der_turns_on_ring F.B (cal_share_of F) hr)
theorem cal_again_modulo {P : Program} {w : World} {K : PySem.W.Frag} {mg : Str → Option Value} {base : Heap} (F : Facts K mg) : Cal P w K mg base 3 "again_modulo" st_again_modulo ps_again_modulo (spF F_again_modulo 3) := Cal.ofF F.D_again_modulo sc_again_modulo rfl (fun f cdv A outer s H hr => der_again_modulo F.B (cal_turns_on_ring F) (cal_done_often F) (cal_stepped F) (cal_divisors_of F) hr)
theorem cal_comes_again {P : Program} {w : World} {K : PySem.W.Frag} {mg : Str → Option Value} {base : Heap} (F : Facts K mg) : Cal P w K mg base 7 "comes_again" st_comes_again ps_comes_again (spF F_comes_again 2) := Cal.ofF F.D_comes_again sc_comes_again rfl (fun f cdv A outer s H hr => der_comes_again F.B F.HM_lcm (cal_need_both F) (cal_primes_of F) (cal_again_modulo F) (cal_by_prime F) (cal_rests_of F) hr)
theorem cal__law_jar {P : Program} {w : World} {K : PySem.W.Frag} {mg : Str → Option Value} {base : Heap} (F : Facts K mg) : Cal P w K mg base 1 "_law_jar" st__law_jar ps__law_jar (spF F__law_jar 2) := Cal.ofF F.D__law_jar sc__law_jar rfl (fun f cdv A outer s H hr => der__law_jar F.B hr)
theorem cal__law_take {P : Program} {w : World} {K : PySem.W.Frag} {mg : Str → Option Value} {base : Heap} (F : Facts K mg) : Cal P w K mg base 1 "_law_take" st__law_take ps__law_take (spF F__law_take 2) := Cal.ofF F.D__law_take sc__law_take rfl (fun f cdv A outer s H hr => der__law_take F.B hr)
theorem cal__law_modulus {P : Program} {w : World} {K : PySem.W.Frag} {mg : Str → Option Value} {base : Heap} (F : Facts K mg) : Cal P w K mg base 2 "_law_modulus" st__law_modulus ps__law_modulus (spF F__law_modulus 1) := Cal.ofF F.D__law_modulus sc__law_modulus rfl (fun f cdv A outer s H hr => der__law_modulus F.B (cal__law_take F) hr)
theorem cal__law_product {P : Program} {w : World} {K : PySem.W.Frag} {mg : Str → Option Value} {base : Heap} (F : Facts K mg) : Cal P w K mg base 2 "_law_product" st__law_product ps__law_product (spF F__law_product 3) := Cal.ofF F.D__law_product sc__law_product rfl (fun f cdv A outer s H hr => der__law_product F.B (cal__law_take F) hr)
theorem cal__law_rule {P : Program} {w : World} {K : PySem.W.Frag} {mg : Str → Option Value} {base : Heap} (F : Facts K mg) : Cal P w K mg base 3 "_law_rule" st__law_rule ps__law_rule (spF F__law_rule 2) := Cal.ofF F.D__law_rule sc__law_rule rfl (fun f cdv A outer s H hr => der__law_rule F.B (cal__law_take F) (cal__law_product F) hr)
theorem cal__law_values {P : Program} {w : World} {K : PySem.W.Frag} {mg : Str → Option Value} {base : Heap} (F : Facts K mg) : Cal P w K mg base 2 "_law_values" st__law_values ps__law_values (spF F__law_values 3) := Cal.ofF F.D__law_values sc__law_values rfl (fun f cdv A outer s H hr => der__law_values F.B (cal__law_take F) hr)
theorem cal__law_step {P : Program} {w : World} {K : PySem.W.Frag} {mg : Str → Option Value} {base : Heap} (F : Facts K mg) : Cal P w K mg base 1 "_law_step" st__law_step ps__law_step (spF F__law_step 2) := Cal.ofF F.D__law_step sc__law_step rfl (fun f cdv A outer s H hr => der__law_step F.B hr)
theorem cal__law_walked {P : Program} {w : World} {K : PySem.W.Frag} {mg : Str → Option Value} {base : Heap} (F : Facts K mg) : Cal P w K mg base 2 "_law_walked" st__law_walked ps__law_walked (spF F__law_walked 3) := Cal.ofF F.D__law_walked sc__law_walked rfl (fun f cdv A outer s H hr => der__law_walked F.B (cal__law_step F) hr)
theorem cal__law_right {P : Program} {w : World} {K : PySem.W.Frag} {mg : Str → Option Value} {base : Heap} (F : Facts K mg) : Cal P w K mg base 8 "_law_right" st__law_right ps__law_right (spF F__law_right 3) := Cal.ofF F.D__law_right sc__law_right rfl (fun f cdv A outer s H hr => der__law_right F.B (cal__law_walked F) (cal_comes_again F) hr)
theorem cal_law {P : Program} {w : World} {K : PySem.W.Frag} {mg : Str → Option Value} {base : Heap} (F : Facts K mg) : Cal P w K mg base 9 "law" st_law ps_law (spF F_law 1) := Cal.ofF F.D_law sc_law rfl (fun f cdv A outer s H hr => der_law F.B (cal__law_jar F) (cal__law_modulus F) (cal__law_take F) (cal__law_rule F) (cal__law_values F) (cal__law_step F) (cal__law_right F) hr)
theorem ends {P : Program} {w : World} {K : PySem.W.Frag} {mg : Str → Option Value} {fa : Addr} (hmg : mg "law" = some (.ref fa)) (F : Facts K mg) :
    ∃ fd : FuncData, (∀ (s : Shared) (u : Value), BindsTo s fd ⟨[u], []⟩ [("_law_script", u)]) ∧ ∀ base : Heap, K.In base → base.Ns mainGlobals mg → FnD P w K mg base 9 fa fd ["_law_script"] (spF F_law 1) := by
  obtain ⟨f, fd, m, Fn⟩ := F.D_law.ex
  have e := hmg.symm.trans m
  cases e
  refine ⟨fd, ?_, fun base _ _ => ?_⟩
  · obtain ⟨oc, od, kV, doc, pm, an, cdv, ct, osl, rfl, lk, hcd⟩ := Fn.ex
    exact fun s v => .of_eq rfl
  · obtain ⟨f', fd', F', m', Fn'⟩ := (cal_law (P := P) (w := w) (base := base) F).ex
    rw [m] at m'
    cases m'
    obtain ⟨oc, od, kV, doc, pm, an, cdv, ct, osl, rfl, lk, hcd⟩ := Fn.ex
    obtain ⟨oc', od', kV', doc', pm', an', cdv', ct', osl', rfl, lk', hcd'⟩ := Fn'.ex
    rw [lk] at lk'
    cases lk'
    exact F'
end K31

open PySem PySem.W PyProof.Rows
set_option maxRecDepth 100000 in
set_option maxHeartbeats 0 in
theorem PySem.Challenge.cw_nearadds_k31_rounds_that_come_again_holds : PySem.Challenge.rw_nearadds_k31_rounds_that_come_again.Holds := by
  w_on; o_law; k_head; (case hw => w_witness2)
  k_fill
  refine DL.dwalk (n := 63) (k := 9) (x := "_law_script") (sp := FL.spF K31.F_law 1) rfl (by decide) rfl ⟨rfl, by decide, by decide⟩ (fun w h Y => PySem.W.kIn_of Y) ?F (FL.law_sp K31.main)
  intro w mg fa h KX G hmg
  refine K31.ends hmg (K31.Facts.mk ?B ?H_PRIMES ?HT_PRIMES ?HM_lcm ?D_share_of ?D_stepped ?D_done_often ?D_is_number ?D_is_within ?D_is_two ?D_ascends ?D_is_pairs ?D_is_modulus ?D_has_modulus ?D_is_rule ?D_is_round ?D_need_rule ?D_need_round ?D_need_same ?D_primes_of ?D_by_prime ?D_divisors_of ?D_need_both ?D_rests_of ?D_turns_on_ring ?D_again_modulo ?D_comes_again ?D__law_jar ?D__law_take ?D__law_modulus ?D__law_product ?D__law_rule ?D__law_values ?D__law_step ?D__law_walked ?D__law_right ?D_law)
  case B =>
    refine' DL.bl_mk KX G ?b_isinstance ?b_int ?b_bool ?b_str ?b_tuple ?b_list ?b_dict ?b_len ?b_all ?b_any ?b_sum ?b_abs ?b_max ?b_min ?b_repr ?b_range ?b_enumerate ?b_zip ?b_reversed ?b_sorted ?b_set
    (case b_isinstance => k_is)
    (case b_int => k_is)
    (case b_bool => k_is)
    (case b_str => k_is)
    (case b_tuple => k_is)
    (case b_list => k_is)
    (case b_dict => k_is)
    (case b_len => k_is)
    (case b_all => k_is)
    (case b_any => k_is)
    (case b_sum => k_is)
    (case b_abs => k_is)
    (case b_max => k_is)
    (case b_min => k_is)
    (case b_repr => k_is)
    (case b_range => k_is)
    (case b_enumerate => k_is)
    (case b_zip => k_is)
    (case b_reversed => k_is)
    (case b_sorted => k_is)
    (case b_set => k_is)
  case H_PRIMES =>
    refine' DL.kname_mk KX G ?a ?l ?e ?n ?o
    (case a => k_is); (case l => k_is); (case e => rfl); (case n => decide); (case o => rfl)
  case HT_PRIMES =>
    refine' FL.primes_mk KX G ?a ?l ?e ?l2 ?l3 ?l5 ?l6 ?l7 ?l10 ?l11 ?l13 ?l14 ?l15
    (case a => k_is); (case l => k_is); (case e => exact ⟨rfl, rfl, rfl, rfl, rfl, rfl, rfl, rfl, rfl, rfl, rfl⟩); (case l2 => k_is); (case l3 => k_is); (case l5 => k_is); (case l6 => k_is); (case l7 => k_is); (case l10 => k_is); (case l11 => k_is); (case l13 => k_is); (case l14 => k_is); (case l15 => k_is)
  case HM_lcm =>
    refine' FL.kfun_mk KX G ?a
    (case a => k_is)
  case D_share_of =>
    refine' DL.def_mk KX G ?a ?l ?c ?k
    (case a => k_is); (case l => k_is); (case c => k_is); (case k => k_is)
  case D_stepped =>
    refine' DL.def_mk KX G ?a ?l ?c ?k
    (case a => k_is); (case l => k_is); (case c => k_is); (case k => k_is)
  case D_done_often =>
    refine' DL.def_mk KX G ?a ?l ?c ?k
    (case a => k_is); (case l => k_is); (case c => k_is); (case k => k_is)
  case D_is_number =>
    refine' DL.def_mk KX G ?a ?l ?c ?k
    (case a => k_is); (case l => k_is); (case c => k_is); (case k => k_is)
  case D_is_within =>
    refine' DL.def_mk KX G ?a ?l ?c ?k
    (case a => k_is); (case l => k_is); (case c => k_is); (case k => k_is)
  case D_is_two =>
    refine' DL.def_mk KX G ?a ?l ?c ?k
    (case a => k_is); (case l => k_is); (case c => k_is); (case k => k_is)
  case D_ascends =>
    refine' DL.def_mk KX G ?a ?l ?c ?k
    (case a => k_is); (case l => k_is); (case c => k_is); (case k => k_is)
  case D_is_pairs =>
    refine' DL.def_mk KX G ?a ?l ?c ?k
    (case a => k_is); (case l => k_is); (case c => k_is); (case k => k_is)
  case D_is_modulus =>
    refine' DL.def_mk KX G ?a ?l ?c ?k
    (case a => k_is); (case l => k_is); (case c => k_is); (case k => k_is)
  case D_has_modulus =>
    refine' DL.def_mk KX G ?a ?l ?c ?k
    (case a => k_is); (case l => k_is); (case c => k_is); (case k => k_is)
  case D_is_rule =>
    refine' DL.def_mk KX G ?a ?l ?c ?k
    (case a => k_is); (case l => k_is); (case c => k_is); (case k => k_is)
  case D_is_round =>
    refine' DL.def_mk KX G ?a ?l ?c ?k
    (case a => k_is); (case l => k_is); (case c => k_is); (case k => k_is)
  case D_need_rule =>
    refine' DL.def_mk KX G ?a ?l ?c ?k
    (case a => k_is); (case l => k_is); (case c => k_is); (case k => k_is)
  case D_need_round =>
    refine' DL.def_mk KX G ?a ?l ?c ?k
    (case a => k_is); (case l => k_is); (case c => k_is); (case k => k_is)
  case D_need_same =>
    refine' DL.def_mk KX G ?a ?l ?c ?k
    (case a => k_is); (case l => k_is); (case c => k_is); (case k => k_is)
  case D_primes_of =>
    refine' DL.def_mk KX G ?a ?l ?c ?k
    (case a => k_is); (case l => k_is); (case c => k_is); (case k => k_is)
  case D_by_prime =>
    refine' DL.def_mk KX G ?a ?l ?c ?k
    (case a => k_is); (case l => k_is); (case c => k_is); (case k => k_is)
  case D_divisors_of =>
    refine' DL.def_mk KX G ?a ?l ?c ?k
    (case a => k_is); (case l => k_is); (case c => k_is); (case k => k_is)
  case D_need_both =>
    refine' DL.def_mk KX G ?a ?l ?c ?k
    (case a => k_is); (case l => k_is); (case c => k_is); (case k => k_is)
  case D_rests_of =>
    refine' DL.def_mk KX G ?a ?l ?c ?k
    (case a => k_is); (case l => k_is); (case c => k_is); (case k => k_is)
  case D_turns_on_ring =>
    refine' DL.def_mk KX G ?a ?l ?c ?k
    (case a => k_is); (case l => k_is); (case c => k_is); (case k => k_is)
  case D_again_modulo =>
    refine' DL.def_mk KX G ?a ?l ?c ?k
    (case a => k_is); (case l => k_is); (case c => k_is); (case k => k_is)
  case D_comes_again =>
    refine' DL.def_mk KX G ?a ?l ?c ?k
    (case a => k_is); (case l => k_is); (case c => k_is); (case k => k_is)
  case D__law_jar =>
    refine' DL.def_mk KX G ?a ?l ?c ?k
    (case a => k_is); (case l => k_is); (case c => k_is); (case k => k_is)
  case D__law_take =>
    refine' DL.def_mk KX G ?a ?l ?c ?k
    (case a => k_is); (case l => k_is); (case c => k_is); (case k => k_is)
  case D__law_modulus =>
    refine' DL.def_mk KX G ?a ?l ?c ?k
    (case a => k_is); (case l => k_is); (case c => k_is); (case k => k_is)
  case D__law_product =>
    refine' DL.def_mk KX G ?a ?l ?c ?k
    (case a => k_is); (case l => k_is); (case c => k_is); (case k => k_is)
  case D__law_rule =>
    refine' DL.def_mk KX G ?a ?l ?c ?k
    (case a => k_is); (case l => k_is); (case c => k_is); (case k => k_is)
  case D__law_values =>
    refine' DL.def_mk KX G ?a ?l ?c ?k
    (case a => k_is); (case l => k_is); (case c => k_is); (case k => k_is)
  case D__law_step =>
    refine' DL.def_mk KX G ?a ?l ?c ?k
    (case a => k_is); (case l => k_is); (case c => k_is); (case k => k_is)
  case D__law_walked =>
    refine' DL.def_mk KX G ?a ?l ?c ?k
    (case a => k_is); (case l => k_is); (case c => k_is); (case k => k_is)
  case D__law_right =>
    refine' DL.def_mk KX G ?a ?l ?c ?k
    (case a => k_is); (case l => k_is); (case c => k_is); (case k => k_is)
  case D_law =>
    refine' DL.def_mk KX G ?a ?l ?c ?k
    (case a => k_is); (case l => k_is); (case c => k_is); (case k => k_is)
