import PyProof.Rows.All
import Wide.All
import OpenK.AllK
import Wide.FinOn
import HandS.ForMost
import HandS.Deep
import HandS.TupAny
import HandS.TupMul
import KE.KDictKeyed
import HandS.Lambda
import HandS.Style
import HandS.TupLe
import HandS.Steps
import HandS.IsInst
import HandS.Flow
import HandS.ForExc
import HandS.ExcCtx
import HandS.Zip
import KE.GoesEnum
import HandS.Comp
import HandS.DictComp
import PyProof.DictTruth
import HandS.Records
import HandS.Iter
import KE.KDictWalk
import HandS.Text
import HandS.StrMore
import HandS.TryOnly
import HandS.Star
import PyProof.ConsumeWalk
import HandS.ExcOwn
import HandS.More
import HandS.Strs
import HandS.WordsExc
import HandS.Wide
import HandS.HeadHook4
import HandS.HeadWalk
import HandS.Head2
import HandS.ExcIs
import HandS.HotCalls
import PySem.Challenge.RW_namesapart_k14_lots_refused
set_option Elab.async false
set_option linter.all false
set_option maxRecDepth 100000
set_option maxHeartbeats 4000000
/-! G: an evaluator of a part of Python over values without addresses for tuples, and that the machine does what it says. -/
namespace G
open PySem L2 PySem.Spec PyProof.Rows

/-- a value: tuples are data, lists and dicts lie in the heap, by their number -/
inductive W where
  | non | bl (b : Bool) | int (i : Int) | str (s : Str) | tup (ws : List W) | ref (i : Nat) | fn (x : Str) | ty (n : String)
  deriving Inhabited
/-- what lies in the heap: a list of one's own, one that is only read, a dict by texts and ints, one by tuples -/
inductive O where
  | lst (ws : List W) | slst (ws : List W) | dK (kvs : List (Key × W)) | dN (kvs : List (W × W)) | sdN (kvs : List (W × W)) | sdK (kvs : List (Key × W)) | exc (b : Bool) | cup (j : Nat)
  deriving Inhabited
abbrev Hh : Type := List O

/-- the module, as the proof sees it -/
structure Md where
  P : Program
  w : World
  K : PySem.W.Frag
  mg : Str → Option Value
  T : List (Addr × Str)
  xa : Option Addr
  cs : Nat → Int × Int
mutual
/-- a value as a key -/
def nk : W → NestedKey
  | .non => .none
  | .bl b => .num (if b = true then 1 else 0)
  | .int i => .num i
  | .str s => .text s
  | .tup ws => .tup (nks ws)
  | _ => .none
def nks : List W → List NestedKey
  | [] => []
  | w :: ws => nk w :: nks ws
end
mutual
def kOk : W → Bool
  | .non => true
  | .bl _ => true
  | .int _ => true
  | .str _ => true
  | .tup ws => kOks ws
  | _ => false
def kOks : List W → Bool
  | [] => true
  | w :: ws => kOk w && kOks ws
end
/-- the dict at a has these entries -/
def DkAt (P : Program) (w : World) (a : Addr) (xs : List (NestedKey × Addr × Value)) : HO := .ext fun h => ∃ (o : Obj) (es : Array DictEntry) (ep : Nat), h.get? a = some o ∧ o.ExactDict ∧ o.data = .dict es ep ∧ es.toList = xs.map (entryOfKey (nestedKind P w))
def ents (kvs : List (W × W)) (xs : List (Addr × V × Value)) : List (NestedKey × Addr × Value) := List.zipWith (fun p q => (nk p.1, q.1, q.2.2)) kvs xs

section
variable (M : Md)
mutual
def RelW (H : Hp) (ι : List Addr) : W → V → Prop
  | .non, v => v = .non
  | .bl b, v => v = .bl b
  | .int i, v => v = .int i
  | .str s, v => v = .str s
  | .tup ws, v => ∃ a vs, v = .ref a ∧ SqT M.K H a vs ∧ RelWs H ι ws vs
  | .ref i, v => ∃ a, ι[i]? = some a ∧ v = .ref a
  | .fn x, v => ∃ f, M.mg x = some (.ref f) ∧ v = .ref f
  | .ty n, v => v = .ty n
def RelWs (H : Hp) (ι : List Addr) : List W → List V → Prop
  | [], vs => vs = []
  | w :: ws, vs => ∃ v r, vs = v :: r ∧ RelW H ι w v ∧ RelWs H ι ws r
end
/-- a list that nobody changes -/
def StL (K : PySem.W.Frag) (H : Hp) (a : Addr) (xs : List V) : Prop := (∃ o, H a = some (.frz o (.lst xs))) ∨
  ∃ (o : Obj) (its : Array Value) (n : Nat), K.lookup a = some o ∧ o.cls = .type "list" ∧ o.dict = none ∧ o.data = .seq its n ∧ its.size ≤ sizeLine ∧ Vals xs its.toList
/-- what may be changed -/
def Mt : O → Bool
  | .slst _ => false
  | .sdN _ => false
  | .sdK _ => false
  | .exc _ => false
  | _ => true
/-- what is held once -/
def Ow : O → Bool
  | .slst _ => false
  | .exc _ => false
  | _ => true
theorem Mt.ow {o : O} (h : Mt o = true) : Ow o = true := by cases o <;> first | rfl | cases h
def RelO (H : Hp) (ι : List Addr) (a : Addr) : O → Prop
  | .lst ws => ∃ vs, H a = some (.lst vs) ∧ RelWs M H ι ws vs
  | .slst ws => ∃ vs, StL M.K H a vs ∧ RelWs M H ι ws vs
  | .dK kvs => ∃ vs : List V, H a = some (.dK ((kvs.map (·.1)).zip vs)) ∧ RelWs M H ι (kvs.map (·.2)) vs
  | .dN kvs => ∃ xs : List (Addr × V × Value), H a = some (DkAt M.P M.w a (ents kvs xs)) ∧ kvs.length ≤ sizeLine ∧ (a == sysModules) = false ∧ (kvs.map fun p => nk p.1).Nodup ∧
      Paired (fun p q => (RelW M H ι p.1 (.ref q.1) ∧ kOk p.1 = true ∧ (nk p.1).depth ≤ 8) ∧ RelW M H ι p.2 q.2.1 ∧ RelV q.2.1 q.2.2) kvs xs
  | .sdN kvs => ∃ (xs : List (Addr × V × Value)) (od : Obj), H a = some (.frz od (DkAt M.P M.w a (ents kvs xs))) ∧ kvs.length ≤ sizeLine ∧ (a == sysModules) = false ∧ (kvs.map fun p => nk p.1).Nodup ∧
      Paired (fun p q => (RelW M H ι p.1 (.ref q.1) ∧ kOk p.1 = true ∧ (nk p.1).depth ≤ 8) ∧ RelW M H ι p.2 q.2.1 ∧ RelV q.2.1 q.2.2) kvs xs
  | .sdK kvs => ∃ (vs : List V) (od : Obj), H a = some (.frz od (.dK ((kvs.map (·.1)).zip vs))) ∧ RelWs M H ι (kvs.map (·.2)) vs
  | .exc b => b = true → M.xa = some a
  | .cup j => H a = some (.lst [V.int (M.cs j).1, V.int (M.cs j).2])
structure Rel (ι : List Addr) (E : Hh) (H : Hp) : Prop where
  len : ι.length = E.length
  inj : ∀ (i j : Nat) (a : Addr) (o u : O), ι[i]? = some a → ι[j]? = some a → (E : List O)[i]? = some o → (E : List O)[j]? = some u → Ow o = true → Ow u = true → i = j
  obj : ∀ (i : Nat) (o : O), (E : List O)[i]? = some o → ∃ a, ι[i]? = some a ∧ RelO M H ι a o
  tabs : LamX.Tabs M.T H
def RelS (H : Hp) (ι : List Addr) (σE : List (Option W)) (σ : L2.St) : Prop :=
  σE.length = List.length σ ∧ ∀ (i : Nat) (w : W), σE[i]? = some (some w) → ∃ v, (σ : List (Option V))[i]? = some (some v) ∧ RelW M H ι w v
/-- what stays: addresses of what was made, tuples, and what is only read -/
structure Ext (ι : List Addr) (H : Hp) (ι' : List Addr) (H' : Hp) : Prop where
  pre : ι <+: ι'
  tup : ∀ a xs, SqT M.K H a xs → SqT M.K H' a xs
  frz : ∀ a o u, H a = some (.frz o u) → H' a = some (.frz o u)
end

variable {M : Md} {H H' H1 H2 : Hp} {ι ι' ι1 ι2 : List Addr}
theorem Ext.refl (H : Hp) (ι : List Addr) : Ext M ι H ι H := ⟨List.prefix_refl _, fun _ _ h => h, fun _ _ _ h => h⟩
theorem Ext.trans (a : Ext M ι H ι1 H1) (b : Ext M ι1 H1 ι2 H2) : Ext M ι H ι2 H2 := ⟨a.pre.trans b.pre, fun x y h => b.tup x y (a.tup x y h), fun x o u h => b.frz x o u (a.frz x o u h)⟩
theorem pre_get {ι ι' : List Addr} (p : ι <+: ι') {i : Nat} {a : Addr} (h : ι[i]? = some a) : ι'[i]? = some a := by
  obtain ⟨t, rfl⟩ := p
  obtain ⟨hi, _⟩ := List.getElem?_eq_some_iff.mp h
  rw [List.getElem?_append_left hi]
  exact h
mutual
theorem RelW.ext (x : Ext M ι H ι' H') : ∀ {w : W} {v : V}, RelW M H ι w v → RelW M H' ι' w v
  | .non, _, h => h
  | .bl _, _, h => h
  | .int _, _, h => h
  | .str _, _, h => h
  | .tup ws, v, h => by
    obtain ⟨a, vs, e, ht, hw⟩ := h
    exact ⟨a, vs, e, x.tup _ _ ht, RelWs.ext x hw⟩
  | .ref i, v, h => by
    obtain ⟨a, e, hv⟩ := h
    exact ⟨a, pre_get x.pre e, hv⟩
  | .fn _, _, h => h
  | .ty _, _, h => h
theorem RelWs.ext (x : Ext M ι H ι' H') : ∀ {ws : List W} {vs : List V}, RelWs M H ι ws vs → RelWs M H' ι' ws vs
  | [], _, h => h
  | w :: ws, vs, h => by
    obtain ⟨v, r, e, h1, h2⟩ := h
    exact ⟨v, r, e, RelW.ext x h1, RelWs.ext x h2⟩
end
theorem RelS.ext {σE : List (Option W)} {σ : L2.St} (x : Ext M ι H ι' H') (h : RelS M H ι σE σ) : RelS M H' ι' σE σ :=
  ⟨h.1, fun i w e => let ⟨v, e1, r⟩ := h.2 i w e; ⟨v, e1, r.ext x⟩⟩
theorem RelWs.length : ∀ {ws : List W} {vs : List V}, RelWs M H ι ws vs → ws.length = vs.length
  | [], vs, h => by rw [show vs = [] from h]; rfl
  | w :: ws, vs, h => by
    obtain ⟨v, r, rfl, h1, h2⟩ := h
    simp [RelWs.length h2]
theorem RelWs.get : ∀ {ws : List W} {vs : List V} {i : Nat} {w : W}, RelWs M H ι ws vs → ws[i]? = some w → ∃ v, vs[i]? = some v ∧ RelW M H ι w v
  | [], _, _, _, _, e => by simp at e
  | w :: ws, vs, 0, x, h, e => by
    obtain ⟨v, r, rfl, h1, h2⟩ := h
    simp at e; subst e
    exact ⟨v, rfl, h1⟩
  | w :: ws, vs, i + 1, x, h, e => by
    obtain ⟨v, r, rfl, h1, h2⟩ := h
    obtain ⟨u, e1, e2⟩ := RelWs.get (i := i) h2 (by simpa using e)
    exact ⟨u, by simpa using e1, e2⟩
theorem RelWs.append : ∀ {ws xs : List W} {vs us : List V}, RelWs M H ι ws vs → RelWs M H ι xs us → RelWs M H ι (ws ++ xs) (vs ++ us)
  | [], _, _, _, h, q => by rw [show _ = [] from h]; exact q
  | w :: ws, _, _, _, h, q => by
    obtain ⟨v, r, rfl, h1, h2⟩ := h
    exact ⟨v, r ++ _, rfl, h1, RelWs.append h2 q⟩
theorem RelWs.take : ∀ {ws : List W} {vs : List V} (n : Nat), RelWs M H ι ws vs → RelWs M H ι (ws.take n) (vs.take n)
  | [], _, n, h => by rw [show _ = [] from h]; simp [RelWs]
  | w :: ws, _, 0, h => by simp [RelWs]
  | w :: ws, _, n + 1, h => by
    obtain ⟨v, r, rfl, h1, h2⟩ := h
    exact ⟨v, r.take n, rfl, h1, RelWs.take n h2⟩
theorem RelWs.drop : ∀ {ws : List W} {vs : List V} (n : Nat), RelWs M H ι ws vs → RelWs M H ι (ws.drop n) (vs.drop n)
  | [], _, n, h => by rw [show _ = [] from h]; simp [RelWs]
  | w :: ws, _, 0, h => h
  | w :: ws, _, n + 1, h => by
    obtain ⟨v, r, rfl, h1, h2⟩ := h
    exact RelWs.drop n h2
theorem RelWs.set : ∀ {ws : List W} {vs : List V} {w : W} {v : V} (i : Nat), RelW M H ι w v → RelWs M H ι ws vs → RelWs M H ι (ws.set i w) (vs.set i v)
  | [], _, _, _, _, _, h => by rw [show _ = [] from h]; simp [RelWs]
  | x :: ws, _, w, v, 0, q, h => by
    obtain ⟨u, r, rfl, h1, h2⟩ := h
    exact ⟨v, r, rfl, q, h2⟩
  | x :: ws, _, w, v, i + 1, q, h => by
    obtain ⟨u, r, rfl, h1, h2⟩ := h
    exact ⟨u, r.set i v, rfl, h1, RelWs.set i q h2⟩
theorem RelWs.replicate {ws : List W} {vs : List V} (h : RelWs M H ι ws vs) : ∀ n : Nat, RelWs M H ι (List.replicate n ws).flatten (List.replicate n vs).flatten
  | 0 => by simp [RelWs]
  | n + 1 => by
    rw [List.replicate_succ, List.replicate_succ, List.flatten_cons, List.flatten_cons]
    exact RelWs.append h (RelWs.replicate h n)

/-! ### what comes of an act -/
/-- behind it: some value and heap, and whatever addresses there are -/
def Post (M : Md) (ι : List Addr) (H : Hp) (c : Option (W × Hh)) (Q : VK) : Prop :=
  ∃ w E', c = some (w, E') ∧ ∀ ι' H' v, Ext M ι H ι' H' → Rel M ι' E' H' → RelW M H' ι' w v → Q v H'
theorem SqT.new {K : PySem.W.Frag} {p : Addr} {ho : HO} {a : Addr} {xs : List V} (hp : H p = none) (h : SqT K H a xs) : SqT K (upd H p ho) a xs := by
  rcases h with (h | ⟨o, h⟩) | h
  · exact .inl (.inl (by rw [upd_ne (ne_of_none h hp)]; exact h))
  · exact .inl (.inr ⟨o, by rw [upd_ne (ne_of_none h hp)]; exact h⟩)
  · exact .inr h
theorem StL.new {K : PySem.W.Frag} {p : Addr} {ho : HO} {a : Addr} {xs : List V} (hp : H p = none) (h : StL K H a xs) : StL K (upd H p ho) a xs := by
  rcases h with ⟨o, h⟩ | h
  · exact .inl ⟨o, by rw [upd_ne (ne_of_none h hp)]; exact h⟩
  · exact .inr h
theorem StL.sq {K : PySem.W.Frag} {a : Addr} {xs : List V} (h : StL K H a xs) : SqL K H a xs := by
  rcases h with ⟨o, h⟩ | h
  · exact .inl (.inr ⟨o, h⟩)
  · exact .inr h
theorem RelO.some_of {a : Addr} {o : O} (h : RelO M H ι a o) (m : Ow o = true) : ∃ u, H a = some u := by
  cases o with
  | lst ws => obtain ⟨vs, h1, _⟩ := h; exact ⟨_, h1⟩
  | slst ws => cases m
  | dK kvs => obtain ⟨vs, h1, _⟩ := h; exact ⟨_, h1⟩
  | dN kvs => obtain ⟨vs, h1, _⟩ := h; exact ⟨_, h1⟩
  | sdN kvs => obtain ⟨vs, od, h1, _⟩ := h; exact ⟨_, h1⟩
  | sdK kvs => obtain ⟨vs, od, h1, _⟩ := h; exact ⟨_, h1⟩
  | exc b => cases m
  | cup j => exact ⟨_, h⟩
/-- an object stays where another address is written -/
theorem RelO.other {p a : Addr} {ho : HO} {o : O} (x : Ext M ι H ι' (upd H p ho)) (hs : ∀ a xs, StL M.K H a xs → StL M.K (upd H p ho) a xs) (hz : ∀ b o u, H b = some (.frz o u) → upd H p ho b = some (.frz o u)) (na : Ow o = true → a ≠ p) (h : RelO M H ι a o) : RelO M (upd H p ho) ι' a o := by
  cases o with
  | lst ws => obtain ⟨vs, h1, h2⟩ := h; exact ⟨vs, by rw [upd_ne (na rfl)]; exact h1, h2.ext x⟩
  | slst ws => obtain ⟨vs, h1, h2⟩ := h; exact ⟨vs, hs _ _ h1, h2.ext x⟩
  | dK kvs => obtain ⟨vs, h1, h2⟩ := h; exact ⟨vs, by rw [upd_ne (na rfl)]; exact h1, h2.ext x⟩
  | dN kvs => obtain ⟨vs, h1, h2, h3, h4, h5⟩ := h; exact ⟨vs, by rw [upd_ne (na rfl)]; exact h1, h2, h3, h4, Paired.mapP h5 fun p q ⟨⟨a1, a2⟩, a3, a4⟩ => ⟨⟨a1.ext x, a2⟩, a3.ext x, a4⟩⟩
  | sdK kvs => obtain ⟨vs, od, h1, h2⟩ := h; exact ⟨vs, od, hz _ _ _ h1, h2.ext x⟩
  | exc b => exact h
  | cup j => exact (upd_ne (na rfl)).trans h
  | sdN kvs => obtain ⟨vs, od, h1, h2, h3, h4, h5⟩ := h; exact ⟨vs, od, hz _ _ _ h1, h2, h3, h4, Paired.mapP h5 fun p q ⟨⟨a1, a2⟩, a3, a4⟩ => ⟨⟨a1.ext x, a2⟩, a3.ext x, a4⟩⟩
/-- neither a table nor a code object -/
def NoCode (a : Addr) (q : HO) : Prop := (∀ ps, q ≠ .tbl ps) ∧ ∀ nm, q ≠ LamX.CodeO a nm
theorem Tabs.putN {T : List (Addr × Str)} {a : Addr} {q ho : HO} (t : LamX.Tabs T H) (hq : H a = some q) (nc : NoCode a q) : LamX.Tabs T (upd H a ho) := fun p hp => by
  obtain ⟨ps, h1, h2, h3⟩ := t p hp
  refine ⟨ps, by rw [upd_ne (fun z => by rw [z, hq] at h1; exact nc.1 ps (Option.some.inj h1))]; exact h1, h2, fun pos cv hc => ?_⟩
  obtain ⟨c, e1, e2⟩ := h3 pos cv hc
  exact ⟨c, e1, by rw [upd_ne (fun z => by subst z; rw [hq] at e2; exact nc.2 p.2 (Option.some.inj e2))]; exact e2⟩
theorem DkAt.noCode {P : Program} {w : World} {a : Addr} {xs : List (NestedKey × Addr × Value)} : NoCode a (DkAt P w a xs) := by
  refine ⟨fun ps z => (by unfold DkAt at z; cases z), fun nm z => ?_⟩
  unfold DkAt LamX.CodeO at z
  injection z with z
  let o : Obj := ⟨.none, none, .fields #[.none, .str nm 0], #[]⟩
  let h : Heap := ⟨Array.replicate (a + 1) o, {}⟩
  have e : h.get? a = some o := by
    unfold Heap.get?
    rw [show h.objs[a]? = some o from by show (Array.replicate (a + 1) o)[a]? = _; rw [Array.getElem?_replicate, if_pos (Nat.lt_succ_self a)]]
  have k := congrFun z h
  have k2 : ∃ (oc : Obj) (vs : Array Value) (t : Tok), h.get? a = some oc ∧ oc.data = .fields vs ∧ vs[1]? = some (.str nm t) := ⟨o, _, 0, e, rfl, rfl⟩
  rw [← k] at k2
  obtain ⟨o', es, ep, e1, e2, e3, _⟩ := k2
  rw [e] at e1
  cases e1
  cases e3
theorem RelO.noCode {a : Addr} {o : O} {q : HO} (h : RelO M H ι a o) (m : Mt o = true) (hq : H a = some q) : NoCode a q := by
  cases o with
  | lst ws => obtain ⟨vs, h1, _⟩ := h; rw [hq] at h1; cases h1; exact ⟨fun _ z => (nomatch z), fun _ z => (by unfold LamX.CodeO at z; cases z)⟩
  | slst ws => cases m
  | dK kvs => obtain ⟨vs, h1, _⟩ := h; rw [hq] at h1; cases h1; exact ⟨fun _ z => (nomatch z), fun _ z => (by unfold LamX.CodeO at z; cases z)⟩
  | dN kvs => obtain ⟨vs, h1, _⟩ := h; rw [hq] at h1; cases h1; exact DkAt.noCode
  | sdN kvs => cases m
  | sdK kvs => cases m
  | exc b => cases m
  | cup j => rw [show H a = _ from h] at hq; cases hq; exact ⟨fun _ z => (nomatch z), fun _ z => (by unfold LamX.CodeO at z; cases z)⟩
/-- a new object that the proof tells -/
theorem Rel.new {E : Hh} {p : Addr} {ho : HO} {o : O} (R : Rel M ι E H) (hp : H p = none) (new : Ext M ι H (ι ++ [p]) (upd H p ho) → RelO M (upd H p ho) (ι ++ [p]) p o) :
    Rel M (ι ++ [p]) (E ++ [o]) (upd H p ho) ∧ Ext M ι H (ι ++ [p]) (upd H p ho) := by
  have x : Ext M ι H (ι ++ [p]) (upd H p ho) := ⟨⟨[p], rfl⟩, fun _ _ h => SqT.new hp h, fun b o u h => by rw [upd_ne (ne_of_none h hp)]; exact h⟩
  have old : ∀ (i : Nat) (u : O), (E ++ [o])[i]? = some u → i < E.length ∧ E[i]? = some u ∨ i = E.length ∧ u = o := fun i u e => by
    by_cases hi : i < E.length
    · rw [List.getElem?_append_left hi] at e
      exact .inl ⟨hi, e⟩
    · have h := (List.getElem?_eq_some_iff.mp e).1
      simp at h
      have hi' : i = E.length := by omega
      subst hi'
      simp at e
      exact .inr ⟨rfl, e.symm⟩
  have frs : ∀ (i : Nat) (u : O), E[i]? = some u → Ow u = true → ι[i]? ≠ some p := fun i u e m z => by
    obtain ⟨a, ea, ro⟩ := R.obj i u e
    rw [z] at ea
    cases ea
    obtain ⟨q, hq⟩ := ro.some_of m
    rw [hp] at hq
    cases hq
  have lft : ∀ {i : Nat}, i < E.length → (ι ++ [p])[i]? = ι[i]? := fun {i} hi => List.getElem?_append_left (by rw [R.len]; exact hi)
  have rgt : (ι ++ [p])[E.length]? = some p := by rw [← R.len]; simp
  refine ⟨⟨by simp [R.len], fun i j a u1 u2 h1 h2 e1 e2 m1 m2 => ?_, fun i u e => ?_, R.tabs.ext fun b o h => by rw [upd_ne (ne_of_none h hp)]; exact h⟩, x⟩
  · rcases old i u1 e1 with ⟨l1, g1⟩ | ⟨l1, g1⟩ <;> rcases old j u2 e2 with ⟨l2, g2⟩ | ⟨l2, g2⟩
    · rw [lft l1] at h1
      rw [lft l2] at h2
      exact R.inj i j a u1 u2 h1 h2 g1 g2 m1 m2
    · rw [lft l1] at h1
      rw [l2, rgt] at h2
      cases h2
      exact absurd h1 (frs i u1 g1 m1)
    · rw [lft l2] at h2
      rw [l1, rgt] at h1
      cases h1
      exact absurd h2 (frs j u2 g2 m2)
    · rw [l1, l2]
  · rcases old i u e with ⟨l1, g1⟩ | ⟨l1, g1⟩
    · obtain ⟨a, ea, ro⟩ := R.obj i u g1
      refine ⟨a, pre_get x.pre ea, ro.other x (fun _ _ h => StL.new hp h) (fun b o u h => by rw [upd_ne (ne_of_none h hp)]; exact h) fun m z => ?_⟩
      exact frs i u g1 m (z ▸ ea)
    · subst g1
      exact ⟨p, by rw [l1]; exact rgt, new x⟩
/-- .. that it does not tell (a tuple) -/
theorem Rel.newT {E : Hh} {p : Addr} {ho : HO} (R : Rel M ι E H) (hp : H p = none) : Rel M ι E (upd H p ho) ∧ Ext M ι H ι (upd H p ho) := by
  have x : Ext M ι H ι (upd H p ho) := ⟨List.prefix_refl _, fun _ _ h => SqT.new hp h, fun b o u h => by rw [upd_ne (ne_of_none h hp)]; exact h⟩
  refine ⟨⟨R.len, R.inj, fun i u e => ?_, R.tabs.ext fun b o h => by rw [upd_ne (ne_of_none h hp)]; exact h⟩, x⟩
  obtain ⟨a, ea, ro⟩ := R.obj i u e
  refine ⟨a, ea, ro.other x (fun _ _ h => StL.new hp h) (fun b o u h => by rw [upd_ne (ne_of_none h hp)]; exact h) fun m z => ?_⟩
  obtain ⟨q, hq⟩ := ro.some_of m
  rw [z, hp] at hq
  cases hq
/-- an object of one's own is written -/
theorem Rel.put {E : Hh} {i : Nat} {a : Addr} {u : O} {ho : HO} {o : O} (R : Rel M ι E H) (ha : ι[i]? = some a) (hu : E[i]? = some u) (mu : Mt u = true) (nt : ∀ q, H a = some q → (∀ xs, q ≠ .tup xs) ∧ ∀ b xs, q ≠ .frz b xs)
    (mo : Mt o = true) (new : Ext M ι H ι (upd H a ho) → RelO M (upd H a ho) ι a o) : Rel M ι (E.set i o) (upd H a ho) ∧ Ext M ι H ι (upd H a ho) := by
  obtain ⟨q, hq⟩ : ∃ q, H a = some q := by
    obtain ⟨b, eb, ro⟩ := R.obj i u hu
    rw [ha] at eb
    cases eb
    exact ro.some_of (Mt.ow mu)
  obtain ⟨n1, n2⟩ := nt q hq
  have x : Ext M ι H ι (upd H a ho) := by
    refine ⟨List.prefix_refl _, fun b xs h => ?_, fun b o u h => by rw [upd_ne (fun z => by rw [z, hq] at h; exact n2 _ _ (Option.some.inj h))]; exact h⟩
    rcases h with (h | ⟨ob, h⟩) | h
    · exact .inl (.inl (by rw [upd_ne (fun z => by rw [z, hq] at h; exact n1 xs (Option.some.inj h))]; exact h))
    · exact .inl (.inr ⟨ob, by rw [upd_ne (fun z => by rw [z, hq] at h; exact n2 _ _ (Option.some.inj h))]; exact h⟩)
    · exact .inr h
  have st : ∀ b xs, StL M.K H b xs → StL M.K (upd H a ho) b xs := fun b xs h => by
    rcases h with ⟨ob, h⟩ | h
    · exact .inl ⟨ob, by rw [upd_ne (fun z => by rw [z, hq] at h; exact n2 _ _ (Option.some.inj h))]; exact h⟩
    · exact .inr h
  have hi : i < E.length := (List.getElem?_eq_some_iff.mp hu).1
  have set_at : ∀ (j : Nat) (v : O), (E.set i o)[j]? = some v → j = i ∧ v = o ∨ j ≠ i ∧ E[j]? = some v := fun j v e => by
    by_cases hj : j = i
    · subst hj
      rw [List.getElem?_set_self hi] at e
      exact .inl ⟨rfl, (Option.some.inj e).symm⟩
    · rw [List.getElem?_set_ne (Ne.symm hj)] at e
      exact .inr ⟨hj, e⟩
  have nc : NoCode a q := by
    obtain ⟨b, eb, ro⟩ := R.obj i u hu
    rw [ha] at eb
    cases eb
    exact ro.noCode mu hq
  refine ⟨⟨by rw [List.length_set]; exact R.len, fun j k b v1 v2 h1 h2 e1 e2 m1 m2 => ?_, fun j v e => ?_, Tabs.putN R.tabs hq nc⟩, x⟩
  · rcases set_at j v1 e1 with ⟨l1, g1⟩ | ⟨l1, g1⟩ <;> rcases set_at k v2 e2 with ⟨l2, g2⟩ | ⟨l2, g2⟩
    · rw [l1, l2]
    · rw [l1] at h1 ⊢
      exact R.inj i k b u v2 h1 h2 hu g2 (Mt.ow mu) m2
    · rw [l2] at h2 ⊢
      exact R.inj j i b v1 u h1 h2 g1 hu m1 (Mt.ow mu)
    · exact R.inj j k b v1 v2 h1 h2 g1 g2 m1 m2
  · rcases set_at j v e with ⟨l1, g1⟩ | ⟨l1, g1⟩
    · subst l1
      subst g1
      exact ⟨a, ha, new x⟩
    · obtain ⟨b, eb, ro⟩ := R.obj j v g1
      refine ⟨b, eb, ro.other x st (fun b o u h => by rw [upd_ne (fun z => by rw [z, hq] at h; exact n2 _ _ (Option.some.inj h))]; exact h) fun m z => ?_⟩
      subst z
      exact l1 (R.inj j i b v u eb ha g1 hu m (Mt.ow mu))
end G

set_option Elab.async false
set_option linter.all false
set_option maxRecDepth 100000
set_option maxHeartbeats 4000000
namespace G
open PySem L2 PySem.Spec PyProof.Rows
variable {M : Md} {H H' H1 H2 : Hp} {ι ι' ι1 ι2 : List Addr}

/-- a line for sizes that the kernel reckons with -/
def big : Nat := 10000000
theorem big_le {n : Nat} (h : n ≤ big) : n ≤ sizeLine := by
  rw [sizeLine_eq]
  unfold big at h
  omega
theorem big_lt {n : Nat} (h : n < big) : n < sizeLine := by
  rw [sizeLine_eq]
  unfold big at h
  omega

/-- what is wanted behind a by-value step -/
abbrev Fin (M : Md) (ι : List Addr) (H : Hp) (z : W) (E' : Hh) (Q : VK) : Prop := ∀ ι' H' v, Ext M ι H ι' H' → Rel M ι' E' H' → RelW M H' ι' z v → Q v H'
theorem Fin.now {z : W} {E : Hh} {Q : VK} {v : V} (k : Fin M ι H z E Q) (R : Rel M ι E H) (r : RelW M H ι z v) : Q v H := k ι H v (Ext.refl _ _) R r
/-- a new tuple -/
theorem Fin.tup {ws : List W} {vs : List V} {E : Hh} {Q : VK} (k : Fin M ι H (.tup ws) E Q) (R : Rel M ι E H) (r : RelWs M H ι ws vs) : ∀ p, H p = none → Q (.ref p) (upd H p (.tup vs)) := fun p hp => by
  obtain ⟨R', x⟩ := Rel.newT (ho := .tup vs) R hp
  exact k _ _ _ x R' ⟨p, vs, rfl, SqT.of upd_same, r.ext x⟩
/-- a new list -/
theorem Fin.lst {ws : List W} {vs : List V} {E : Hh} {Q : VK} (k : Fin M ι H (.ref E.length) (E ++ [.lst ws]) Q) (R : Rel M ι E H) (r : RelWs M H ι ws vs) : ∀ p, H p = none → Q (.ref p) (upd H p (.lst vs)) := fun p hp => by
  obtain ⟨R', x⟩ := Rel.new (ho := .lst vs) (o := .lst ws) R hp fun x => ⟨vs, upd_same, r.ext x⟩
  exact k _ _ _ x R' ⟨p, by rw [← R.len]; simp, rfl⟩
theorem Rel.at (R : Rel M ι E H) {i : Nat} {o : O} {a : Addr} (e : (E : List O)[i]? = some o) (ha : ι[i]? = some a) : RelO M H ι a o := by
  obtain ⟨b, eb, ro⟩ := R.obj i o e
  rw [ha] at eb
  cases eb
  exact ro
/-- the items of a list, read -/
def seqOf (E : Hh) : W → Option (List W)
  | .tup ws => some ws
  | .ref i => match (E : List O)[i]? with
    | some (.lst ws) => some ws
    | some (.slst ws) => some ws
    | _ => none
  | _ => none
theorem seq_ok {E : Hh} (R : Rel M ι E H) {w : W} {ws : List W} {v : V} (h : seqOf E w = some ws) (r : RelW M H ι w v) : ∃ a vs, v = .ref a ∧ (SqL M.K H a vs ∨ SqT M.K H a vs) ∧ RelWs M H ι ws vs := by
  cases w with
  | tup xs =>
    obtain rfl : xs = ws := Option.some.inj h
    obtain ⟨a, vs, e, ht, rw⟩ := r
    exact ⟨a, vs, e, .inr ht, rw⟩
  | ref i =>
    obtain ⟨a, ha, e⟩ := r
    unfold seqOf at h; dsimp only at h
    cases he : (E : List O)[i]? with
    | none => simp [he] at h
    | some o =>
      have ro := R.at he ha
      rw [he] at h
      cases o with
      | lst xs =>
        obtain rfl : xs = ws := Option.some.inj h
        obtain ⟨vs, h1, h2⟩ := ro
        exact ⟨a, vs, e, .inl (SqL.of h1), h2⟩
      | slst xs =>
        obtain rfl : xs = ws := Option.some.inj h
        obtain ⟨vs, h1, h2⟩ := ro
        exact ⟨a, vs, e, .inl h1.sq, h2⟩
      | dK kvs => cases h
      | dN kvs => cases h
      | sdN kvs => cases h
      | sdK kvs => cases h
      | exc b => cases h
      | cup b => cases h
  | _ => cases h
/-- a list of one's own -/
def lstOf (E : Hh) : W → Option (Nat × List W)
  | .ref i => match (E : List O)[i]? with
    | some (.lst ws) => some (i, ws)
    | _ => none
  | _ => none
theorem lst_ok {E : Hh} (R : Rel M ι E H) {w : W} {i : Nat} {ws : List W} {v : V} (h : lstOf E w = some (i, ws)) (r : RelW M H ι w v) : ∃ a vs, w = .ref i ∧ ι[i]? = some a ∧ (E : List O)[i]? = some (.lst ws) ∧ v = .ref a ∧ H a = some (.lst vs) ∧ RelWs M H ι ws vs := by
  cases w with
  | ref j =>
    obtain ⟨a, ha, e⟩ := r
    unfold lstOf at h; dsimp only at h
    cases he : (E : List O)[j]? with
    | none => simp [he] at h
    | some o =>
      have ro := R.at he ha
      rw [he] at h
      cases o with
      | lst xs =>
        obtain ⟨rfl, rfl⟩ : j = i ∧ xs = ws := by simpa using h
        obtain ⟨vs, h1, h2⟩ := ro
        exact ⟨a, vs, rfl, ha, he, e, h1, h2⟩
      | slst xs => cases h
      | dK kvs => cases h
      | dN kvs => cases h
      | sdN kvs => cases h
      | sdK kvs => cases h
      | exc b => cases h
      | cup b => cases h
  | _ => cases h
/-- a list of one's own gets other items -/
theorem Fin.putL {E : Hh} {i : Nat} {a : Addr} {ws xs : List W} {us vs : List V} {Q : Hp → Prop} (R : Rel M ι E H) (ha : ι[i]? = some a) (he : (E : List O)[i]? = some (.lst xs)) (hu : H a = some (.lst us)) (r : RelWs M H ι ws vs)
    (k : ∀ ι' H', Ext M ι H ι' H' → Rel M ι' ((E : List O).set i (.lst ws)) H' → Q H') : Q (upd H a (.lst vs)) := by
  obtain ⟨R', x⟩ := Rel.put (o := .lst ws) (ho := .lst vs) R ha he rfl (fun q hq => by rw [hu] at hq; cases hq; exact ⟨fun _ z => (nomatch z), fun _ _ z => (nomatch z)⟩) rfl fun x => ⟨vs, upd_same, r.ext x⟩
  exact k _ _ x R'

/-! ### data -/
mutual
/-- a value as the library's data: n is how deep lists are followed -/
def dat (E : Hh) (n : Nat) : W → Option PyData
  | .non => some .none
  | .bl b => some (.bool b)
  | .int i => some (.int i)
  | .str s => some (.str s)
  | .tup ws => (dats E n ws).map .tuple
  | .ref _ => none
  | .fn _ => none
  | .ty _ => none
def dats (E : Hh) (n : Nat) : List W → Option (List PyData)
  | [] => some []
  | w :: ws => match dat E n w, dats E n ws with
    | some d, some ds => some (d :: ds)
    | _, _ => none
end
/-- lists of data, one level, and what is none -/
def datL (E : Hh) : Nat → W → Option PyData
  | n + 1, .ref i => match (E : List O)[i]? with
    | some (.lst ws) => ((ws.mapM (datL E n))).map .list
    | some (.slst ws) => ((ws.mapM (datL E n))).map .list
    | _ => none
  | n + 1, .tup ws => match dats E 0 ws with
    | some ds => some (.tuple ds)
    | none => ((ws.mapM (datL E n))).map .tuple
  | _, w => dat E 0 w
mutual
theorem dat_ok {E : Hh} {n : Nat} : ∀ {w : W} {d : PyData} {v : V}, dat E n w = some d → RelW M H ι w v → Dp M.K H v d
  | .non, d, v, h, r => by
    obtain rfl : PyData.none = d := Option.some.inj h
    rw [show v = .non from r]
    exact .non
  | .bl b, d, v, h, r => by
    obtain rfl : PyData.bool b = d := Option.some.inj h
    rw [show v = .bl b from r]
    exact .bl b
  | .int i, d, v, h, r => by
    obtain rfl : PyData.int i = d := Option.some.inj h
    rw [show v = .int i from r]
    exact .int i
  | .str s, d, v, h, r => by
    obtain rfl : PyData.str s = d := Option.some.inj h
    rw [show v = .str s from r]
    exact .str s
  | .tup ws, d, v, h, r => by
    obtain ⟨a, vs, rfl, ht, rw⟩ := r
    cases e : dats E n ws with
    | none => simp [dat, e] at h
    | some ds =>
      simp [dat, e] at h
      subst h
      exact .tup ht (dats_ok e rw)
  | .ref _, d, v, h, r => by simp [dat] at h
  | .fn _, d, v, h, r => by simp [dat] at h
  | .ty _, d, v, h, r => by simp [dat] at h
theorem dats_ok {E : Hh} {n : Nat} : ∀ {ws : List W} {ds : List PyData} {vs : List V}, dats E n ws = some ds → RelWs M H ι ws vs → DpAll M.K H vs ds
  | [], ds, vs, h, r => by
    simp [dats] at h
    subst h
    rw [show vs = [] from r]
    exact .nil
  | w :: ws, ds, vs, h, r => by
    obtain ⟨v, us, rfl, r1, r2⟩ := r
    unfold dats at h
    cases e1 : dat E n w with
    | none => simp [e1] at h
    | some d =>
      cases e2 : dats E n ws with
      | none => simp [e1, e2] at h
      | some es =>
        simp [e1, e2] at h
        subst h
        exact .cons (dat_ok e1 r1) (dats_ok e2 r2)
end
theorem datL_ok {E : Hh} (R : Rel M ι E H) : ∀ (n : Nat) {w : W} {d : PyData} {v : V}, datL E n w = some d → RelW M H ι w v → Dp M.K H v d
  | 0, w, d, v, h, r => dat_ok (E := E) (n := 0) (by cases w <;> exact h) r
  | n + 1, w, d, v, h, r => by
    have all : ∀ {ws : List W} {ds : List PyData} {vs : List V}, ws.mapM (datL E n) = some ds → RelWs M H ι ws vs → DpAll M.K H vs ds := by
      intro ws
      induction ws with
      | nil =>
        intro ds vs h r
        simp at h
        subst h
        rw [show vs = [] from r]
        exact .nil
      | cons w ws ih =>
        intro ds vs h r
        obtain ⟨v, us, rfl, r1, r2⟩ := r
        rw [List.mapM_cons] at h
        cases e1 : datL E n w with
        | none => simp [e1] at h
        | some d =>
          cases e2 : ws.mapM (datL E n) with
          | none => simp [e1, e2] at h
          | some es =>
            simp [e1, e2] at h
            subst h
            exact .cons (datL_ok R n e1 r1) (ih e2 r2)
    cases w with
    | ref i =>
      obtain ⟨a, ha, rfl⟩ := r
      unfold datL at h
      cases he : (E : List O)[i]? with
      | none => simp [he] at h
      | some o =>
        have ro := R.at he ha
        rw [he] at h
        cases o with
        | lst xs =>
          obtain ⟨vs, h1, h2⟩ := ro
          cases e : xs.mapM (datL E n) with
          | none => simp [e] at h
          | some ds =>
            simp [e] at h
            subst h
            exact .lst (SqL.of h1) (all e h2)
        | slst xs =>
          obtain ⟨vs, h1, h2⟩ := ro
          cases e : xs.mapM (datL E n) with
          | none => simp [e] at h
          | some ds =>
            simp [e] at h
            subst h
            exact .lst h1.sq (all e h2)
        | dK kvs => cases h
        | dN kvs => cases h
        | sdN kvs => cases h
        | sdK kvs => cases h
        | exc b => cases h
        | cup b => cases h
    | tup ws =>
      obtain ⟨a, vs, rfl, ht, rw⟩ := r
      unfold datL at h
      cases e0 : dats E 0 ws with
      | some ds =>
        simp [e0] at h
        subst h
        exact .tup ht (dats_ok e0 rw)
      | none =>
        rw [e0] at h
        cases e : ws.mapM (datL E n) with
        | none => simp [e] at h
        | some ds =>
          simp [e] at h
          subst h
          exact .tup ht (all e rw)
    | non => exact dat_ok (E := E) (n := 0) h r
    | bl b => exact dat_ok (E := E) (n := 0) h r
    | int b => exact dat_ok (E := E) (n := 0) h r
    | str b => exact dat_ok (E := E) (n := 0) h r
    | fn b => exact dat_ok (E := E) (n := 0) h r
    | ty b => exact dat_ok (E := E) (n := 0) h r
/-- data of a depth that is let -/
def shp (E : Hh) (w : W) : Option PyData := (datL E 4 w).bind fun d => if SeqAt.shaped d then some d else none
theorem shp_ok {E : Hh} (R : Rel M ι E H) {w : W} {d : PyData} {v : V} (h : shp E w = some d) (r : RelW M H ι w v) : Dp M.K H v d ∧ SeqAt.shaped d = true := by
  unfold shp at h
  cases e : datL E 4 w with
  | none => simp [e] at h
  | some d0 =>
    simp [e] at h
    obtain ⟨h1, rfl⟩ := h
    exact ⟨datL_ok R 4 e r, h1⟩

/-! ### operators -/
def wCat (x y : W) (E : Hh) : Option (W × Hh) :=
  match x, y with
  | .int i, .int j => some (.int (i + j), E)
  | .str s, .str t => if s.length + t.length ≤ big then some (.str (s ++ t), E) else none
  | .tup xs, .tup ys => if xs.length + ys.length ≤ big then some (.tup (xs ++ ys), E) else none
  | x, y => match lstOf E x, lstOf E y with
    | some (_, xs), some (_, ys) => if xs.length + ys.length ≤ big then some (.ref E.length, E ++ [.lst (xs ++ ys)]) else none
    | _, _ => none
def rAddAll (K : PySem.W.Frag) : R2 := fun x y H Q => (rI0 (fun i j => .int (i + j)) x y H Q) ∨ ((∃ i j, x = .str i ∧ y = .str j ∧ i.length + j.length ≤ sizeLine ∧ Q (.str (i ++ j)) H) ∨ (rCatA K x y H Q ∨ rCat x y H Q))
theorem op_addAll {X : Cx} : OpR X (binaryOp .Add) (rAddAll X.K) := op_add.or (op_add_str.or (op_catA.or op_cat))
theorem add_ok {E E' : Hh} {x y z : W} {v u : V} {Q : VK} (h : wCat x y E = some (z, E')) (R : Rel M ι E H) (rx : RelW M H ι x v) (ry : RelW M H ι y u) (k : Fin M ι H z E' Q) : rAddAll M.K v u H Q := by
  have lists : ∀ {x y : W}, RelW M H ι x v → RelW M H ι y u → (match lstOf E x, lstOf E y with
    | some (_, xs), some (_, ys) => if xs.length + ys.length ≤ big then some ((.ref E.length : W), E ++ [.lst (xs ++ ys)]) else none
    | _, _ => none) = some (z, E') → rAddAll M.K v u H Q := by
    intro x y rx ry h
    cases e1 : lstOf E x with
    | none => rw [e1] at h; simp at h
    | some p =>
      obtain ⟨i, xs⟩ := p
      cases e2 : lstOf E y with
      | none => rw [e1, e2] at h; simp at h
      | some q =>
        obtain ⟨j, ys⟩ := q
        rw [e1, e2] at h
        dsimp only at h
        split at h
        · rename_i hl
          obtain ⟨rfl, rfl⟩ : (.ref E.length : W) = z ∧ E ++ [.lst (xs ++ ys)] = E' := by simpa using h
          obtain ⟨a, vs, _, ha, hea, rfl, h1, r1⟩ := lst_ok R e1 rx
          obtain ⟨b, us, _, hb, heb, rfl, h2, r2⟩ := lst_ok R e2 ry
          refine .inr (.inr (.inr ⟨a, b, vs, us, rfl, rfl, h1, h2, ?_, k.lst R (r1.append r2)⟩))
          rw [← r1.length, ← r2.length]
          exact big_le hl
        · cases h
  unfold wCat at h
  split at h
  · rename_i i j
    obtain ⟨rfl, rfl⟩ : (.int (i + j) : W) = z ∧ E = E' := by simpa using h
    rw [show v = .int i from rx, show u = .int j from ry]
    exact .inl ⟨i, j, rfl, rfl, k.now R rfl⟩
  · rename_i s t
    split at h
    · rename_i hl
      obtain ⟨rfl, rfl⟩ : (.str (s ++ t) : W) = z ∧ E = E' := by simpa using h
      rw [show v = .str s from rx, show u = .str t from ry]
      exact .inr (.inl ⟨s, t, rfl, rfl, big_le hl, k.now R rfl⟩)
    · cases h
  · rename_i xs ys
    split at h
    · rename_i hl
      obtain ⟨rfl, rfl⟩ : (.tup (xs ++ ys) : W) = z ∧ E = E' := by simpa using h
      obtain ⟨a, vs, rfl, ha, r1⟩ := rx
      obtain ⟨b, us, rfl, hb, r2⟩ := ry
      refine .inr (.inr (.inl ⟨a, b, vs, us, rfl, rfl, ha, hb, ?_, fun e => ?_, fun _ e => ?_, fun _ _ => k.tup R (r1.append r2)⟩))
      · rw [← r1.length, ← r2.length]
        exact big_le hl
      · subst e
        cases xs with
        | nil => exact k.now R ⟨b, us, rfl, hb, r2⟩
        | cons w ws => obtain ⟨_, _, z, _⟩ := r1; cases z
      · subst e
        cases ys with
        | nil => rw [List.append_nil] at k; exact k.now R ⟨a, vs, rfl, ha, r1⟩
        | cons w ws => obtain ⟨_, _, z, _⟩ := r2; cases z
    · cases h
  · exact lists rx ry h
end G

set_option Elab.async false
set_option linter.all false
set_option maxRecDepth 100000
set_option maxHeartbeats 4000000
namespace G
open PySem L2 PySem.Spec PyProof.Rows
variable {M : Md} {H H' H1 H2 : Hp} {ι ι' ι1 ι2 : List Addr}

def two64 : Int := 18446744073709551616
theorem two64_eq : two64 = 2 ^ 64 := by decide
/-! ### * -/
instance {xs : List W} : Decidable (xs ≠ []) := match xs with
  | [] => .isFalse (fun h => h rfl)
  | _ :: _ => .isTrue (fun h => nomatch h)
def wMul' (x y : W) (E : Hh) : Option (W × Hh) :=
  match y with
  | .int j => match x with
    | .int i => if (-two64 < i ∧ i < two64) ∨ (-two64 < j ∧ j < two64) then some (.int (i * j), E) else none
    | .tup xs => if xs ≠ [] ∧ 2 ≤ j ∧ j ≤ 1000 ∧ xs.length ≤ 1000 then some (.tup (List.replicate j.toNat xs).flatten, E) else none
    | .ref r => match lstOf E (.ref r) with
      | some (_, xs) => if 0 ≤ j ∧ j ≤ 1000 ∧ xs.length ≤ 1000 then some (.ref E.length, E ++ [.lst (List.replicate j.toNat xs).flatten]) else none
      | none => none
    | _ => none
  | _ => none
def rMulAll (K : PySem.W.Frag) : R2 := fun x y H Q => (rI CMul (fun i j => .int (i * j)) x y H Q) ∨ (rRepT K x y H Q ∨ rRep x y H Q)
theorem op_mulAll {X : Cx} : OpR X (binaryOp .Mult) (rMulAll X.K) := op_mul.or (op_repT.or op_rep)
theorem mul_ok {E E' : Hh} {x y z : W} {v u : V} {Q : VK} (h : wMul' x y E = some (z, E')) (R : Rel M ι E H) (rx : RelW M H ι x v) (ry : RelW M H ι y u) (k : Fin M ι H z E' Q) : rMulAll M.K v u H Q := by
  unfold wMul' at h
  split at h
  · rename_i j
    rw [show u = .int j from ry]
    split at h
    · rename_i i
      split at h
      · rename_i hc
        obtain ⟨rfl, rfl⟩ : (.int (i * j) : W) = z ∧ E = E' := by simpa using h
        rw [show v = .int i from rx]
        exact .inl ⟨i, j, rfl, rfl, by unfold CMul; rw [← two64_eq]; exact hc, k.now R rfl⟩
      · cases h
    · rename_i xs
      split at h
      · rename_i hc
        obtain ⟨rfl, rfl⟩ : (.tup (List.replicate j.toNat xs).flatten : W) = z ∧ E = E' := by simpa using h
        obtain ⟨a, vs, rfl, ha, r1⟩ := rx
        refine .inr (.inl ⟨a, j, vs, rfl, rfl, ha, fun e => ?_, hc.2.1, hc.2.2.1, by rw [← r1.length]; exact hc.2.2.2, k.tup R (r1.replicate _)⟩)
        have := r1.length
        rw [e] at this
        exact hc.1 (List.length_eq_zero_iff.mp this)
      · cases h
    · rename_i r
      split at h
      · rename_i p i xs e1
        split at h
        · rename_i hc
          obtain ⟨rfl, rfl⟩ : (.ref E.length : W) = z ∧ E ++ [.lst (List.replicate j.toNat xs).flatten] = E' := by simpa using h
          obtain ⟨a, vs, _, ha, hea, rfl, h1, r1⟩ := lst_ok R e1 rx
          refine .inr (.inr ⟨a, j, vs, rfl, rfl, h1, by omega, by omega, ?_, k.lst R (r1.replicate _)⟩)
          have hl := r1.length
          have : vs.length * j.toNat ≤ 1000 * 1000 := Nat.mul_le_mul (by omega) (by omega)
          exact big_le (by unfold big; omega)
        · cases h
      · cases h
    · cases h
  · cases h
/-! ### -, mod, //, ** of ints -/
def wSub (x y : W) (E : Hh) : Option (W × Hh) := match x, y with
  | .int i, .int j => some (.int (i - j), E)
  | _, _ => none
def wMod (x y : W) (E : Hh) : Option (W × Hh) := match x, y with
  | .int i, .int j => if j ≠ 0 then some (.int (i.fmod j), E) else none
  | _, _ => none
def wDiv (x y : W) (E : Hh) : Option (W × Hh) := match x, y with
  | .int i, .int j => if j ≠ 0 ∧ j.natAbs < 1073741824 then some (.int (i.fdiv j), E) else none
  | _, _ => none
def wPow (x y : W) (E : Hh) : Option (W × Hh) := match x, y with
  | .int i, .int j => if 0 ≤ j ∧ j ≤ 100 ∧ i.natAbs < 1000 then some (.int (i ^ j.toNat), E) else none
  | _, _ => none
theorem sub_ok {E E' : Hh} {x y z : W} {v u : V} {Q : VK} (h : wSub x y E = some (z, E')) (R : Rel M ι E H) (rx : RelW M H ι x v) (ry : RelW M H ι y u) (k : Fin M ι H z E' Q) : rI0 (fun i j => .int (i - j)) v u H Q := by
  unfold wSub at h
  split at h
  · rename_i i j
    obtain ⟨rfl, rfl⟩ : (.int (i - j) : W) = z ∧ E = E' := by simpa using h
    rw [show v = .int i from rx, show u = .int j from ry]
    exact ⟨i, j, rfl, rfl, k.now R rfl⟩
  · cases h
theorem mod_ok {E E' : Hh} {x y z : W} {v u : V} {Q : VK} (h : wMod x y E = some (z, E')) (R : Rel M ι E H) (rx : RelW M H ι x v) (ry : RelW M H ι y u) (k : Fin M ι H z E' Q) : rI (fun _ j => j ≠ 0) (fun i j => .int (i.fmod j)) v u H Q := by
  unfold wMod at h
  split at h
  · rename_i i j
    split at h
    · rename_i hc
      obtain ⟨rfl, rfl⟩ : (.int (i.fmod j) : W) = z ∧ E = E' := by simpa using h
      rw [show v = .int i from rx, show u = .int j from ry]
      exact ⟨i, j, rfl, rfl, hc, k.now R rfl⟩
    · cases h
  · cases h
theorem div_ok {E E' : Hh} {x y z : W} {v u : V} {Q : VK} (h : wDiv x y E = some (z, E')) (R : Rel M ι E H) (rx : RelW M H ι x v) (ry : RelW M H ι y u) (k : Fin M ι H z E' Q) : rI CDivN (fun i j => .int (i.fdiv j)) v u H Q := by
  unfold wDiv at h
  split at h
  · rename_i i j
    split at h
    · rename_i hc
      obtain ⟨rfl, rfl⟩ : (.int (i.fdiv j) : W) = z ∧ E = E' := by simpa using h
      rw [show v = .int i from rx, show u = .int j from ry]
      exact ⟨i, j, rfl, rfl, hc, k.now R rfl⟩
    · cases h
  · cases h
theorem pow_ok {E E' : Hh} {x y z : W} {v u : V} {Q : VK} (h : wPow x y E = some (z, E')) (R : Rel M ι E H) (rx : RelW M H ι x v) (ry : RelW M H ι y u) (k : Fin M ι H z E' Q) : rI CPow (fun i j => .int (i ^ j.toNat)) v u H Q := by
  unfold wPow at h
  split at h
  · rename_i i j
    split at h
    · rename_i hc
      obtain ⟨rfl, rfl⟩ : (.int (i ^ j.toNat) : W) = z ∧ E = E' := by simpa using h
      rw [show v = .int i from rx, show u = .int j from ry]
      exact ⟨i, j, rfl, rfl, ⟨hc.1, by omega, by omega⟩, k.now R rfl⟩
    · cases h
  · cases h
/-- the operators between two values -/
def wBin : Operator → W → W → Hh → Option (W × Hh)
  | .Add => wCat
  | .Sub => wSub
  | .Mult => wMul'
  | .Mod => wMod
  | .FloorDiv => wDiv
  | .Pow => wPow
  | _ => fun _ _ _ => none
/-! ### comparisons -/
def flV : W → Option V
  | .non => some .non
  | .bl b => some (.bl b)
  | .int i => some (.int i)
  | .str s => some (.str s)
  | _ => none
theorem flV_ok {w : W} {v u : V} (h : flV w = some u) (r : RelW M H ι w v) : v = u ∧ flatV v = true := by
  cases w <;> simp [flV] at h
  all_goals (subst h; rw [show v = _ from r]; exact ⟨rfl, rfl⟩)
theorem flVs_ok : ∀ {ws : List W} {vs us : List V}, ws.mapM flV = some us → RelWs M H ι ws vs → vs = us ∧ vs.all flatV = true
  | [], vs, us, h, r => by
    simp at h
    subst h
    rw [show vs = [] from r]
    exact ⟨rfl, rfl⟩
  | w :: ws, vs, us, h, r => by
    obtain ⟨v, rs, rfl, r1, r2⟩ := r
    rw [List.mapM_cons] at h
    cases e1 : flV w with
    | none => simp [e1] at h
    | some d =>
      cases e2 : ws.mapM flV with
      | none => simp [e1, e2] at h
      | some es =>
        simp [e1, e2] at h
        subst h
        obtain ⟨rfl, f1⟩ := flV_ok e1 r1
        obtain ⟨rfl, f2⟩ := flVs_ok e2 r2
        exact ⟨rfl, by simp [f1]; simpa using f2⟩
/-- a dict, by texts and ints, or by tuples of these -/
inductive Dc where
  | k (i : Nat) (kvs : List (Key × W))
def dctOf (E : Hh) : W → Option Dc
  | .ref i => match (E : List O)[i]? with
    | some (.dK kvs) => some (.k i kvs)
    | _ => none
  | _ => none
def keyOf : W → Option Key
  | .int i => some (.inl i)
  | .str s => some (.inr s)
  | _ => none
theorem keyOf_ok {w : W} {k : Key} {v : V} (h : keyOf w = some k) (r : RelW M H ι w v) : v = kV k := by
  cases w <;> simp [keyOf] at h
  all_goals (subst h; exact r)
/-- what a dict holds -/
def lkK {κ : Type} [DecidableEq κ] (kvs : List (κ × W)) (k : κ) : Option W := (kvs.find? fun kv => decide (kv.1 = k)).map (·.2)
theorem lkK_ok {κ : Type} [DecidableEq κ] {k : κ} : ∀ {kvs : List (κ × W)} {vs : List V}, RelWs M H ι (kvs.map (·.2)) vs →
    (∀ w, lkK kvs k = some w → ∃ v, valV ((kvs.map (·.1)).zip vs) k = some v ∧ RelW M H ι w v) ∧ (lkK kvs k = none → valV ((kvs.map (·.1)).zip vs) k = none)
  | [], vs, r => by
    rw [show vs = [] from r]
    refine ⟨fun w h => ?_, fun _ => rfl⟩
    have h' : (none : Option W) = some w := h
    cases h'
  | (k', w) :: kvs, vs, r => by
    obtain ⟨v, rs, rfl, r1, r2⟩ := r
    have ih := lkK_ok (k := k) r2
    by_cases e : k' = k
    · have h1 : lkK ((k', w) :: kvs) k = some w := by simp [lkK, List.find?_cons, e]
      rw [h1]
      refine ⟨fun w' h => ?_, fun h => nomatch h⟩
      obtain rfl := Option.some.inj h
      exact ⟨v, by rw [List.map_cons, List.zip_cons_cons, valV_pos (by exact e)], r1⟩
    · have h1 : lkK ((k', w) :: kvs) k = lkK kvs k := by simp [lkK, List.find?_cons, e]
      rw [h1, List.map_cons, List.zip_cons_cons, valV_neg (by exact e)]
      exact ih
def lkD (E : Hh) (d y : W) : Option (Option W) := match dctOf E d with
  | some (.k _ kvs) => (keyOf y).map (lkK kvs)
  | none => none
theorem lkD_ok {E : Hh} (R : Rel M ι E H) {d y : W} {o : Option W} {v u : V} (h : lkD E d y = some o) (rd : RelW M H ι d v) (ry : RelW M H ι y u) : ∃ a, v = .ref a ∧ IsD H a ∧ ∃ ov, DGet H a u ov ∧
    (∀ w, o = some w → ∃ x, ov = some x ∧ RelW M H ι w x) ∧ (o = none → ov = none) := by
  unfold lkD at h
  cases d with
  | ref i =>
    obtain ⟨a, ha, rfl⟩ := rd
    unfold dctOf at h; dsimp only at h
    cases he : (E : List O)[i]? with
    | none => simp [he] at h
    | some ob =>
      have ro := R.at he ha
      rw [he] at h
      cases ob with
      | dK kvs =>
        dsimp only at h
        cases ek : keyOf y with
        | none => simp [ek] at h
        | some k =>
          simp [ek] at h
          subst h
          obtain ⟨vs, h1, h2⟩ := ro
          have e := keyOf_ok ek ry
          exact ⟨a, rfl, .inl ⟨_, .inl h1⟩, _, by rw [e]; exact DGet.k h1, lkK_ok (k := k) h2⟩
      | lst ws => cases h
      | slst ws => cases h
      | dN kvs => cases h
      | sdN kvs => cases h
      | sdK kvs => cases h
      | exc b => cases h
      | cup b => cases h
  | _ => cases h
/-- x in y -/
def wIn (x y : W) (E : Hh) : Option Bool :=
  match lkD E y x with
  | some o => some o.isSome
  | none => match x, y with
    | .str s, .str t => if s.length = 1 then some (decide (s.cps.toList.headD 0 ∈ t.cps.toList)) else none
    | x, y => match seqOf E y with
      | some ws => match flV x, ws.mapM flV with
        | some v, some vs => some (inV v vs)
        | _, _ => match shp E x, shp E y with
          | some d, some (.list ds) => some (ds.any fun z => PyData.eqv z d)
          | _, _ => none
      | none => none
def rInDc : Bool → R2 := fun neg x y H Q => ∃ a o, y = .ref a ∧ DGet H a x o ∧ Q (.bl (if neg then !o.isSome else o.isSome)) H
theorem op_inDc {X : Cx} (hu : X.A.units + 1 < cLine) : OpR X (compareOp .In) (rInDc false) := by
  intro pins s σ H x y v u Q I rx ry h
  obtain ⟨a, o, rfl, g, q⟩ := h
  obtain rfl : u = Value.ref a := ry
  exact d_in hu I g rx fun s3 I3 => ⟨.bl o.isSome, H, I3, rfl, q⟩
theorem op_notInDc {X : Cx} (hu : X.A.units + 1 < cLine) : OpR X (compareOp .NotIn) (rInDc true) := by
  intro pins s σ H x y v u Q I rx ry h
  obtain ⟨a, o, rfl, g, q⟩ := h
  obtain rfl : u = Value.ref a := ry
  exact d_notIn hu I g rx fun s3 I3 => ⟨.bl (!o.isSome), H, I3, rfl, q⟩
def rInAll (K : PySem.W.Frag) : R2 := fun x y H Q => rInDc false x y H Q ∨ (rInS x y H Q ∨ (rIn K false x y H Q ∨ rInD K x y H Q))
def rNotInAll (K : PySem.W.Frag) : R2 := fun x y H Q => rInDc true x y H Q ∨ (rNotInS x y H Q ∨ (rIn K true x y H Q ∨ rNotInD K x y H Q))
theorem op_inAll {X : Cx} (hu : X.A.units + 65 < cLine) : OpR X (compareOp .In) (rInAll X.K) := (op_inDc (by omega)).or (op_in_sign.or (op_in_seq.or (op_inD hu)))
theorem op_notInAll {X : Cx} (hu : X.A.units + 65 < cLine) : OpR X (compareOp .NotIn) (rNotInAll X.K) := (op_notInDc (by omega)).or (op_notIn_sign.or (op_notIn_seq.or (op_notInD hu)))
theorem one_sign {s : Str} (h : s.length = 1) : s = ⟨#[s.cps.toList.headD 0]⟩ := by
  obtain ⟨⟨l⟩⟩ := s
  match l, h with
  | [c], _ => rfl
theorem in_ok {E : Hh} {x y : W} {b : Bool} {v u : V} {Q : VK} (h : wIn x y E = some b) (R : Rel M ι E H) (rx : RelW M H ι x v) (ry : RelW M H ι y u) :
    (Q (.bl b) H → rInAll M.K v u H Q) ∧ (Q (.bl (!b)) H → rNotInAll M.K v u H Q) := by
  have seqs : (match seqOf E y with
      | some ws => match flV x, ws.mapM flV with
        | some v, some vs => some (inV v vs)
        | _, _ => match shp E x, shp E y with
          | some d, some (.list ds) => some (ds.any fun z => PyData.eqv z d)
          | _, _ => none
      | none => none) = some b → (Q (.bl b) H → rInAll M.K v u H Q) ∧ (Q (.bl (!b)) H → rNotInAll M.K v u H Q) := by
    intro h
    cases e1 : seqOf E y with
    | none => rw [e1] at h; cases h
    | some ws =>
      rw [e1] at h
      dsimp only at h
      obtain ⟨a, vs, rfl, hs, rws⟩ := seq_ok R e1 ry
      have deep : (match shp E x, shp E y with
          | some d, some (.list ds) => some (ds.any fun z => PyData.eqv z d)
          | _, _ => none) = some b → (Q (.bl b) H → rInAll M.K v (.ref a) H Q) ∧ (Q (.bl (!b)) H → rNotInAll M.K v (.ref a) H Q) := by
        intro h
        split at h
        · rename_i d ds e2 e3
          obtain ⟨d1, s1⟩ := shp_ok R e2 rx
          obtain ⟨d2, s2⟩ := shp_ok R e3 ry
          obtain rfl := Option.some.inj h
          exact ⟨fun q => .inr (.inr (.inr ⟨d, ds, d1, d2, s1, s2, q⟩)), fun q => .inr (.inr (.inr ⟨d, ds, d1, d2, s1, s2, q⟩))⟩
        · cases h
      cases e2 : flV x with
      | none => rw [e2] at h; exact deep h
      | some z =>
        cases e3 : ws.mapM flV with
        | none => rw [e2, e3] at h; exact deep h
        | some zs =>
          rw [e2, e3] at h
          obtain ⟨rfl, f1⟩ := flV_ok e2 rx
          obtain ⟨rfl, f2⟩ := flVs_ok e3 rws
          obtain rfl := Option.some.inj h
          exact ⟨fun q => .inr (.inr (.inl ⟨a, vs, rfl, hs, f1, f2, q⟩)), fun q => .inr (.inr (.inl ⟨a, vs, rfl, hs, f1, f2, q⟩))⟩
  unfold wIn at h
  cases e0 : lkD E y x with
  | some o =>
    rw [e0] at h
    obtain rfl : o.isSome = b := Option.some.inj h
    obtain ⟨a, rfl, _, ov, g, hv1, hv2⟩ := lkD_ok R e0 ry rx
    have e : ov.isSome = o.isSome := by
      cases o with
      | none => rw [hv2 rfl]; rfl
      | some w => obtain ⟨x, e, _⟩ := hv1 w rfl; rw [e]; rfl
    exact ⟨fun q => .inl ⟨a, ov, rfl, g, by rw [e]; exact q⟩, fun q => .inl ⟨a, ov, rfl, g, by rw [e]; exact q⟩⟩
  | none =>
    rw [e0] at h
    dsimp only at h
    split at h
    · rename_i s t
      split at h
      · rename_i hc
        obtain rfl := Option.some.inj h
        rw [show v = .str s from rx, show u = .str t from ry]
        refine ⟨fun q => .inr (.inl ⟨s.cps.toList.headD 0, t, ?_, rfl, q⟩), fun q => .inr (.inl ⟨s.cps.toList.headD 0, t, ?_, rfl, q⟩)⟩
        · exact congrArg V.str (one_sign hc)
        · exact congrArg V.str (one_sign hc)
      · cases h
    · exact seqs h
end G

set_option Elab.async false
set_option linter.all false
set_option maxRecDepth 100000
set_option maxHeartbeats 4000000
namespace G
open PySem L2 PySem.Spec PyProof.Rows
variable {M : Md} {H H' H1 H2 : Hp} {ι ι' ι1 ι2 : List Addr}

/-! ### comparisons by their sign -/
def isNon : W → Bool
  | .non => true
  | _ => false
def int2 (f : Int → Int → Bool) : W → W → Option Bool
  | .int i, .int j => some (f i j)
  | _, _ => none
theorem int2_ok {f : Int → Int → Bool} {x y : W} {b : Bool} {v u : V} {Q : VK} (h : int2 f x y = some b) (rx : RelW M H ι x v) (ry : RelW M H ι y u) (q : Q (.bl b) H) : rI0 (fun i j => .bl (f i j)) v u H Q := by
  cases x <;> cases y <;> simp [int2] at h
  subst h
  exact ⟨_, _, rx, ry, q⟩
def isB : W → W → Option Bool
  | .bl a, .bl b => some (decide (a = b))
  | _, _ => none
theorem isB_ok {x y : W} {b : Bool} {v u : V} (h : isB x y = some b) (rx : RelW M H ι x v) (ry : RelW M H ι y u) : ∃ c d : Bool, v = .bl c ∧ u = .bl d ∧ b = decide (c = d) := by
  cases x <;> cases y <;> simp [isB] at h
  subst h
  exact ⟨_, _, rx, ry, rfl⟩
def eq2 (E : Hh) (x y : W) : Option Bool := match shp E x, shp E y with
  | some d, some e => some (PyData.eqv d e)
  | _, _ => none
theorem eq2_ok {E : Hh} {x y : W} {b : Bool} {v u : V} (h : eq2 E x y = some b) (R : Rel M ι E H) (rx : RelW M H ι x v) (ry : RelW M H ι y u) :
    ∃ d e, Dp M.K H v d ∧ Dp M.K H u e ∧ SeqAt.shaped d = true ∧ SeqAt.shaped e = true ∧ b = PyData.eqv d e := by
  unfold eq2 at h
  cases e2 : shp E x with
  | none => rw [e2] at h; cases h
  | some d =>
    cases e3 : shp E y with
    | none => rw [e2, e3] at h; cases h
    | some e =>
      rw [e2, e3] at h
      obtain ⟨d1, s1⟩ := shp_ok R e2 rx
      obtain ⟨d2, s2⟩ := shp_ok R e3 ry
      exact ⟨d, e, d1, d2, s1, s2, (Option.some.inj h).symm⟩
def wCmp (op : CmpOp) (x y : W) (E : Hh) : Option Bool :=
  match op with
  | .Eq => eq2 E x y
  | .NotEq => (eq2 E x y).map (!·)
  | .Lt => int2 (fun i j => decide (i < j)) x y
  | .LtE => int2 (fun i j => decide (i ≤ j)) x y
  | .Gt => int2 (fun i j => decide (j < i)) x y
  | .GtE => int2 (fun i j => decide (j ≤ i)) x y
  | .Is => if isNon y = true then some (isNon x) else isB x y
  | .IsNot => if isNon y = true then some (!isNon x) else (isB x y).map (!·)
  | .In => wIn x y E
  | .NotIn => (wIn x y E).map (!·)
def rCmpAll (K : PySem.W.Frag) : CmpOp → R2
  | .Eq => rEqD K
  | .NotEq => rNeD K
  | .Lt => rI0 fun i j => .bl (decide (i < j))
  | .LtE => rI0 fun i j => .bl (decide (i ≤ j))
  | .Gt => rI0 fun i j => .bl (decide (j < i))
  | .GtE => rI0 fun i j => .bl (decide (j ≤ i))
  | .Is => fun x y H Q => (y = .non ∧ Q (.bl (decide (x = .non))) H) ∨ rIsB x y H Q
  | .IsNot => fun x y H Q => (y = .non ∧ Q (.bl (!decide (x = .non))) H) ∨ rNotB x y H Q
  | .In => rInAll K
  | .NotIn => rNotInAll K
theorem op_cmpAll {X : Cx} (hu : X.A.units + 65 < cLine) : ∀ op : CmpOp, OpR X (compareOp op) (rCmpAll X.K op)
  | .Eq => op_eqD (by omega)
  | .NotEq => op_neD (by omega)
  | .Lt => op_lt
  | .LtE => op_le
  | .Gt => op_gt
  | .GtE => op_ge
  | .Is => op_isN.or op_isBl
  | .IsNot => op_notN.or op_notBl
  | .In => op_inAll hu
  | .NotIn => op_notInAll hu
theorem RelW.non_iff {w : W} {v : V} (r : RelW M H ι w v) : decide (v = .non) = isNon w := by
  cases w with
  | non => rw [show v = .non from r]; rfl
  | bl b => rw [show v = .bl b from r]; rfl
  | int b => rw [show v = .int b from r]; rfl
  | str b => rw [show v = .str b from r]; rfl
  | tup ws => obtain ⟨a, vs, rfl, _⟩ := r; rfl
  | ref i => obtain ⟨a, _, rfl⟩ := r; rfl
  | fn x => obtain ⟨a, _, rfl⟩ := r; rfl
  | ty x => rw [show v = .ty x from r]; rfl
theorem isNon_ok {w : W} {v : V} (h : isNon w = true) (r : RelW M H ι w v) : v = .non := by
  cases w <;> simp [isNon] at h
  exact r
theorem map_not {o : Option Bool} {b : Bool} (h : o.map (!·) = some b) : ∃ c, o = some c ∧ (!c) = b := by
  cases o with
  | none => cases h
  | some c => exact ⟨c, rfl, Option.some.inj h⟩
theorem cmp_ok {op : CmpOp} {E : Hh} {x y : W} {b : Bool} {v u : V} {Q : VK} (h : wCmp op x y E = some b) (R : Rel M ι E H) (rx : RelW M H ι x v) (ry : RelW M H ι y u) (k : Fin M ι H (.bl b) E Q) : rCmpAll M.K op v u H Q := by
  have now : Q (.bl b) H := k.now R rfl
  cases op with
  | Eq =>
    obtain ⟨d, e, d1, d2, s1, s2, rfl⟩ := eq2_ok (show eq2 E x y = some b from h) R rx ry
    exact ⟨d, e, d1, d2, s1, s2, now⟩
  | NotEq =>
    obtain ⟨c, hc, rfl⟩ := map_not (show (eq2 E x y).map (!·) = some b from h)
    obtain ⟨d, e, d1, d2, s1, s2, rfl⟩ := eq2_ok hc R rx ry
    exact ⟨d, e, d1, d2, s1, s2, now⟩
  | Lt => exact int2_ok (f := fun i j => decide (i < j)) h rx ry now
  | LtE => exact int2_ok (f := fun i j => decide (i ≤ j)) h rx ry now
  | Gt => exact int2_ok (f := fun i j => decide (j < i)) h rx ry now
  | GtE => exact int2_ok (f := fun i j => decide (j ≤ i)) h rx ry now
  | Is =>
    have h : (if isNon y = true then some (isNon x) else isB x y) = some b := h
    split at h
    · rename_i hc
      refine .inl ⟨isNon_ok hc ry, ?_⟩
      rw [rx.non_iff, Option.some.inj h]
      exact now
    · obtain ⟨c, d, e1, e2, rfl⟩ := isB_ok h rx ry
      exact .inr ⟨c, d, e1, e2, now⟩
  | IsNot =>
    have h : (if isNon y = true then some (!isNon x) else (isB x y).map (!·)) = some b := h
    split at h
    · rename_i hc
      refine .inl ⟨isNon_ok hc ry, ?_⟩
      rw [rx.non_iff, Option.some.inj h]
      exact now
    · obtain ⟨c0, hc, rfl⟩ := map_not h
      obtain ⟨c, d, e1, e2, rfl⟩ := isB_ok hc rx ry
      exact .inr ⟨c, d, e1, e2, now⟩
  | In => exact (in_ok h R rx ry).1 now
  | NotIn =>
    obtain ⟨c, hc, rfl⟩ := map_not (show (wIn x y E).map (!·) = some b from h)
    exact (in_ok hc R rx ry).2 now

/-! ### truth -/
def wTru (x : W) (E : Hh) : Option Bool := match x with
  | .non => some false
  | .bl b => some b
  | .int i => some (i != 0)
  | .str s => if s.length ≤ big then some ((s.length : Int) != 0) else none
  | x => match seqOf E x with
    | some ws => some (!ws.isEmpty)
    | none => match dctOf E x with
      | some (.k _ kvs) => some (!kvs.isEmpty)
      | _ => none
theorem tru_okW {E : Hh} {x : W} {b : Bool} {v : V} (h : wTru x E = some b) (R : Rel M ι E H) (rx : RelW M H ι x v) : TruV M.K v H b := by
  have seqsC : (match seqOf E x with
    | some ws => some (!ws.isEmpty)
    | none => match dctOf E x with
      | some (.k _ kvs) => some (!kvs.isEmpty)
      | _ => none) = some b → TruV M.K v H b := by
    intro h
    cases e : seqOf E x with
    | some ws =>
      rw [e] at h
      obtain rfl : (!ws.isEmpty) = b := Option.some.inj h
      obtain ⟨a, vs, rfl, hs, r⟩ := seq_ok R e rx
      have el : (!ws.isEmpty) = !vs.isEmpty := by
        have := r.length
        cases ws <;> cases vs <;> simp_all
      rcases hs with hs | hs
      · exact .inl ⟨vs, hs, el⟩
      · exact .inr (.inl ⟨vs, hs, el⟩)
    | none =>
      rw [e] at h
      dsimp only at h
      split at h
      · rename_i i kvs e2
        obtain rfl : (!kvs.isEmpty) = b := Option.some.inj h
        cases x with
        | ref j =>
          unfold dctOf at e2; dsimp only at e2
          cases he : (E : List O)[j]? with
          | none => simp [he] at e2
          | some ob =>
            obtain ⟨a, ha, rfl⟩ := rx
            have ro := R.at he ha
            rw [he] at e2
            cases ob with
            | dK ks =>
              obtain ⟨rfl, rfl⟩ : j = i ∧ ks = kvs := by simpa using e2
              obtain ⟨vs, h1, h2⟩ := ro
              refine .inr (.inr ⟨_, h1, ?_⟩)
              have := h2.length
              cases ks <;> cases vs <;> simp_all
            | lst ws => cases e2
            | slst ws => cases e2
            | dN ks => simp at e2
            | sdN ks => simp at e2
            | sdK ks => simp at e2
            | exc b => simp at e2
            | cup b => simp at e2
        | _ => cases e2
      · cases h
  unfold wTru at h
  split at h
  · obtain rfl := Option.some.inj h
    rw [show v = .non from rx]
    exact rfl
  · rename_i c
    obtain rfl := Option.some.inj h
    rw [show v = .bl c from rx]
    exact rfl
  · rename_i i
    obtain rfl := Option.some.inj h
    rw [show v = .int i from rx]
    exact rfl
  · rename_i s
    split at h
    · rename_i hc
      obtain rfl := Option.some.inj h
      rw [show v = .str s from rx]
      exact ⟨big_le hc, rfl⟩
    · cases h
  · exact seqsC h

/-! ### calls of what is built in -/
/-- the type's name -/
def tyW (E : Hh) : W → Option String
  | .non => some "NoneType"
  | .bl _ => some "bool"
  | .int _ => some "int"
  | .str _ => some "str"
  | .tup _ => some "tuple"
  | .ref i => match (E : List O)[i]? with
    | some (.lst _) => some "list"
    | some (.dK _) => some "dict"
    | _ => none
  | .fn _ => none
  | .ty _ => none
theorem ty_ok {E : Hh} {x : W} {n : String} {v : V} (h : tyW E x = some n) (R : Rel M ι E H) (rx : RelW M H ι x v) : TyX M.K H v (.type n) := by
  cases x with
  | non => obtain rfl : _ = n := Option.some.inj h; rw [show v = .non from rx]; exact .base .non
  | bl b => obtain rfl : _ = n := Option.some.inj h; rw [show v = .bl b from rx]; exact .base (.bl b)
  | int b => obtain rfl : _ = n := Option.some.inj h; rw [show v = .int b from rx]; exact .base (.int b)
  | str b => obtain rfl : _ = n := Option.some.inj h; rw [show v = .str b from rx]; exact .base (.str b)
  | tup ws =>
    obtain rfl : _ = n := Option.some.inj h
    obtain ⟨a, vs, rfl, ht, _⟩ := rx
    rcases ht with (ht | ⟨o, ht⟩) | ⟨o, its, k, e, c, _⟩
    · exact .base (.tup ht)
    · exact .fTuple ht
    · exact .kTuple e c
  | ref i =>
    obtain ⟨a, ha, rfl⟩ := rx
    unfold tyW at h; dsimp only at h
    cases he : (E : List O)[i]? with
    | none => simp [he] at h
    | some ob =>
      have ro := R.at he ha
      rw [he] at h
      cases ob with
      | lst ws => obtain rfl : _ = n := Option.some.inj h; obtain ⟨vs, h1, _⟩ := ro; exact .base (.lst h1)
      | slst ws => cases h
      | dK ws => obtain rfl : _ = n := Option.some.inj h; obtain ⟨vs, h1, _⟩ := ro; exact .base (.dK h1)
      | dN ws => cases h
      | sdN ws => cases h
      | sdK ws => cases h
      | exc b => cases h
      | cup b => cases h
  | fn x => cases h
  | ty x => cases h
def blW : W → Option Bool
  | .bl b => some b
  | _ => none
def intW : W → Option Int
  | .int i => some i
  | _ => none
theorem bls_ok : ∀ {ws : List W} {bs : List Bool} {vs : List V}, ws.mapM blW = some bs → RelWs M H ι ws vs → vs = bs.map V.bl
  | [], bs, vs, h, r => by
    simp at h
    subst h
    rw [show vs = [] from r]
    rfl
  | w :: ws, bs, vs, h, r => by
    obtain ⟨v, rs, rfl, r1, r2⟩ := r
    rw [List.mapM_cons] at h
    cases e1 : blW w with
    | none => simp [e1] at h
    | some d =>
      cases e2 : ws.mapM blW with
      | none => simp [e1, e2] at h
      | some es =>
        simp [e1, e2] at h
        subst h
        rw [bls_ok e2 r2]
        cases w <;> cases e1
        rw [show v = .bl d from r1]
        rfl
theorem ints_ok : ∀ {ws : List W} {bs : List Int} {vs : List V}, ws.mapM intW = some bs → RelWs M H ι ws vs → vs = bs.map V.int
  | [], bs, vs, h, r => by
    simp at h
    subst h
    rw [show vs = [] from r]
    rfl
  | w :: ws, bs, vs, h, r => by
    obtain ⟨v, rs, rfl, r1, r2⟩ := r
    rw [List.mapM_cons] at h
    cases e1 : intW w with
    | none => simp [e1] at h
    | some d =>
      cases e2 : ws.mapM intW with
      | none => simp [e1, e2] at h
      | some es =>
        simp [e1, e2] at h
        subst h
        rw [ints_ok e2 r2]
        cases w <;> cases e1
        rw [show v = .int d from r1]
        rfl
/-- built-in names that are called -/
inductive Bi where
  | len | isi | all | any | sum | abs | int | list | tuple
def biOf (x : Str) : Option Bi :=
  if x = "len" then some .len else if x = "isinstance" then some .isi else if x = "all" then some .all else if x = "any" then some .any
  else if x = "sum" then some .sum else if x = "abs" then some .abs else if x = "int" then some .int else if x = "list" then some .list
  else if x = "tuple" then some .tuple else none
def Bi.val : Bi → Value
  | .len => .builtin "len"
  | .isi => .builtin "isinstance"
  | .all => .builtin "all"
  | .any => .builtin "any"
  | .sum => .builtin "sum"
  | .abs => .builtin "abs"
  | .int => .type "int"
  | .list => .type "list"
  | .tuple => .type "tuple"
def wBi (f : Bi) (xs : List W) (E : Hh) : Option (W × Hh) :=
  match f, xs with
  | .len, [x] => match x with
    | .str s => if s.length ≤ big then some (.int s.length, E) else none
    | x => match seqOf E x with
      | some ws => some (.int ws.length, E)
      | none => none
  | .isi, [x, .ty n] => match tyW E x with
    | some m => (kitB m n).map fun b => (.bl b, E)
    | none => none
  | .all, [x] => match lstOf E x with
    | some (_, ws) => (ws.mapM blW).map fun bs => (.bl (bs.all id), E)
    | none => none
  | .any, [x] => match lstOf E x with
    | some (_, ws) => (ws.mapM blW).map fun bs => (.bl (bs.any id), E)
    | none => none
  | .sum, [x] => match lstOf E x with
    | some (_, ws) => (ws.mapM intW).map fun ns => (.int ns.sum, E)
    | none => none
  | .abs, [.int i] => some (.int (if i < 0 then -i else i), E)
  | .int, [.int i] => some (.int i, E)
  | .list, [x] => match seqOf E x with
    | some ws => some (.ref E.length, E ++ [.lst ws])
    | none => none
  | .tuple, [x] => match seqOf E x with
    | some ws => some (.tup ws, E)
    | none => none
  | _, _ => none
def rBi (K : PySem.W.Frag) : Bi → List V → Hp → VK → Prop
  | .len => fun xs H Q => ∃ x n, xs = [x] ∧ LenV K x H n ∧ Q (.int n) H
  | .isi => rIsi K
  | .all => rAll K
  | .any => rAny K
  | .sum => rSum K
  | .abs => fun xs H Q => ∃ i, xs = [.int i] ∧ Q (.int (if i < 0 then -i else i)) H
  | .int => fun xs H Q => (∃ i, xs = [.int i] ∧ Q (.int i) H) ∨ ∃ k, xs = [.bl k] ∧ Q (.int (if k then 1 else 0)) H
  | .list => fun xs H Q => ∃ p ys, xs = [.ref p] ∧ (SqL K H p ys ∨ SqT K H p ys) ∧ ∀ l, H l = none → Q (.ref l) (upd H l (.lst ys))
  | .tuple => fun xs H Q => ∃ p ys, xs = [.ref p] ∧ ((SqL K H p ys ∧ ∀ l, H l = none → Q (.ref l) (upd H l (.tup ys))) ∨ (SqT K H p ys ∧ Q (.ref p) H))
theorem cr_bi {X : Cx} (hc : X.calm = true) : ∀ f : Bi, CallR X f.val (rBi X.K f)
  | .len => call_len
  | .isi => call_isi
  | .all => cr_all hc
  | .any => cr_any hc
  | .sum => cr_sum hc
  | .abs => call_abs
  | .int => call_int1
  | .list => call_list_of
  | .tuple => call_tuple_of
theorem one_ok {w : W} {vs : List V} (r : RelWs M H ι [w] vs) : ∃ v, vs = [v] ∧ RelW M H ι w v := by
  obtain ⟨v, r, rfl, h1, h2⟩ := r
  rw [show r = [] from h2]
  exact ⟨v, rfl, h1⟩
theorem two_ok {w x : W} {vs : List V} (r : RelWs M H ι [w, x] vs) : ∃ v u, vs = [v, u] ∧ RelW M H ι w v ∧ RelW M H ι x u := by
  obtain ⟨v, r, rfl, h1, h2⟩ := r
  obtain ⟨u, rfl, h3⟩ := one_ok h2
  exact ⟨v, u, rfl, h1, h3⟩
theorem bi_ok {f : Bi} {E E' : Hh} {xs : List W} {z : W} {vs : List V} {Q : VK} (h : wBi f xs E = some (z, E')) (R : Rel M ι E H) (r : RelWs M H ι xs vs) (k : Fin M ι H z E' Q) : rBi M.K f vs H Q := by
  unfold wBi at h
  split at h
  · rename_i x
    obtain ⟨v, rfl, rx⟩ := one_ok r
    have seqsC : (match seqOf E x with
      | some ws => some ((.int ws.length : W), E)
      | none => none) = some (z, E') → rBi M.K .len [v] H Q := by
      intro h
      cases e : seqOf E x with
      | none => rw [e] at h; cases h
      | some ws =>
        rw [e] at h
        obtain ⟨rfl, rfl⟩ : (.int ws.length : W) = z ∧ E = E' := by simpa using h
        obtain ⟨a, us, rfl, hs, rw⟩ := seq_ok R e rx
        refine ⟨.ref a, ws.length, rfl, ?_, k.now R rfl⟩
        rcases hs with hs | hs
        · exact .inl ⟨us, hs, rw.length⟩
        · exact .inr ⟨us, hs, rw.length⟩
    split at h
    · rename_i s
      split at h
      · rename_i hc
        obtain ⟨rfl, rfl⟩ : (.int s.length : W) = z ∧ E = E' := by simpa using h
        rw [show v = .str s from rx]
        exact ⟨.str s, s.length, rfl, ⟨big_le hc, rfl⟩, k.now R rfl⟩
      · cases h
    · exact seqsC h
  · rename_i x n
    obtain ⟨v, u, rfl, rx, ry⟩ := two_ok r
    split at h
    · rename_i m e
      cases e2 : kitB m n with
      | none => rw [e2] at h; cases h
      | some b =>
        rw [e2] at h
        obtain ⟨rfl, rfl⟩ : (.bl b : W) = z ∧ E = E' := by simpa using h
        rw [show u = .ty n from ry]
        exact ⟨v, .ty n, .type m, .type n, b, rfl, .ty n, ty_ok e R rx, kit_ty e2, k.now R rfl⟩
    · cases h
  · rename_i x
    obtain ⟨v, rfl, rx⟩ := one_ok r
    split at h
    · rename_i p i ws e
      cases e2 : ws.mapM blW with
      | none => rw [e2] at h; cases h
      | some bs =>
        rw [e2] at h
        obtain ⟨rfl, rfl⟩ : (.bl (bs.all id) : W) = z ∧ E = E' := by simpa using h
        obtain ⟨a, us, _, _, _, rfl, h1, rw⟩ := lst_ok R e rx
        rw [bls_ok e2 rw] at h1
        exact ⟨a, bs, rfl, SqL.of h1, k.now R rfl⟩
    · cases h
  · rename_i x
    obtain ⟨v, rfl, rx⟩ := one_ok r
    split at h
    · rename_i p i ws e
      cases e2 : ws.mapM blW with
      | none => rw [e2] at h; cases h
      | some bs =>
        rw [e2] at h
        obtain ⟨rfl, rfl⟩ : (.bl (bs.any id) : W) = z ∧ E = E' := by simpa using h
        obtain ⟨a, us, _, _, _, rfl, h1, rw⟩ := lst_ok R e rx
        rw [bls_ok e2 rw] at h1
        exact ⟨a, bs, rfl, SqL.of h1, k.now R rfl⟩
    · cases h
  · rename_i x
    obtain ⟨v, rfl, rx⟩ := one_ok r
    split at h
    · rename_i p i ws e
      cases e2 : ws.mapM intW with
      | none => rw [e2] at h; cases h
      | some ns =>
        rw [e2] at h
        obtain ⟨rfl, rfl⟩ : (.int ns.sum : W) = z ∧ E = E' := by simpa using h
        obtain ⟨a, us, _, _, _, rfl, h1, rw⟩ := lst_ok R e rx
        rw [ints_ok e2 rw] at h1
        exact ⟨a, ns, rfl, SqL.of h1, k.now R rfl⟩
    · cases h
  · rename_i i
    obtain ⟨v, rfl, rx⟩ := one_ok r
    obtain ⟨rfl, rfl⟩ : (.int (if i < 0 then -i else i) : W) = z ∧ E = E' := by simpa using h
    rw [show v = .int i from rx]
    exact ⟨i, rfl, k.now R rfl⟩
  · rename_i i
    obtain ⟨v, rfl, rx⟩ := one_ok r
    obtain ⟨rfl, rfl⟩ : (.int i : W) = z ∧ E = E' := by simpa using h
    rw [show v = .int i from rx]
    exact .inl ⟨i, rfl, k.now R rfl⟩
  · rename_i x
    obtain ⟨v, rfl, rx⟩ := one_ok r
    split at h
    · rename_i ws e
      obtain ⟨rfl, rfl⟩ : (.ref E.length : W) = z ∧ E ++ [.lst ws] = E' := by simpa using h
      obtain ⟨a, us, rfl, hs, rw⟩ := seq_ok R e rx
      exact ⟨a, us, rfl, hs, k.lst R rw⟩
    · cases h
  · rename_i x
    obtain ⟨v, rfl, rx⟩ := one_ok r
    split at h
    · rename_i ws e
      obtain ⟨rfl, rfl⟩ : (.tup ws : W) = z ∧ E = E' := by simpa using h
      obtain ⟨a, us, rfl, hs, rw⟩ := seq_ok R e rx
      refine ⟨a, us, rfl, ?_⟩
      rcases hs with hs | hs
      · exact .inl ⟨hs, k.tup R rw⟩
      · exact .inr ⟨hs, k.now R ⟨a, us, rfl, hs, rw⟩⟩
    · cases h
  · cases h
end G

set_option Elab.async false
set_option linter.all false
set_option maxRecDepth 100000
set_option maxHeartbeats 4000000
namespace G
open PySem L2 PySem.Spec PyProof.Rows
variable {M : Md} {H H' H1 H2 : Hp} {ι ι' ι1 ι2 : List Addr}

/-! ### acts, and their readings -/
abbrev Sg := List (Option W)
/-- what comes: a value, or an error of the class with this name -/
inductive Rz (α : Type) where
  | ok (a : α) (E : Hh) | ex (x : Str) (E : Hh)
  deriving Inhabited
abbrev Act (α : Type) := Sg → Hh → Option (Rz α)
def andThen {α β : Type} (o : Option (Rz α)) (f : α → Hh → Option (Rz β)) : Option (Rz β) := match o with
  | some (.ok x E) => f x E
  | some (.ex x E) => some (.ex x E)
  | none => none
def lift {α : Type} (o : Option (α × Hh)) : Option (Rz α) := match o with
  | some (x, E) => some (.ok x E)
  | none => none
/-- a wish of errors, by a class's name -/
def Exd (M : Md) (W' : WX) (ι : List Addr) (σ : L2.St) (H : Hp) (x : Str) (E' : Hh) : Prop := ∀ ι' H', Ext M ι H ι' H' → Rel M ι' E' H' → ∃ C, M.mg x = some (.ref C) ∧ W' (.ref C) none σ H'
def Rs {α : Type} (M : Md) (W' : WX) (ι : List Addr) (σ : L2.St) (H : Hp) (o : Option (Rz α)) (G : α → Hh → Prop) : Prop :=
  (∃ a E', o = some (.ok a E') ∧ G a E') ∨ ∃ x E', o = some (.ex x E') ∧ Exd M W' ι σ H x E'
section
variable {α β : Type} {W' : WX} {σ : L2.St} {o : Option (Rz α)} {G G' : α → Hh → Prop}
theorem Rs.imp (h : Rs M W' ι σ H o G) (i : ∀ a E', G a E' → G' a E') : Rs M W' ι σ H o G' := by
  rcases h with ⟨a, E', e, g⟩ | h
  · exact .inl ⟨a, E', e, i a E' g⟩
  · exact .inr h
theorem Rs.ext (h : Rs M W' ι σ H o G) (x : Ext M ι H ι1 H1) : Rs M W' ι1 σ H1 o G := by
  rcases h with h | ⟨y, E', e, g⟩
  · exact .inl h
  · exact .inr ⟨y, E', e, fun ι' H' x' R => g ι' H' (x.trans x') R⟩
theorem Rs.bind {f : α → Hh → Option (Rz β)} {G : β → Hh → Prop} (h : Rs M W' ι σ H (andThen o f) G) : Rs M W' ι σ H o fun a E1 => Rs M W' ι σ H (f a E1) G := by
  cases o with
  | none => rcases h with ⟨_, _, e, _⟩ | ⟨_, _, e, _⟩ <;> cases e
  | some r =>
    cases r with
    | ok a E1 => exact .inl ⟨a, E1, rfl, h⟩
    | ex x E1 =>
      rcases h with ⟨_, _, e, _⟩ | ⟨y, E', e, g⟩
      · cases e
      · cases e
        exact .inr ⟨_, _, rfl, g⟩
theorem Rs.lift {p : Option (α × Hh)} (h : Rs M W' ι σ H (lift p) G) : ∃ a E', p = some (a, E') ∧ G a E' := by
  cases p with
  | none => rcases h with ⟨_, _, e, _⟩ | ⟨_, _, e, _⟩ <;> cases e
  | some q =>
    rcases h with ⟨a, E', e, g⟩ | ⟨_, _, e, _⟩
    · cases e
      exact ⟨_, _, rfl, g⟩
    · cases e
theorem Rs.ok {a : α} {E : Hh} (h : Rs M W' ι σ H (some (.ok a E)) G) : G a E := by
  rcases h with ⟨_, _, e, g⟩ | ⟨_, _, e, _⟩
  · cases e
    exact g
  · cases e
theorem Rs.none (h : Rs M W' ι σ H (none : Option (Rz α)) G) : False := by
  rcases h with ⟨_, _, e, _⟩ | ⟨_, _, e, _⟩ <;> cases e
end
def SE (M : Md) (W' : WX) (c : Act W) : TE := fun σ H Q => ∃ ι E σE, Rel M ι E H ∧ RelS M H ι σE σ ∧ Rs M W' ι σ H (c σE E) fun w E' => Fin M ι H w E' Q
def ST (M : Md) (W' : WX) (c : Act Bool) : TT := fun σ H Q => ∃ ι E σE, Rel M ι E H ∧ RelS M H ι σE σ ∧ Rs M W' ι σ H (c σE E) fun b E' => ∀ ι' H', Ext M ι H ι' H' → Rel M ι' E' H' → Q b H'
def SA (M : Md) (W' : WX) (c : Act (List W)) : TA := fun σ H Q => ∃ ι E σE, Rel M ι E H ∧ RelS M H ι σE σ ∧ Rs M W' ι σ H (c σE E) fun ws E' => ∀ ι' H' vs, Ext M ι H ι' H' → Rel M ι' E' H' → RelWs M H' ι' ws vs → Q vs H'
theorem PE.imp {X : Cx} {e : Expr} {t t' : TE} (h : PE X e t) (i : ∀ σ H Q, t' σ H Q → t σ H Q) : PE X e t' := ⟨fun pins s σ H Q I q => h.run pins s σ H Q I (i σ H Q q)⟩
theorem PT.imp {X : Cx} {e : Expr} {t t' : TT} (h : PT X e t) (i : ∀ σ H Q, t' σ H Q → t σ H Q) : PT X e t' := ⟨fun pins s σ H Q I q => h.run pins s σ H Q I (i σ H Q q)⟩
theorem PA.imp {X : Cx} {e : List Expr} {t t' : TA} (h : PA X e t) (i : ∀ σ H Q, t' σ H Q → t σ H Q) : PA X e t' := ⟨fun pos pins s σ H Q I q => h.run pos pins s σ H Q I (i σ H Q q)⟩
section
variable {X : Cx} {W' : WX}
theorem pe_no {e : Expr} {c : Act W} (h : ∀ σ E, c σ E = none) : PE X e (SE M W' c) := ⟨fun pins s σ H Q I ⟨ι, E, σE, _, _, q⟩ => by
  rw [h] at q
  exact q.none.elim⟩
theorem pt_no {e : Expr} {c : Act Bool} (h : ∀ σ E, c σ E = none) : PT X e (ST M W' c) := ⟨fun pins s σ H Q I ⟨ι, E, σE, _, _, q⟩ => by
  rw [h] at q
  exact q.none.elim⟩
theorem pa_no {e : List Expr} {c : Act (List W)} (h : ∀ σ E, c σ E = none) : PA X e (SA M W' c) := ⟨fun pos pins s σ H Q I ⟨ι, E, σE, _, _, q⟩ => by
  rw [h] at q
  exact q.none.elim⟩
/-- a one-place act -/
theorem se_un {ca : Act W} {f : W → Hh → Option (W × Hh)} {r : V → Hp → VK → Prop}
    (hop : ∀ {ι : List Addr} {E E' : Hh} {H : Hp} {x z : W} {v : V} {Q : VK}, f x E = some (z, E') → Rel M ι E H → RelW M H ι x v → Fin M ι H z E' Q → r v H Q) :
    ∀ (σ : L2.St) (H : Hp) (Q : VK), SE M W' (fun σ E => andThen (ca σ E) fun x E1 => lift (f x E1)) σ H Q → tUn r (SE M W' ca) σ H Q := fun σ H Q ⟨ι, E, σE, R, rs, h⟩ =>
  ⟨ι, E, σE, R, rs, h.bind.imp fun x E1 h1 => fun ι1 H1 v x1 R1 rx => by
    obtain ⟨w, E', e, k⟩ := h1.lift
    exact hop e R1 rx fun ι2 H2 u x2 => k ι2 H2 u (x1.trans x2)⟩
/-- a two-place act -/
theorem se_op {ca cb : Act W} {f : W → W → Hh → Option (W × Hh)} {r : R2}
    (hop : ∀ {ι : List Addr} {E E' : Hh} {H : Hp} {x y z : W} {v u : V} {Q : VK}, f x y E = some (z, E') → Rel M ι E H → RelW M H ι x v → RelW M H ι y u → Fin M ι H z E' Q → r v u H Q) :
    ∀ (σ : L2.St) (H : Hp) (Q : VK), SE M W' (fun σ E => andThen (ca σ E) fun x E1 => andThen (cb σ E1) fun y E2 => lift (f x y E2)) σ H Q → tOp r (SE M W' ca) (SE M W' cb) σ H Q := fun σ H Q ⟨ι, E, σE, R, rs, h⟩ =>
  ⟨ι, E, σE, R, rs, h.bind.imp fun x E1 h1 => fun ι1 H1 v x1 R1 rx => ⟨ι1, E1, σE, R1, rs.ext x1, (h1.bind.ext x1).imp fun y E2 h2 => fun ι2 H2 u x2 R2 ry => by
    obtain ⟨w, E', e, k⟩ := h2.lift
    exact hop e R2 (rx.ext x2) ry fun ι3 H3 z x3 => k ι3 H3 z ((x1.trans x2).trans x3)⟩⟩
end

/-! ### the syntax's side -/
def plainArg : Expr → Bool
  | .Starred _ _ => false
  | _ => true
theorem starEach_cons {e : Expr} {es : List Expr} {env : Env} (h : plainArg e = true) : starEach (e :: es) env = (false, eval e env) :: starEach es env := by
  cases e <;> first | rfl | cases h
theorem starEach_plain {env : Env} : ∀ {es : List Expr} {pos : Pos}, es.all plainArg = true → (backTo pos (starEach es env)).any (·.1) = false
  | [], _, _ => rfl
  | e :: es, pos, h => by
    rw [List.all_cons, Bool.and_eq_true] at h
    rw [starEach_cons h.1]
    show (false || (backTo pos (starEach es env)).any (·.1)) = false
    rw [starEach_plain h.2]
    rfl
/-- its test is its value's truth -/
def plainTest : Expr → Bool
  | .UnaryOp .Not _ _ => false
  | .BoolOp _ _ _ => false
  | .IfExp _ _ _ _ => false
  | .Compare _ _ _ _ => false
  | _ => true
theorem isTrue_value {e : Expr} {env : Env} (h : plainTest e = true) : ∀ whole, isTrue e env whole = (do let v ← whole; standAt e.pos; holding [v] (truthy v)) := fun whole => by
  cases e <;> first
    | rfl
    | cases h
    | (rename_i op _ _; cases op <;> first | rfl | cases h)
def plainIx : Expr → Bool
  | .Slice _ _ _ _ => false
  | _ => true
theorem plainIx_ok {b : Expr} (h : plainIx b = true) : PlainIx b := fun o i => by
  cases b <;> first | rfl | cases h

/-! ### the static side of a def, or of a comprehension in it -/
structure Gm where
  N : List Str
  names : List (Str × NameKind)
  cellOk : Str → Bool
  hk : Expr → Option (Act W)
structure Pg where
  glob : Str → Option W
  has : Str → Bool
  non : Str → Bool
  exc : Str → Bool
  call : Str → List W → Hh → Option (Rz W)
  dct : Str → Option (List (Str × W))
def ixOf (x : Str) : List Str → Option Nat
  | [] => none
  | y :: r => if x = y then some 0 else (ixOf x r).map (· + 1)
theorem ixOf_ok {x : Str} : ∀ {N : List Str} {i : Nat}, ixOf x N = some i → N[i]? = some x
  | [], i, h => nomatch h
  | y :: r, i, h => by
    unfold ixOf at h
    split at h
    · rename_i e
      obtain rfl := Option.some.inj h
      simp [e]
    · cases e : ixOf x r with
      | none => rw [e] at h; cases h
      | some j =>
        rw [e] at h
        obtain rfl : j + 1 = i := Option.some.inj h
        simpa using ixOf_ok e
def dbg : Str := "__debug__"
def cdc : Str := "__classdict__"
/-- where a context stands over this module and this def -/
structure At (M : Md) (Γ : Gm) (W' : WX) (X : Cx) : Prop where
  P : X.prog = M.P
  w : X.w = M.w
  K : X.K = M.K
  mg : X.mg = M.mg
  N : X.N = Γ.N
  nd : Γ.N.Nodup
  names : X.env.scope.names = Γ.names
  kind : X.env.scope.kind = .function
  calm : X.calm = true
  units : X.A.units + 65 < cLine
  tk : L2N.Takes X W'
  own : PassesOwn (model X.prog X.w) X.A X.env X.xe
  fnc : ∀ x, Γ.cellOk x = true → X.fn x = true
def isLoc : Option NameKind → Bool
  | some .local => true
  | some .cell => true
  | some .free => true
  | _ => false
def wName (P : Pg) (Γ : Gm) (x : Str) : Act W := fun σ E => lift <|
  if x = dbg ∨ x = cdc then none
  else if isLoc (Γ.names.lookup x) = true then
    match ixOf x Γ.N with
    | some i => match (σ : List (Option W))[i]? with
      | some (some w) => some (w, E)
      | _ => none
    | none => none
  else if Γ.names.lookup x = some .globalImplicit then
    match P.glob x with
    | some w => some (w, E)
    | none => none
  else none
/-- a class of errors, over ValueError, that makes its instances as that one does -/
structure ExcC (K : PySem.W.Frag) (C : Addr) : Prop where
  make : PySem.W.excIn K C [.type "ValueError", .type "Exception", .type "BaseException", .type "object"] "ValueError.__new__" = true
  kp : PySem.W.keepIn K (.ref C) = true
  sub : PySem.W.subIn K (.ref C) (.type "BaseException") = some true
  ty : PySem.W.typeIn K (.ref C) = some (.type "type")
def KdV (M : Md) (kvs : List (Str × W)) (z : Str) (r : Option Value) : Prop := match kvs.lookup z with
  | some w => ∃ u v, r = some u ∧ RelV v u ∧ ∀ H ι, RelW M H ι w v
  | none => r = none
/-- a dict that the module's text writes: its entries -/
structure Kd (M : Md) (a : Addr) (kvs : List (Str × W)) : Prop where
  at_ : ∃ es n, M.K.lookup a = some ⟨.type "dict", none, .dict es n, #[]⟩ ∧ PySem.W.KeysLit M.w.params es.toList ∧ ∀ z, ∃ r, PySem.W.nsIn M.K a z = some r ∧ KdV M kvs z r
  low : (a == sysModules) = false
/-- what the module's names hold -/
structure Glob (M : Md) (P : Pg) : Prop where
  val : ∀ x w, P.glob x = some w → ∃ v u, M.mg x = some u ∧ RelV v u ∧ ∀ H ι, RelW M H ι w v
  non : ∀ x, P.non x = true → M.mg x = none
  exc : ∀ x, P.exc x = true → ∃ C, M.mg x = some (.ref C) ∧ ExcC M.K C
  dct : ∀ x kvs, P.dct x = some kvs → ∃ a, M.mg x = some (.ref a) ∧ (x == ("__debug__" : Str)) = false ∧ Kd M a kvs
theorem str_ne {x y : Str} (h : ¬ x = y) : (x == y) = false := by simpa using h
theorem pe_name {P : Pg} {Γ : Gm} {X : Cx} {W' : WX} {x : Str} {pos : Pos} (a : At M Γ W' X) (g : Glob M P) : PE X (.Name x pos) (SE M W' (wName P Γ x)) := by
  by_cases hb : x = dbg ∨ x = cdc
  · exact pe_no fun σ E => by unfold wName; rw [if_pos hb]; rfl
  have h1 : (x == ("__debug__" : Str)) = false := str_ne fun z => hb (.inl z)
  have h2 : (x == ("__classdict__" : Str)) = false := str_ne fun z => hb (.inr z)
  by_cases hl : isLoc (Γ.names.lookup x) = true
  · cases hi : ixOf x Γ.N with
    | none => exact pe_no fun σ E => by unfold wName; rw [if_neg hb, if_pos hl, hi]; rfl
    | some i =>
      have hv : Vis X.env.scope x := by
        unfold Vis
        rw [a.names]
        revert hl
        cases Γ.names.lookup x with
        | none => intro hl; cases hl
        | some k => cases k <;> intro hl <;> first | exact .inl rfl | exact .inr (.inl rfl) | exact .inr (.inr rfl) | cases hl
      refine PE.imp (pe_var (i := i) (by rw [a.N]; exact ixOf_ok hi) hv h1 h2) fun σ H Q ⟨ι, E, σE, R, rs, h0⟩ => ?_
      obtain ⟨w, E', h, k⟩ := h0.lift
      rw [if_neg hb, if_pos hl, hi] at h
      dsimp only at h
      split at h
      · rename_i w' e
        obtain ⟨rfl, rfl⟩ : w' = w ∧ E = E' := by simpa using h
        obtain ⟨v, e2, rv⟩ := rs.2 i w' e
        exact ⟨v, e2, k.now R rv⟩
      · cases h
  · by_cases hg : Γ.names.lookup x = some .globalImplicit
    · cases hp : P.glob x with
      | none => exact pe_no fun σ E => by unfold wName; rw [if_neg hb, if_neg hl, if_pos hg, hp]; rfl
      | some w0 =>
        obtain ⟨v, u, e1, rv, rw0⟩ := g.val x w0 hp
        have hgl : Gl X x := by
          unfold Gl Env.kindOf
          rw [a.names]
          exact hg
        refine PE.imp (pe_glob (v := v) hgl (by rw [a.mg]; exact e1) rv h1) fun σ H Q ⟨ι, E, σE, R, rs, h0⟩ => ?_
        obtain ⟨w, E', h, k⟩ := h0.lift
        rw [if_neg hb, if_neg hl, if_pos hg, hp] at h
        obtain ⟨rfl, rfl⟩ : w0 = w ∧ E = E' := by simpa using h
        exact k.now R (rw0 H ι)
    · exact pe_no fun σ E => by unfold wName; rw [if_neg hb, if_neg hl, if_neg hg]; rfl
end G

set_option Elab.async false
set_option linter.all false
set_option maxRecDepth 100000
set_option maxHeartbeats 4000000
namespace G
open PySem L2 PySem.Spec PyProof.Rows
variable {M : Md} {H H' H1 H2 : Hp} {ι ι' ι1 ι2 : List Addr} {X : Cx} {W' : WX}

/-! ### arguments, displays -/
def wArgs (ev : Expr → Act W) : List Expr → Act (List W)
  | [] => fun _ E => some (.ok [] E)
  | e :: es => fun σ E => if plainArg e = true then andThen (ev e σ E) fun x E1 => andThen (wArgs ev es σ E1) fun xs E2 => some (.ok (x :: xs) E2) else none
theorem pa_args {ev : Expr → Act W} (h : ∀ e, PE X e (SE M W' (ev e))) : ∀ es, PA X es (SA M W' (wArgs ev es))
  | [] => PA.imp pa_nil fun σ H Q ⟨ι, E, σE, R, rs, k⟩ => k.ok ι H [] (Ext.refl _ _) R rfl
  | e :: es => by
    by_cases hp : plainArg e = true
    · refine PA.imp (pa_cons (h e) (pa_args h es) (starEach_cons hp)) fun σ H Q ⟨ι, E, σE, R, rs, k⟩ => ?_
      unfold wArgs at k
      rw [if_pos hp] at k
      exact ⟨ι, E, σE, R, rs, k.bind.imp fun x E1 h1 => fun ι1 H1 v x1 R1 rx => ⟨ι1, E1, σE, R1, rs.ext x1, (h1.bind.ext x1).imp fun xs E2 h2 => fun ι2 H2 vs x2 R2 rxs =>
        h2.ok ι2 H2 (v :: vs) (x1.trans x2) R2 ⟨v, vs, rfl, rx.ext x2, rxs⟩⟩⟩
    · exact pa_no fun σ E => by unfold wArgs; rw [if_neg hp]
/-- a display's items are few -/
def few : Nat := 100000
theorem few_le {n : Nat} (h : n ≤ few) : n ≤ sizeLine := big_le (Nat.le_trans h (by unfold few big; omega))
theorem few_lt {n : Nat} (h : n ≤ few) : n < sizeLine := big_lt (Nat.lt_of_le_of_lt h (by unfold few big; omega))
def wTup (ca : Act (List W)) : Act W := fun σ E => andThen (ca σ E) fun ws E1 => if ws.length ≤ few then some (.ok (.tup ws) E1) else none
def wLst (ca : Act (List W)) : Act W := fun σ E => andThen (ca σ E) fun ws E1 => if ws.length ≤ few then some (.ok (.ref E1.length) (E1 ++ [.lst ws])) else none
theorem pe_tupG {es : List Expr} {k : Nat} {pos : Pos} {ca : Act (List W)} (h : PA X es (SA M W' ca)) : PE X (.Tuple es k pos) (SE M W' (wTup ca)) := by
  refine PE.imp (pe_tup h) fun σ H Q ⟨ι, E, σE, R, rs, k⟩ => ⟨ι, E, σE, R, rs, k.bind.imp fun ws E1 h1 => fun ι1 H1 vs x1 R1 rws => ?_⟩
  split at h1
  · rename_i hl
    have k1 : Fin M ι1 H1 (.tup ws) E1 Q := fun ι2 H2 u x2 => h1.ok ι2 H2 u (x1.trans x2)
    exact ⟨by rw [← rws.length]; exact few_le hl, k1.tup R1 rws⟩
  · exact h1.none.elim
theorem pe_lstG {es : List Expr} {pos : Pos} {ca : Act (List W)} (h : PA X es (SA M W' ca)) : PE X (.List es pos) (SE M W' (wLst ca)) := by
  refine PE.imp (pe_lst h) fun σ H Q ⟨ι, E, σE, R, rs, k⟩ => ⟨ι, E, σE, R, rs, k.bind.imp fun ws E1 h1 => fun ι1 H1 vs x1 R1 rws => ?_⟩
  split at h1
  · rename_i hl
    have k1 : Fin M ι1 H1 (.ref E1.length) (E1 ++ [.lst ws]) Q := fun ι2 H2 u x2 => h1.ok ι2 H2 u (x1.trans x2)
    exact ⟨by rw [← rws.length]; exact few_le hl, k1.lst R1 rws⟩
  · exact h1.none.elim
/-! ### constants -/
def wConst : Const → Act W
  | .int i => fun _ E => some (.ok (.int i) E)
  | .bool b => fun _ E => some (.ok (.bl b) E)
  | .none => fun _ E => some (.ok .non E)
  | .str s => fun _ E => some (.ok (.str s) E)
  | _ => fun _ _ => none
theorem pe_const {c : Const} {j : Nat} {pos : Pos} : PE X (.Constant c j pos) (SE M W' (wConst c)) := by
  cases c with
  | int i => exact PE.imp pe_int fun σ H Q ⟨ι, E, σE, R, rs, k⟩ => k.ok.now R rfl
  | bool i => exact PE.imp pe_bl fun σ H Q ⟨ι, E, σE, R, rs, k⟩ => k.ok.now R rfl
  | none => exact PE.imp pe_non fun σ H Q ⟨ι, E, σE, R, rs, k⟩ => k.ok.now R rfl
  | str i => exact PE.imp pe_str fun σ H Q ⟨ι, E, σE, R, rs, k⟩ => k.ok.now R rfl
  | float b => exact pe_no fun _ _ => rfl
  | complex a b => exact pe_no fun _ _ => rfl
  | bytes a => exact pe_no fun _ _ => rfl
  | ellipsis => exact pe_no fun _ _ => rfl
/-! ### operators -/
def wBinA (op : Operator) (ca cb : Act W) : Act W := fun σ E => andThen (ca σ E) fun x E1 => andThen (cb σ E1) fun y E2 => lift (wBin op x y E2)
theorem pe_binG {a b : Expr} {op : Operator} {pos : Pos} {ca cb : Act W} (at' : X.K = M.K) (ha : PE X a (SE M W' ca)) (hb : PE X b (SE M W' cb)) : PE X (.BinOp a op b pos) (SE M W' (wBinA op ca cb)) := by
  have no : (∀ x y E, wBin op x y E = none) → PE X (.BinOp a op b pos) (SE M W' (wBinA op ca cb)) := fun hn => ⟨fun pins s σ H Q I ⟨ι, E, σE, R, rs, k⟩ => by
    have e : wBinA op ca cb = fun σ E => andThen (ca σ E) fun x E1 => andThen (cb σ E1) fun y E2 => lift (none : Option (W × Hh)) := by
      unfold wBinA
      simp only [hn]
    rw [e] at k
    have t : tOp (fun _ _ _ _ => False) (SE M W' ca) (SE M W' cb) σ H Q := se_op (f := fun _ _ _ => none) (fun h => by cases h) σ H Q ⟨ι, E, σE, R, rs, k⟩
    exact (PE.imp (pe_op (op := op) (r := fun _ _ _ _ => False) (fun _ _ _ _ _ _ _ _ _ _ _ _ h => h.elim) ha hb) fun _ _ _ q => q).run pins s σ H Q I t⟩
  cases op with
  | Add => exact PE.imp (pe_op op_addAll ha hb) (by rw [at']; exact se_op add_ok)
  | Sub => exact PE.imp (pe_op op_sub ha hb) (se_op sub_ok)
  | Mult => exact PE.imp (pe_op op_mulAll ha hb) (by rw [at']; exact se_op mul_ok)
  | Mod => exact PE.imp (pe_op op_modN ha hb) (se_op mod_ok)
  | FloorDiv => exact PE.imp (pe_op op_fdivN ha hb) (se_op div_ok)
  | Pow => exact PE.imp (pe_op op_pow ha hb) (se_op pow_ok)
  | MatMult => exact no fun _ _ _ => rfl
  | Div => exact no fun _ _ _ => rfl
  | LShift => exact no fun _ _ _ => rfl
  | RShift => exact no fun _ _ _ => rfl
  | BitOr => exact no fun _ _ _ => rfl
  | BitXor => exact no fun _ _ _ => rfl
  | BitAnd => exact no fun _ _ _ => rfl
def wNeg (x : W) (E : Hh) : Option (W × Hh) := match x with
  | .int i => some (.int (-i), E)
  | _ => none
def wNot (x : W) (E : Hh) : Option (W × Hh) := match wTru x E with
  | some b => some (.bl (!b), E)
  | none => none
def wUn (op : UnaryOp) (ca : Act W) : Act W := fun σ E => match op with
  | .USub => andThen (ca σ E) fun x E1 => lift (wNeg x E1)
  | .Not => andThen (ca σ E) fun x E1 => lift (wNot x E1)
  | _ => none
theorem pe_unG {a : Expr} {op : UnaryOp} {pos : Pos} {ca : Act W} (at' : X.K = M.K) (ha : PE X a (SE M W' ca)) : PE X (.UnaryOp op a pos) (SE M W' (wUn op ca)) := by
  cases op with
  | USub =>
    refine PE.imp (pe_un un_neg ha) (se_un (f := wNeg) fun {ι E E' H x z v Q} h R rx k => ?_)
    cases x <;> simp [wNeg] at h
    obtain ⟨rfl, rfl⟩ := h
    exact ⟨_, rx, k.now R rfl⟩
  | Not =>
    refine PE.imp (pe_notT ha) (se_un (f := wNot) (r := fun x H Q => ∃ k, TruV X.K x H k ∧ Q (.bl (!k)) H) fun {ι E E' H x z v Q} h R rx k => ?_)
    unfold wNot at h
    cases e : wTru x E with
    | none => rw [e] at h; cases h
    | some b =>
      rw [e] at h
      obtain ⟨rfl, rfl⟩ : (.bl (!b) : W) = z ∧ E = E' := by simpa using h
      exact ⟨b, by rw [at']; exact tru_okW e R rx, k.now R rfl⟩
  | Invert => exact pe_no fun _ _ => rfl
  | UAdd => exact pe_no fun _ _ => rfl
/-! ### comparisons -/
def wCmpA (op : CmpOp) (ca cb : Act W) : Act W := fun σ E => andThen (ca σ E) fun x E1 => andThen (cb σ E1) fun y E2 => lift ((wCmp op x y E2).map fun b => (.bl b, E2))
theorem map_bl {op : CmpOp} {x y z : W} {E E' : Hh} (h : ((wCmp op x y E).map fun b => ((.bl b : W), E)) = some (z, E')) : ∃ b, wCmp op x y E = some b ∧ z = .bl b ∧ E' = E := by
  cases e : wCmp op x y E with
  | none => rw [e] at h; cases h
  | some b =>
    rw [e] at h
    obtain ⟨rfl, rfl⟩ : (.bl b : W) = z ∧ E = E' := by simpa using h
    exact ⟨b, rfl, rfl, rfl⟩
theorem pe_cmpG {a b : Expr} {op : CmpOp} {pos : Pos} {ca cb : Act W} (at' : X.K = M.K) (hu : X.A.units + 65 < cLine) (hm : behindInMarks op b = false) (ha : PE X a (SE M W' ca)) (hb : PE X b (SE M W' cb)) :
    PE X (.Compare a [op] [b] pos) (SE M W' (wCmpA op ca cb)) :=
  PE.imp (pe_cmpR (op_cmpAll hu op) ha hb hm) (se_op (f := fun x y E => (wCmp op x y E).map fun b => (.bl b, E)) fun {ι E E' H x y z v u Q} h R rx ry k => by
    obtain ⟨b, e, rfl, rfl⟩ := map_bl h
    rw [at']
    exact cmp_ok e R rx ry k)
def wChain (op op' : CmpOp) (ca cb cc : Act W) : Act W := fun σ E => andThen (ca σ E) fun x E1 => andThen (cb σ E1) fun y E2 => match wCmp op x y E2 with
  | some true => andThen (cc σ E2) fun z E3 => lift ((wCmp op' y z E3).map fun b => (.bl b, E3))
  | some false => some (.ok (.bl false) E2)
  | none => none
theorem chain_ok {op op' : CmpOp} {ca cb cc : Act W} (at' : X.K = M.K) : ∀ (σ : L2.St) (H : Hp) (Q : VK), SE M W' (wChain op op' ca cb cc) σ H Q → tChain (rCmpAll X.K op) (rCmpAll X.K op') (SE M W' ca) (SE M W' cb) (SE M W' cc) σ H Q := fun σ H Q ⟨ι, E, σE, R, rs, h⟩ =>
  ⟨ι, E, σE, R, rs, h.bind.imp fun x E1 h1 => fun ι1 H1 v x1 R1 rx => ⟨ι1, E1, σE, R1, rs.ext x1, (h1.bind.ext x1).imp fun y E2 h2 => fun ι2 H2 u x2 R2 ry => by
    have xx := x1.trans x2
    cases e : wCmp op x y E2 with
    | none =>
      rw [e] at h2
      exact h2.none.elim
    | some b =>
      rw [e] at h2
      rw [at']
      refine cmp_ok e R2 (rx.ext x2) ry fun ι3 H3 z x3 R3 rz => ?_
      rw [show z = .bl b from rz]
      refine ⟨b, rfl, ?_⟩
      cases b with
      | true =>
        rw [if_pos rfl]
        refine ⟨ι3, E2, σE, R3, rs.ext (xx.trans x3), ((Rs.bind h2).ext (xx.trans x3)).imp fun z E3 h3 => fun ι4 H4 t x4 R4 rt => ?_⟩
        obtain ⟨w, E', e4, k⟩ := h3.lift
        obtain ⟨b', e5, rfl, rfl⟩ := map_bl e4
        exact cmp_ok e5 R4 ((ry.ext x3).ext x4) rt fun ι5 H5 t x5 => k ι5 H5 t (((xx.trans x3).trans x4).trans x5)
      | false =>
        rw [if_neg Bool.false_ne_true]
        exact h2.ok ι3 H3 (.bl false) (xx.trans x3) R3 rfl⟩⟩
theorem pe_chainG {a b c : Expr} {op op' : CmpOp} {pos : Pos} {ca cb cc : Act W} (at' : X.K = M.K) (hu : X.A.units + 65 < cLine) (hm : behindInMarks op' c = false) (ha : PE X a (SE M W' ca)) (hb : PE X b (SE M W' cb)) (hc : PE X c (SE M W' cc)) :
    PE X (.Compare a [op, op'] [b, c] pos) (SE M W' (wChain op op' ca cb cc)) :=
  PE.imp (pe_chain (op_cmpAll hu op) (op_cmpAll hu op') ha hb hc (by show behindInMarks op' c = false; exact hm)) (chain_ok at')
/-! ### as tests -/
def toT (ca : Act W) : Act Bool := fun σ E => andThen (ca σ E) fun x E1 => match x with
  | .bl b => some (.ok b E1)
  | _ => none
theorem st_test {ca : Act W} : ∀ (σ : L2.St) (H : Hp) (Q : Bool → Hp → Prop), ST M W' (toT ca) σ H Q → tTest (SE M W' ca) σ H Q := fun σ H Q ⟨ι, E, σE, R, rs, h⟩ =>
  ⟨ι, E, σE, R, rs, h.bind.imp fun x E1 h1 => fun ι1 H1 v x1 R1 rx => by
    cases x with
    | bl b =>
      rw [show v = .bl b from rx]
      exact ⟨b, rfl, h1.ok ι1 H1 x1 R1⟩
    | _ => exact h1.none.elim⟩
theorem tTest_mono {t t' : TE} (h : ∀ σ H Q, t σ H Q → t' σ H Q) : ∀ σ H Q, tTest t σ H Q → tTest t' σ H Q := fun σ H Q q => h σ H _ q
theorem pt_cmpG {a b : Expr} {op : CmpOp} {pos : Pos} {ca cb : Act W} (at' : X.K = M.K) (hu : X.A.units + 65 < cLine) (hm : behindInMarks op b = false) (ha : PE X a (SE M W' ca)) (hb : PE X b (SE M W' cb)) :
    PT X (.Compare a [op] [b] pos) (ST M W' (toT (wCmpA op ca cb))) :=
  PT.imp (pt_cmpR (op_cmpAll hu op) ha hb hm) fun σ H Q q => tTest_mono (se_op (f := fun x y E => (wCmp op x y E).map fun b => (.bl b, E)) fun {ι E E' H x y z v u Q} h R rx ry k => by
    obtain ⟨b, e, rfl, rfl⟩ := map_bl h
    rw [at']
    exact cmp_ok e R rx ry k) σ H Q (st_test σ H Q q)
theorem pt_chainG {a b c : Expr} {op op' : CmpOp} {pos : Pos} {ca cb cc : Act W} (at' : X.K = M.K) (hu : X.A.units + 65 < cLine) (hm : behindInMarks op' c = false) (ha : PE X a (SE M W' ca)) (hb : PE X b (SE M W' cb)) (hc : PE X c (SE M W' cc)) :
    PT X (.Compare a [op, op'] [b, c] pos) (ST M W' (toT (wChain op op' ca cb cc))) :=
  PT.imp (pt_chain (op_cmpAll hu op) (op_cmpAll hu op') ha hb hc (by show behindInMarks op' c = false; exact hm)) fun σ H Q q => tTest_mono (chain_ok at') σ H Q (st_test σ H Q q)
/-- by truth -/
def byTru (ca : Act W) : Act Bool := fun σ E => andThen (ca σ E) fun x E1 => match wTru x E1 with
  | some b => some (.ok b E1)
  | none => none
theorem pt_truG {a : Expr} {ca : Act W} (at' : X.K = M.K) (hp : plainTest a = true) (ha : PE X a (SE M W' ca)) : PT X a (ST M W' (byTru ca)) :=
  PT.imp (pt_truth ha (isTrue_value hp)) fun σ H Q ⟨ι, E, σE, R, rs, h⟩ => ⟨ι, E, σE, R, rs, h.bind.imp fun x E1 h1 => fun ι1 H1 v x1 R1 rx => by
    cases e : wTru x E1 with
    | none => rw [e] at h1; exact h1.none.elim
    | some b =>
      rw [e] at h1
      exact ⟨b, by rw [at']; exact tru_okW e R1 rx, h1.ok ι1 H1 x1 R1⟩⟩
def notT (ct : Act Bool) : Act Bool := fun σ E => andThen (ct σ E) fun b E1 => some (.ok (!b) E1)
theorem pt_notG {a : Expr} {pos : Pos} {ct : Act Bool} (ha : PT X a (ST M W' ct)) : PT X (.UnaryOp .Not a pos) (ST M W' (notT ct)) :=
  PT.imp (pt_not ha) fun σ H Q ⟨ι, E, σE, R, rs, h⟩ => ⟨ι, E, σE, R, rs, h.bind.imp fun b E1 h1 => fun ι1 H1 x1 R1 => h1.ok ι1 H1 x1 R1⟩
def isAnd : BoolOp → Bool
  | .And => true
  | .Or => false
def allT (op : BoolOp) (t : Expr → Act Bool) : List Expr → Act Bool
  | [] => fun _ _ => none
  | [a] => t a
  | a :: b :: rest => fun σ E => andThen (t a σ E) fun c E1 => if c = isAnd op then allT op t (b :: rest) σ E1 else some (.ok c E1)
theorem pw_all {op : BoolOp} {t : Expr → Act Bool} {pos : Pos} (h : ∀ e, PT X e (ST M W' (t e))) : ∀ es, PW X (.BoolOp op es pos) (ST M W' (allT op t es)) := by
  have imp : ∀ {e : Expr} {t t' : TT}, PW X e t → (∀ σ H Q, t' σ H Q → t σ H Q) → PW X e t' := fun h i => ⟨fun whole pins s σ H Q I q => h.run whole pins s σ H Q I (i σ H Q q)⟩
  intro es
  induction es with
  | nil => exact ⟨fun whole pins s σ H Q I ⟨ι, E, σE, R, rs, k⟩ => k.none.elim⟩
  | cons a r ih =>
    cases r with
    | nil => cases op with
      | And => exact pw_and1 (h a)
      | Or => exact pw_or1 (h a)
    | cons b rest =>
      cases op with
      | And =>
        refine imp (pw_and (h a) ih) fun σ H Q ⟨ι, E, σE, R, rs, k⟩ => ⟨ι, E, σE, R, rs, (Rs.bind k).imp fun c E1 h1 => fun ι1 H1 x1 R1 => ?_⟩
        cases c with
        | true =>
          rw [if_pos rfl]
          rw [if_pos (by rfl)] at h1
          exact ⟨ι1, E1, σE, R1, rs.ext x1, (h1.ext x1).imp fun b E2 g => fun ι2 H2 x2 => g ι2 H2 (x1.trans x2)⟩
        | false =>
          rw [if_neg Bool.false_ne_true]
          rw [if_neg (by decide)] at h1
          exact h1.ok ι1 H1 x1 R1
      | Or =>
        refine imp (pw_or (h a) ih) fun σ H Q ⟨ι, E, σE, R, rs, k⟩ => ⟨ι, E, σE, R, rs, (Rs.bind k).imp fun c E1 h1 => fun ι1 H1 x1 R1 => ?_⟩
        cases c with
        | true =>
          rw [if_pos rfl]
          rw [if_neg (by decide)] at h1
          exact h1.ok ι1 H1 x1 R1
        | false =>
          rw [if_neg Bool.false_ne_true]
          rw [if_pos (by rfl)] at h1
          exact ⟨ι1, E1, σE, R1, rs.ext x1, (h1.ext x1).imp fun b E2 g => fun ι2 H2 x2 => g ι2 H2 (x1.trans x2)⟩
/-- and, or as values -/
def allE (op : BoolOp) (ev : Expr → Act W) : List Expr → Act W
  | [] => fun _ _ => none
  | [a] => ev a
  | a :: b :: rest => fun σ E => andThen (ev a σ E) fun x E1 => match wTru x E1 with
    | some c => if c = isAnd op then allE op ev (b :: rest) σ E1 else some (.ok x E1)
    | none => none
theorem pe_all {op : BoolOp} {ev : Expr → Act W} {pos : Pos} (at' : X.K = M.K) (h : ∀ e, PE X e (SE M W' (ev e))) : ∀ es, PE X (.BoolOp op es pos) (SE M W' (allE op ev es)) := by
  intro es
  induction es with
  | nil => exact pe_no fun _ _ => rfl
  | cons a r ih =>
    cases r with
    | nil => exact pe_one (h a)
    | cons b rest =>
      have go : ∀ (σ : L2.St) (H : Hp) (Q : VK), SE M W' (allE op ev (a :: b :: rest)) σ H Q → SE M W' (ev a) σ H fun x H1 => ∃ k, TruV X.K x H1 k ∧ if k = isAnd op then SE M W' (allE op ev (b :: rest)) σ H1 Q else Q x H1 :=
        fun σ H Q ⟨ι, E, σE, R, rs, k⟩ => ⟨ι, E, σE, R, rs, (Rs.bind k).imp fun x E1 h1 => fun ι1 H1 v x1 R1 rx => by
          cases e : wTru x E1 with
          | none => rw [e] at h1; exact h1.none.elim
          | some c =>
            rw [e] at h1
            refine ⟨c, by rw [at']; exact tru_okW e R1 rx, ?_⟩
            by_cases hc : c = isAnd op
            · rw [if_pos hc]
              dsimp only at h1
              rw [if_pos hc] at h1
              exact ⟨ι1, E1, σE, R1, rs.ext x1, (h1.ext x1).imp fun b E2 g => fun ι2 H2 u x2 => g ι2 H2 u (x1.trans x2)⟩
            · rw [if_neg hc]
              dsimp only at h1
              rw [if_neg hc] at h1
              exact h1.ok ι1 H1 v x1 R1 rx⟩
      cases op with
      | And => exact PE.imp (pe_andT (h a) ih) fun σ H Q q => go σ H Q q
      | Or =>
        refine PE.imp (pe_orT (h a) ih) fun σ H Q q => ?_
        obtain ⟨ι, E, σE, R, rs, k⟩ := go σ H Q q
        refine ⟨ι, E, σE, R, rs, k.imp fun w E' g => fun ι1 H1 v x1 R1 rx => ?_⟩
        obtain ⟨k, t, q⟩ := g ι1 H1 v x1 R1 rx
        refine ⟨k, t, ?_⟩
        cases k with
        | true => rw [if_pos rfl]; rw [if_neg (by decide)] at q; exact q
        | false => rw [if_neg Bool.false_ne_true]; rw [if_pos (by rfl)] at q; exact q
def wIf (ct : Act Bool) (ca cb : Act W) : Act W := fun σ E => andThen (ct σ E) fun c E1 => if c = true then ca σ E1 else cb σ E1
theorem pe_ifG {c a b : Expr} {pos : Pos} {ct : Act Bool} {ca cb : Act W} (hc : PT X c (ST M W' ct)) (ha : PE X a (SE M W' ca)) (hb : PE X b (SE M W' cb)) : PE X (.IfExp c a b pos) (SE M W' (wIf ct ca cb)) :=
  PE.imp (pe_ifExp hc ha hb) fun σ H Q ⟨ι, E, σE, R, rs, k⟩ => ⟨ι, E, σE, R, rs, (Rs.bind k).imp fun c E1 h1 => fun ι1 H1 x1 R1 => by
    cases c with
    | true =>
      rw [if_pos rfl] at h1 ⊢
      exact ⟨ι1, E1, σE, R1, rs.ext x1, (h1.ext x1).imp fun b E2 g => fun ι2 H2 u x2 => g ι2 H2 u (x1.trans x2)⟩
    | false =>
      rw [if_neg Bool.false_ne_true] at h1 ⊢
      exact ⟨ι1, E1, σE, R1, rs.ext x1, (h1.ext x1).imp fun b E2 g => fun ι2 H2 u x2 => g ι2 H2 u (x1.trans x2)⟩⟩
end G

set_option Elab.async false
set_option linter.all false
set_option maxRecDepth 100000
set_option maxHeartbeats 4000000
namespace G
open PySem L2 PySem.Spec PyProof.Rows
variable {M : Md} {H H' H1 H2 : Hp} {ι ι' ι1 ι2 : List Addr} {X : Cx} {W' : WX}

/-! ### x[i] -/
theorem RelWs.atI {ws : List W} {vs : List V} {i : Int} {w : W} (r : RelWs M H ι ws vs) (h : L2.atI ws i = some w) : ∃ v, L2.atI vs i = some v ∧ RelW M H ι w v := by
  unfold L2.atI at h ⊢
  rw [← r.length]
  cases e : ixN ws.length i with
  | none => rw [e] at h; cases h
  | some j =>
    rw [e] at h
    exact r.get (i := j) h
def ixSeq (E : Hh) (x y : W) : Option W := match y with
  | .int i => match x with
    | .str s => if s.length ≤ big then (L2.atI s.cps.toList i).map fun c => .str ⟨#[c]⟩ else none
    | x => match seqOf E x with
      | some ws => L2.atI ws i
      | none => none
  | _ => none
def wIx (x y : W) (E : Hh) : Option (W × Hh) := match lkD E x y with
  | some (some w) => some (w, E)
  | some none => none
  | none => match ixSeq E x y with
    | some w => some (w, E)
    | none => none
def rIxD : R2 := fun x y H Q => ∃ a v, x = .ref a ∧ DGet H a y (some v) ∧ Q v H
theorem ix_dict (hu : X.A.units + 1 < cLine) : IxR X rIxD := by
  intro value slice pins s σ H x y v u Q I rx ry h hs
  obtain ⟨a, w, rfl, g, q⟩ := h
  obtain rfl : v = Value.ref a := rx
  exact tail_any (dict_typeIs I g) PySem.F.slot_dict_getitem.lookup (d_getItem hu I g ry fun w' s3 I3 rw' => ⟨w, H, I3, rw', q⟩) hs
def rIxAll (K : PySem.W.Frag) : R2 := fun x y H Q => rIxD x y H Q ∨ rIx K x y H Q
theorem ix_all (hu : X.A.units + 1 < cLine) : IxR X (rIxAll X.K) := (ix_dict hu).or ix_seq
theorem ixSeq_ok {E : Hh} {x y w : W} {v u : V} {Q : VK} (h : ixSeq E x y = some w) (R : Rel M ι E H) (rx : RelW M H ι x v) (ry : RelW M H ι y u) (k : Fin M ι H w E Q) : rIx M.K v u H Q := by
  cases y with
  | int i =>
    have hs : ∀ ws, seqOf E x = some ws → L2.atI ws i = some w → rIx M.K v u H Q := fun ws e h => by
      obtain ⟨a, vs, rfl, hq, rws⟩ := seq_ok R e rx
      obtain ⟨z, e2, rz⟩ := rws.atI h
      rcases hq with hq | hq
      · exact .inl ⟨a, vs, i, z, rfl, ry, hq, e2, k.now R rz⟩
      · exact .inr (.inl ⟨a, vs, i, z, rfl, ry, hq, e2, k.now R rz⟩)
    have go : (match seqOf E x with
        | some ws => L2.atI ws i
        | none => none) = some w → rIx M.K v u H Q := fun h => by
      cases e : seqOf E x with
      | none => rw [e] at h; cases h
      | some ws => rw [e] at h; exact hs ws e h
    cases x with
    | str s =>
      have h : (if s.length ≤ big then (L2.atI s.cps.toList i).map fun c => (.str ⟨#[c]⟩ : W) else none) = some w := h
      split at h
      · rename_i hl
        cases e : L2.atI s.cps.toList i with
        | none => rw [e] at h; cases h
        | some c =>
          rw [e] at h
          obtain rfl : (.str ⟨#[c]⟩ : W) = w := Option.some.inj h
          exact .inr (.inr ⟨s, i, c, rx, ry, big_le hl, e, k.now R rfl⟩)
      · cases h
    | non => exact go h
    | bl b => exact go h
    | int b => exact go h
    | tup ws => exact go h
    | ref b => exact go h
    | fn b => exact go h
    | ty b => exact go h
  | _ => cases h
theorem ix_ok {E E' : Hh} {x y z : W} {v u : V} {Q : VK} (h : wIx x y E = some (z, E')) (R : Rel M ι E H) (rx : RelW M H ι x v) (ry : RelW M H ι y u) (k : Fin M ι H z E' Q) : rIxAll M.K v u H Q := by
  unfold wIx at h
  cases e : lkD E x y with
  | some o =>
    rw [e] at h
    cases o with
    | none => cases h
    | some w =>
      obtain ⟨rfl, rfl⟩ : w = z ∧ E = E' := by simpa using h
      obtain ⟨a, rfl, _, ov, g, h1, _⟩ := lkD_ok R e rx ry
      obtain ⟨t, rfl, rt⟩ := h1 w rfl
      exact .inl ⟨a, t, rfl, g, k.now R rt⟩
  | none =>
    rw [e] at h
    dsimp only at h
    cases e2 : ixSeq E x y with
    | none => rw [e2] at h; cases h
    | some w =>
      rw [e2] at h
      obtain ⟨rfl, rfl⟩ : w = z ∧ E = E' := by simpa using h
      exact .inr (ixSeq_ok e2 R rx ry k)
def wIxA (ca cb : Act W) : Act W := fun σ E => andThen (ca σ E) fun x E1 => andThen (cb σ E1) fun y E2 => lift (wIx x y E2)
theorem pe_ixG {a b : Expr} {pos : Pos} {ca cb : Act W} (at' : X.K = M.K) (hu : X.A.units + 1 < cLine) (hp : plainIx b = true) (ha : PE X a (SE M W' ca)) (hb : PE X b (SE M W' cb)) : PE X (.Subscript a b pos) (SE M W' (wIxA ca cb)) :=
  PE.imp (pe_ix (ix_all hu) ha hb (plainIx_ok hp)) (by rw [at']; exact se_op ix_ok)

/-! ### slices -/
def cutW (xs : List W) (lo hi : Option Int) : List W := (xs.drop (HT.sIx xs.length 0 lo)).take (HT.sIx xs.length xs.length hi - HT.sIx xs.length 0 lo)
theorem RelWs.cut {ws : List W} {vs : List V} (r : RelWs M H ι ws vs) (lo hi : Option Int) : RelWs M H ι (cutW ws lo hi) (cutV vs lo hi) := by
  unfold cutW cutV
  rw [r.length]
  exact (r.drop _).take _
def SO (M : Md) (W' : WX) (c : Act (Option Int)) : TO := fun σ H Q => ∃ ι E σE, Rel M ι E H ∧ RelS M H ι σE σ ∧ Rs M W' ι σ H (c σE E) fun b E' => ∀ ι' H', Ext M ι H ι' H' → Rel M ι' E' H' → Q b H'
theorem PO.imp {e : Option Expr} {t t' : TO} (h : PO X e t) (i : ∀ σ H Q, t' σ H Q → t σ H Q) : PO X e t' := ⟨fun pins s σ H Q I q => h.run pins s σ H Q I (i σ H Q q)⟩
def wPart (ev : Expr → Act W) : Option Expr → Act (Option Int)
  | none => fun _ E => some (.ok none E)
  | some e => fun σ E => andThen (ev e σ E) fun x E1 => match x with
    | .int i => some (.ok (some i) E1)
    | _ => none
theorem po_part {ev : Expr → Act W} (h : ∀ e, PE X e (SE M W' (ev e))) : ∀ o, PO X o (SO M W' (wPart ev o))
  | none => PO.imp po_none fun σ H Q ⟨ι, E, σE, R, rs, k⟩ => k.ok ι H (Ext.refl _ _) R
  | some e => PO.imp (po_some (h e)) fun σ H Q ⟨ι, E, σE, R, rs, k⟩ => ⟨ι, E, σE, R, rs, (Rs.bind k).imp fun x E1 h1 => fun ι1 H1 v x1 R1 rx => by
    cases x with
    | int i =>
      rw [show v = .int i from rx]
      exact ⟨i, rfl, h1.ok ι1 H1 x1 R1⟩
    | _ => exact h1.none.elim⟩
theorem seq_ref {E : Hh} (R : Rel M ι E H) {i : Nat} {ws : List W} {v : V} (h : seqOf E (.ref i) = some ws) (r : RelW M H ι (.ref i) v) : ∃ a vs, v = .ref a ∧ SqL M.K H a vs ∧ RelWs M H ι ws vs := by
  obtain ⟨a, ha, rfl⟩ := r
  unfold seqOf at h; dsimp only at h
  cases he : (E : List O)[i]? with
  | none => simp [he] at h
  | some o =>
    have ro := R.at he ha
    rw [he] at h
    cases o with
    | lst xs =>
      obtain rfl : xs = ws := Option.some.inj h
      obtain ⟨vs, h1, h2⟩ := ro
      exact ⟨a, vs, rfl, SqL.of h1, h2⟩
    | slst xs =>
      obtain rfl : xs = ws := Option.some.inj h
      obtain ⟨vs, h1, h2⟩ := ro
      exact ⟨a, vs, rfl, h1.sq, h2⟩
    | dK kvs => cases h
    | dN kvs => cases h
    | sdN kvs => cases h
    | sdK kvs => cases h
    | exc b => cases h
    | cup b => cases h
def wSlV (x : W) (lo hi : Option Int) (E : Hh) : Option (W × Hh) := match x with
  | .tup ws => some (.tup (cutW ws lo hi), E)
  | .str s => if s.length ≤ big then some (.str (cutS s lo hi), E) else none
  | x => match seqOf E x with
    | some ws => some (.ref E.length, E ++ [.lst (cutW ws lo hi)])
    | none => none
def rSlAll (K : PySem.W.Frag) : V → Option Int → Option Int → Hp → VK → Prop := fun x lo hi H Q => rSlL K x lo hi H Q ∨ (rSlA K x lo hi H Q ∨ rSlS x lo hi H Q)
theorem sl_all : SlR X (rSlAll X.K) := sl_list.or (sl_tupA.or sl_str)
theorem cutW_whole {ws : List W} {lo hi : Option Int} (h : HT.sIx ws.length 0 lo = 0 ∧ HT.sIx ws.length ws.length hi = ws.length) : cutW ws lo hi = ws := by
  unfold cutW
  rw [h.1, h.2]
  simp
theorem slV_ok {E E' : Hh} {x z : W} {lo hi : Option Int} {v : V} {Q : VK} (h : wSlV x lo hi E = some (z, E')) (R : Rel M ι E H) (rx : RelW M H ι x v) (k : Fin M ι H z E' Q) : rSlAll M.K v lo hi H Q := by
  have go : ∀ i : Nat, x = .ref i → rSlAll M.K v lo hi H Q := fun i ex => by
    subst ex
    have h : (match seqOf E (.ref i) with
      | some ws => some ((.ref E.length : W), E ++ [.lst (cutW ws lo hi)])
      | none => none) = some (z, E') := h
    cases e : seqOf E (.ref i) with
    | none => rw [e] at h; cases h
    | some ws =>
      rw [e] at h
      obtain ⟨rfl, rfl⟩ : (.ref E.length : W) = z ∧ E ++ [.lst (cutW ws lo hi)] = E' := by simpa using h
      obtain ⟨a, vs, rfl, hq, rws⟩ := seq_ref R e rx
      exact .inl ⟨a, vs, rfl, hq, k.lst R (rws.cut lo hi)⟩
  cases x with
  | tup ws =>
    obtain ⟨rfl, rfl⟩ : (.tup (cutW ws lo hi) : W) = z ∧ E = E' := by
      have h : some ((.tup (cutW ws lo hi) : W), E) = some (z, E') := h
      simpa using h
    obtain ⟨a, vs, rfl, ht, rws⟩ := rx
    refine .inr (.inl ⟨a, vs, rfl, ht, fun hw => ?_, fun _ => k.tup R (rws.cut lo hi)⟩)
    rw [← rws.length] at hw
    rw [cutW_whole hw] at k
    exact k.now R ⟨a, vs, rfl, ht, rws⟩
  | str s =>
    have h : (if s.length ≤ big then some ((.str (cutS s lo hi) : W), E) else none) = some (z, E') := h
    split at h
    · rename_i hl
      obtain ⟨rfl, rfl⟩ : (.str (cutS s lo hi) : W) = z ∧ E = E' := by simpa using h
      exact .inr (.inr ⟨s, rx, big_le hl, k.now R rfl⟩)
    · cases h
  | ref i => exact go i rfl
  | _ => cases h
def wSl (ca : Act W) (cl ch : Act (Option Int)) : Act W := fun σ E => andThen (ca σ E) fun x E1 => andThen (cl σ E1) fun lo E2 => andThen (ch σ E2) fun hi E3 => lift (wSlV x lo hi E3)
theorem pe_slG {a : Expr} {lo hi : Option Expr} {pos p2 : Pos} {ca : Act W} {cl ch : Act (Option Int)} (at' : X.K = M.K) (ha : PE X a (SE M W' ca)) (hl : PO X lo (SO M W' cl)) (hh : PO X hi (SO M W' ch)) :
    PE X (.Subscript a (.Slice lo hi none p2) pos) (SE M W' (wSl ca cl ch)) :=
  PE.imp (pe_slice sl_all ha hl hh) fun σ H Q ⟨ι, E, σE, R, rs, k⟩ => ⟨ι, E, σE, R, rs, (Rs.bind k).imp fun x E1 h1 => fun ι1 H1 v x1 R1 rx => ⟨ι1, E1, σE, R1, rs.ext x1, (h1.bind.ext x1).imp fun l E2 h2 => fun ι2 H2 x2 R2 =>
    ⟨ι2, E2, σE, R2, rs.ext (x1.trans x2), (h2.bind.ext (x1.trans x2)).imp fun u E3 h3 => fun ι3 H3 x3 R3 => by
      obtain ⟨w, E', e, g⟩ := h3.lift
      rw [at']
      exact slV_ok e R3 ((rx.ext x2).ext x3) fun ι4 H4 t x4 => g ι4 H4 t (((x1.trans x2).trans x3).trans x4)⟩⟩⟩
theorem RelWs.reverse : ∀ {ws : List W} {vs : List V}, RelWs M H ι ws vs → RelWs M H ι ws.reverse vs.reverse
  | [], vs, h => by rw [show vs = [] from h]; exact rfl
  | w :: ws, vs, h => by
    obtain ⟨v, r, rfl, h1, h2⟩ := h
    rw [List.reverse_cons, List.reverse_cons]
    exact h2.reverse.append ⟨v, [], rfl, h1, rfl⟩
def wRevV (x : W) (E : Hh) : Option (W × Hh) := match x with
  | .ref i => match seqOf E (.ref i) with
    | some ws => some (.ref E.length, E ++ [.lst ws.reverse])
    | none => none
  | _ => none
def wRev (ca : Act W) : Act W := fun σ E => andThen (ca σ E) fun x E1 => lift (wRevV x E1)
theorem pe_revG {a : Expr} {k : Nat} {p1 p2 p3 pos : Pos} {ca : Act W} (at' : X.K = M.K) (ha : PE X a (SE M W' ca)) : PE X (.Subscript a (.Slice none none (some (.UnaryOp .USub (.Constant (.int 1) k p1) p2)) p3) pos) (SE M W' (wRev ca)) :=
  PE.imp (pe_revL ha) (se_un (f := wRevV) (r := fun x H Q => ∃ a xs, x = .ref a ∧ SqL X.K H a xs ∧ ∀ p, H p = none → Q (.ref p) (upd H p (.lst xs.reverse))) fun {ι E E' H x z v Q} h R rx k => by
    cases x with
    | ref i =>
      have h : (match seqOf E (.ref i) with
        | some ws => some ((.ref E.length : W), E ++ [.lst ws.reverse])
        | none => none) = some (z, E') := h
      cases e : seqOf E (.ref i) with
      | none => rw [e] at h; cases h
      | some ws =>
        rw [e] at h
        obtain ⟨rfl, rfl⟩ : (.ref E.length : W) = z ∧ E ++ [.lst ws.reverse] = E' := by simpa using h
        obtain ⟨a, vs, rfl, hq, rws⟩ := seq_ref R e rx
        exact ⟨a, vs, rfl, by rw [at']; exact hq, k.lst R rws.reverse⟩
    | _ => cases h)

/-! ### calls -/
def wBiA (f : Bi) (ca : Act (List W)) : Act W := fun σ E => andThen (ca σ E) fun ws E1 => lift (wBi f ws E1)
/-- of what is built in: x names it, and no name of the module hides it -/
theorem pe_biG {x : Str} {p pos : Pos} {f : Bi} {e : Expr} {es : List Expr} {ca : Act (List W)} (at' : X.K = M.K) (hc : X.calm = true) (hb : biOf x = some f) (hg : Gl X x) (hm : X.mg x = none) (hp : (e :: es).all plainArg = true) (ha : PA X (e :: es) (SA M W' ca)) :
    PE X (.Call (.Name x p) (e :: es) [] pos) (SE M W' (wBiA f ca)) := by
  rw [List.all_cons, Bool.and_eq_true] at hp
  have t : ∀ (σ : L2.St) (H : Hp) (Q : VK), SE M W' (wBiA f ca) σ H Q → tCB (rBi X.K f) (SA M W' ca) σ H Q := fun σ H Q ⟨ι, E, σE, R, rs, k⟩ => ⟨ι, E, σE, R, rs, (Rs.bind k).imp fun ws E1 h1 => fun ι1 H1 vs x1 R1 rws => by
    obtain ⟨w, E', e, g⟩ := h1.lift
    rw [at']
    exact bi_ok e R1 rws fun ι2 H2 u x2 => g ι2 H2 u (x1.trans x2)⟩
  have ex : x = "len" ∧ f = .len ∨ x = "isinstance" ∧ f = .isi ∨ x = "all" ∧ f = .all ∨ x = "any" ∧ f = .any ∨ x = "sum" ∧ f = .sum ∨ x = "abs" ∧ f = .abs ∨ x = "int" ∧ f = .int ∨ x = "list" ∧ f = .list ∨ x = "tuple" ∧ f = .tuple := by
    unfold biOf at hb
    repeat' split at hb
    all_goals first | (cases hb; done) | (obtain rfl := Option.some.inj hb; simp [*])
  have cr := cr_bi hc f
  rcases ex with ⟨rfl, rfl⟩ | ⟨rfl, rfl⟩ | ⟨rfl, rfl⟩ | ⟨rfl, rfl⟩ | ⟨rfl, rfl⟩ | ⟨rfl, rfl⟩ | ⟨rfl, rfl⟩ | ⟨rfl, rfl⟩ | ⟨rfl, rfl⟩
  · exact PE.imp (pe_callB cr hg hm PySem.boot_len ha (by decide +kernel) (by decide +kernel) (starEach_cons hp.1) (starEach_plain hp.2)) t
  · exact PE.imp (pe_callB cr hg hm (by decide +kernel) ha (by decide +kernel) (by decide +kernel) (starEach_cons hp.1) (starEach_plain hp.2)) t
  · exact PE.imp (pe_callB cr hg hm (by decide +kernel) ha (by decide +kernel) (by decide +kernel) (starEach_cons hp.1) (starEach_plain hp.2)) t
  · exact PE.imp (pe_callB cr hg hm (by decide +kernel) ha (by decide +kernel) (by decide +kernel) (starEach_cons hp.1) (starEach_plain hp.2)) t
  · exact PE.imp (pe_callB cr hg hm (by decide +kernel) ha (by decide +kernel) (by decide +kernel) (starEach_cons hp.1) (starEach_plain hp.2)) t
  · exact PE.imp (pe_callB cr hg hm (by decide +kernel) ha (by decide +kernel) (by decide +kernel) (starEach_cons hp.1) (starEach_plain hp.2)) t
  · exact PE.imp (pe_callTy cr hg hm (by decide +kernel) ha (by decide +kernel) (by decide +kernel) (starEach_cons hp.1) (starEach_plain hp.2)) t
  · exact PE.imp (pe_callTy cr hg hm (by decide +kernel) ha (by decide +kernel) (by decide +kernel) (starEach_cons hp.1) (starEach_plain hp.2)) t
  · exact PE.imp (pe_callTy cr hg hm (by decide +kernel) ha (by decide +kernel) (by decide +kernel) (starEach_cons hp.1) (starEach_plain hp.2)) t
/-- a name of what is built in, as a value: a class -/
def tyOfN (x : Str) : Option String := if x = "int" then some "int" else if x = "bool" then some "bool" else if x = "str" then some "str" else if x = "tuple" then some "tuple" else if x = "list" then some "list" else none
theorem pe_tyG {x : Str} {n : String} {pos : Pos} (hb : tyOfN x = some n) (hg : Gl X x) (hm : X.mg x = none) : PE X (.Name x pos) (SE M W' fun _ E => some (.ok (.ty n) E)) := by
  have ex : x = "int" ∧ n = "int" ∨ x = "bool" ∧ n = "bool" ∨ x = "str" ∧ n = "str" ∨ x = "tuple" ∧ n = "tuple" ∨ x = "list" ∧ n = "list" := by
    unfold tyOfN at hb
    repeat' split at hb
    all_goals first | (cases hb; done) | (obtain rfl := Option.some.inj hb; simp [*])
  rcases ex with ⟨rfl, rfl⟩ | ⟨rfl, rfl⟩ | ⟨rfl, rfl⟩ | ⟨rfl, rfl⟩ | ⟨rfl, rfl⟩
  all_goals exact PE.imp (pe_bltn (u := .type _) hg hm (by decide +kernel) (show L2.RelV (.ty _) (.type _) from rfl) (by decide +kernel) (by decide +kernel)) fun σ H Q ⟨ι, E, σE, R, rs, k⟩ => k.ok.now R rfl
/-! ### defs of the module -/
/-- a def's promise: it comes to what the act tells -/
def spOf (M : Md) (c : List W → Hh → Option (Rz W)) : Sp := fun vs H Q Ex => ∃ ι E ws, Rel M ι E H ∧ RelWs M H ι ws vs ∧
  ((∃ w E', c ws E = some (.ok w E') ∧ Fin M ι H w E' Q) ∨ ∃ x E', c ws E = some (.ex x E') ∧ ∀ ι' H', Ext M ι H ι' H' → Rel M ι' E' H' → ∃ C, M.mg x = some (.ref C) ∧ Ex (.ref C) none H')
/-- the defs that can be called here -/
structure Has (M : Md) (P : Pg) (X : Cx) : Prop where
  fn : ∀ x, P.has x = true → ∃ k f fd ps, FnOk X.prog X.w X.K X.mg X.base (L2N.CX X.prog X.w) k f fd ps (spOf M (P.call x)) ∧ Room k X.A ∧ X.mg x = some (.ref f) ∧ PySem.W.keepIn X.K (.ref f) = true ∧ Binds X.K fd ps [] ∧ (x == ("__debug__" : Str)) = false
def wCall (P : Pg) (x : Str) (ca : Act (List W)) : Act W := fun σ E => if P.has x = true then andThen (ca σ E) fun ws E1 => P.call x ws E1 else none
theorem pe_callG {P : Pg} {x : Str} {p pos : Pos} {e : Expr} {es : List Expr} {ca : Act (List W)} (tk : L2N.Takes X W') (hs : Has M P X) (hg : Gl X x) (hp : (e :: es).all plainArg = true) (ha : PA X (e :: es) (SA M W' ca)) :
    PE X (.Call (.Name x p) (e :: es) [] pos) (SE M W' (wCall P x ca)) := by
  rw [List.all_cons, Bool.and_eq_true] at hp
  by_cases hx : P.has x = true
  · obtain ⟨k, f, fd, ps, F, hr, hm, hk, hb, hd⟩ := hs.fn x hx
    refine PE.imp (pe_callS F hr hg hm hk hb (fun σ => L2N.passAt tk σ) ha hd (starEach_cons hp.1) (starEach_plain hp.2)) fun σ H Q ⟨ι, E, σE, R, rs, k⟩ => ?_
    unfold wCall at k
    rw [if_pos hx] at k
    refine ⟨ι, E, σE, R, rs, (Rs.bind k).imp fun ws E1 h1 => fun ι1 H1 vs x1 R1 rws => ⟨ι1, E1, ws, R1, rws, ?_⟩⟩
    rcases h1 with ⟨w, E', e, g⟩ | ⟨y, E', e, g⟩
    · exact .inl ⟨w, E', e, fun ι2 H2 u x2 => g ι2 H2 u (x1.trans x2)⟩
    · exact .inr ⟨y, E', e, fun ι2 H2 x2 => g ι2 H2 (x1.trans x2)⟩
  · exact pe_no fun σ E => by unfold wCall; rw [if_neg hx]
end G

set_option Elab.async false
set_option linter.all false
set_option maxRecDepth 100000
set_option maxHeartbeats 4000000
namespace G
open PySem L2 PySem.Spec PyProof.Rows
variable {M : Md} {H H' H1 H2 : Hp} {ι ι' ι1 ι2 : List Addr} {X : Cx} {W' : WX}

/-! ### statements -/
/-- how a block ends -/
inductive Fl where
  | nx (σ : Sg) | rt (w : W) | bk (σ : Sg) | ct (σ : Sg)
  deriving Inhabited
abbrev ActS := Sg → Hh → Option (Rz Fl)
def Good (M : Md) (D : Ends) (ι : List Addr) (H : Hp) (f : Fl) (E' : Hh) : Prop := ∀ ι' H', Ext M ι H ι' H' → Rel M ι' E' H' → match f with
  | .nx σ1 => ∀ σ', RelS M H' ι' σ1 σ' → D.nx σ' H'
  | .rt w => ∀ v, RelW M H' ι' w v → D.rt v H'
  | .bk σ1 => ∀ σ', RelS M H' ι' σ1 σ' → D.bk σ' H'
  | .ct σ1 => ∀ σ', RelS M H' ι' σ1 σ' → D.ct σ' H'
theorem Good.ext {D : Ends} {f : Fl} {E' : Hh} (h : Good M D ι H f E') (x : Ext M ι H ι1 H1) : Good M D ι1 H1 f E' := fun ι' H' x' R => h ι' H' (x.trans x') R
def SS (M : Md) (W' : WX) (c : ActS) : TS := fun D σ H => ∃ ι E σE, Rel M ι E H ∧ RelS M H ι σE σ ∧ Rs M W' ι σ H (c σE E) fun f E' => Good M D ι H f E'
theorem PS.imp {st : Stmt} {t t' : TS} (h : PS X st t) (i : ∀ D σ H, t' D σ H → t D σ H) : PS X st t' := ⟨fun pins s σ H D I q => h.run pins s σ H D I (i D σ H q)⟩
theorem PSs.imp {st : List Stmt} {t t' : TS} (h : PSs X st t) (i : ∀ D σ H, t' D σ H → t D σ H) : PSs X st t' := ⟨fun pins s σ H D I q => h.run pins s σ H D I (i D σ H q)⟩
theorem PG.imp {e : Expr} {t t' : TG} (h : PG X e t) (i : ∀ v σ H Q, t' v σ H Q → t v σ H Q) : PG X e t' := ⟨fun pins s σ H v u Q I r q => h.run pins s σ H v u Q I r (i v σ H Q q)⟩
theorem PGs.imp {e : List Expr} {t t' : TGs} (h : PGs X e t) (i : ∀ v σ H Q, t' v σ H Q → t v σ H Q) : PGs X e t' := ⟨fun pins s σ H v u Q I r q => h.run pins s σ H v u Q I r (i v σ H Q q)⟩
theorem ps_no {st : Stmt} {c : ActS} (h : ∀ σ E, c σ E = none) : PS X st (SS M W' c) := ⟨fun pins s σ H Q I ⟨ι, E, σE, _, _, q⟩ => by
  rw [h] at q
  exact q.none.elim⟩
theorem pss_no {st : List Stmt} {c : ActS} (h : ∀ σ E, c σ E = none) : PSs X st (SS M W' c) := ⟨fun pins s σ H Q I ⟨ι, E, σE, _, _, q⟩ => by
  rw [h] at q
  exact q.none.elim⟩
/-- what is wanted of an error does not hang on the slots -/
def Wind (W' : WX) : Prop := ∀ c d σ σ' H, W' c d σ H → W' c d σ' H
theorem Exd.slots {σ σ' : L2.St} {x : Str} {E' : Hh} (hW : Wind W') (h : Exd M W' ι σ H x E') : Exd M W' ι σ' H x E' := fun ι' H' x' R => by
  obtain ⟨C, e, w⟩ := h ι' H' x' R
  exact ⟨C, e, hW _ _ _ _ _ w⟩
theorem Rs.slots {α : Type} {σ σ' : L2.St} {o : Option (Rz α)} {G : α → Hh → Prop} (hW : Wind W') (h : Rs M W' ι σ H o G) : Rs M W' ι σ' H o G := by
  rcases h with h | ⟨x, E', e, g⟩
  · exact .inl h
  · exact .inr ⟨x, E', e, g.slots hW⟩
/-- one statement, then others -/
def seqS (c d : ActS) : ActS := fun σ E => andThen (c σ E) fun f E1 => match f with
  | .nx σ1 => d σ1 E1
  | f => some (.ok f E1)
theorem pss_consG {st : Stmt} {rest : List Stmt} {c d : ActS} (hW : Wind W') (h1 : PS X st (SS M W' c)) (h2 : PSs X rest (SS M W' d)) : PSs X (st :: rest) (SS M W' (seqS c d)) :=
  PSs.imp (pss_cons h1 h2) fun D σ H ⟨ι, E, σE, R, rs, k⟩ => ⟨ι, E, σE, R, rs, (Rs.bind k).imp fun f E1 h1 => fun ι1 H1 x1 R1 => by
    cases f with
    | nx σ1 => exact fun σ' rs1 => ⟨ι1, E1, σ1, R1, rs1, ((h1.ext x1).slots hW).imp fun f E2 g => g.ext x1⟩
    | rt w => exact h1.ok ι1 H1 x1 R1
    | bk σ1 => exact h1.ok ι1 H1 x1 R1
    | ct σ1 => exact h1.ok ι1 H1 x1 R1⟩
def nilS : ActS := fun σ E => some (.ok (.nx σ) E)
theorem pss_nilG : PSs X [] (SS M W' nilS) := PSs.imp pss_nil fun D σ H ⟨ι, E, σE, R, rs, k⟩ => k.ok ι H (Ext.refl _ _) R σ rs
theorem ps_passG {pos : Pos} : PS X (.Pass pos) (SS M W' nilS) := PS.imp ps_pass fun D σ H ⟨ι, E, σE, R, rs, k⟩ => k.ok ι H (Ext.refl _ _) R σ rs
theorem ps_breakG {pos : Pos} : PS X (.Break pos) (SS M W' fun σ E => some (.ok (.bk σ) E)) := PS.imp ps_break fun D σ H ⟨ι, E, σE, R, rs, k⟩ => k.ok ι H (Ext.refl _ _) R σ rs
theorem ps_contG {pos : Pos} : PS X (.Continue pos) (SS M W' fun σ E => some (.ok (.ct σ) E)) := PS.imp ps_continue fun D σ H ⟨ι, E, σE, R, rs, k⟩ => k.ok ι H (Ext.refl _ _) R σ rs
def retS (ca : Act W) : ActS := fun σ E => andThen (ca σ E) fun w E1 => some (.ok (.rt w) E1)
theorem ps_retG {e : Expr} {pos : Pos} {ca : Act W} (h : PE X e (SE M W' ca)) : PS X (.Return (some e) pos) (SS M W' (retS ca)) :=
  PS.imp (ps_ret h) fun D σ H ⟨ι, E, σE, R, rs, k⟩ => ⟨ι, E, σE, R, rs, (Rs.bind k).imp fun w E1 h1 => fun ι1 H1 v x1 R1 rv => h1.ok ι1 H1 x1 R1 v rv⟩
theorem ps_retNG {pos : Pos} : PS X (.Return none pos) (SS M W' fun _ E => some (.ok (.rt .non) E)) := PS.imp ps_retN fun D σ H ⟨ι, E, σE, R, rs, k⟩ => k.ok ι H (Ext.refl _ _) R .non rfl
def plainDrop : Expr → Bool
  | .ListComp _ _ _ _ => false
  | .SetComp _ _ _ _ => false
  | .DictComp _ _ _ _ _ => false
  | _ => true
theorem swaps_none {e : Expr} {o : Option Expr} {l : Nat} {env : Env} (h : plainDrop e = true) : swapsWith e o l env = pure false := by
  cases e <;> first | rfl | cases h
def dropS (ca : Act W) : ActS := fun σ E => andThen (ca σ E) fun _ E1 => some (.ok (.nx σ) E1)
theorem ps_exprG {e : Expr} {pos : Pos} {ca : Act W} (hp : plainDrop e = true) (h : PE X e (SE M W' ca)) : PS X (.Expr e pos) (SS M W' (dropS ca)) :=
  PS.imp (ps_expr h (swaps_none hp)) fun D σ H ⟨ι, E, σE, R, rs, k⟩ => ⟨ι, E, σE, R, rs, (Rs.bind k).imp fun w E1 h1 => fun ι1 H1 v x1 R1 rv => h1.ok ι1 H1 x1 R1 σ (rs.ext x1)⟩
def ifS (ct : Act Bool) (c d : ActS) : ActS := fun σ E => andThen (ct σ E) fun b E1 => if b = true then c σ E1 else d σ E1
theorem ps_ifSG {e : Expr} {a b : List Stmt} {pos : Pos} {ct : Act Bool} {c d : ActS} (h : PT X e (ST M W' ct)) (h1 : PSs X a (SS M W' c)) (h2 : PSs X b (SS M W' d)) : PS X (.If e a b pos) (SS M W' (ifS ct c d)) :=
  PS.imp (ps_if h h1 h2) fun D σ H ⟨ι, E, σE, R, rs, k⟩ => ⟨ι, E, σE, R, rs, (Rs.bind k).imp fun b E1 h1 => fun ι1 H1 x1 R1 => by
    cases b with
    | true =>
      rw [if_pos rfl] at h1 ⊢
      exact ⟨ι1, E1, σE, R1, rs.ext x1, (h1.ext x1).imp fun f E2 g => g.ext x1⟩
    | false =>
      rw [if_neg Bool.false_ne_true] at h1 ⊢
      exact ⟨ι1, E1, σE, R1, rs.ext x1, (h1.ext x1).imp fun f E2 g => g.ext x1⟩⟩
/-! ### targets -/
abbrev ActG := W → Sg → Hh → Option (Rz Sg)
abbrev ActGs := List W → Sg → Hh → Option (Rz Sg)
def SG (M : Md) (W' : WX) (c : ActG) : TG := fun v σ H Q => ∃ ι E σE w, Rel M ι E H ∧ RelS M H ι σE σ ∧ RelW M H ι w v ∧ Rs M W' ι σ H (c w σE E) fun σ1 E' => ∀ ι' H' σ', Ext M ι H ι' H' → Rel M ι' E' H' → RelS M H' ι' σ1 σ' → Q σ' H'
def SGs (M : Md) (W' : WX) (c : ActGs) : TGs := fun vs σ H Q => ∃ ι E σE ws, Rel M ι E H ∧ RelS M H ι σE σ ∧ RelWs M H ι ws vs ∧ Rs M W' ι σ H (c ws σE E) fun σ1 E' => ∀ ι' H' σ', Ext M ι H ι' H' → Rel M ι' E' H' → RelS M H' ι' σ1 σ' → Q σ' H'
theorem pg_no {e : Expr} {c : ActG} (h : ∀ w σ E, c w σ E = none) : PG X e (SG M W' c) := ⟨fun pins s σ H v u Q I r ⟨ι, E, σE, w, _, _, _, q⟩ => by
  rw [h] at q
  exact q.none.elim⟩
theorem pgs_no {e : List Expr} {c : ActGs} (h : ∀ w σ E, c w σ E = none) : PGs X e (SGs M W' c) := ⟨fun pins s σ H v u Q I r ⟨ι, E, σE, w, _, _, _, q⟩ => by
  rw [h] at q
  exact q.none.elim⟩
theorem RelS.set {σE : Sg} {σ : L2.St} {i : Nat} {w : W} {v : V} (rs : RelS M H ι σE σ) (r : RelW M H ι w v) : RelS M H ι (σE.set i (some w)) (σ.set i (some v)) := by
  refine ⟨by rw [List.length_set, List.length_set]; exact rs.1, fun j x e => ?_⟩
  by_cases hj : i = j
  · subst hj
    have hl : i < σE.length := by
      have := (List.getElem?_eq_some_iff.mp e).1
      simpa using this
    rw [List.getElem?_set_self hl] at e
    obtain rfl : w = x := by simpa using e
    exact ⟨v, List.getElem?_set_self (by rw [← rs.1]; exact hl), r⟩
  · rw [List.getElem?_set_ne hj] at e
    obtain ⟨u, e1, ru⟩ := rs.2 j x e
    exact ⟨u, by rw [List.getElem?_set_ne hj]; exact e1, ru⟩
def okLoc (Γ : Gm) (x : Str) : Bool := (Γ.names.lookup x == some .local) || (Γ.names.lookup x == some .cell && Γ.cellOk x)
def nameG (Γ : Gm) (x : Str) : ActG := fun w σ E => if okLoc Γ x = true then match ixOf x Γ.N with
  | some i => some (.ok (σ.set i (some w)) E)
  | none => none
  else none
theorem okLoc_ok {Γ : Gm} {x : Str} (a : At M Γ W' X) (h : okLoc Γ x = true) : L2.Loc X.env.scope x ∧ (X.fn x = true ∨ X.env.scope.names.lookup x = some .local) := by
  unfold okLoc at h
  rw [Bool.or_eq_true, Bool.and_eq_true] at h
  unfold L2.Loc
  rw [a.names]
  rcases h with h | ⟨h, h2⟩
  · have h : Γ.names.lookup x = some .local := by simpa using h
    exact ⟨.inl h, .inr h⟩
  · have h : Γ.names.lookup x = some .cell := by simpa using h
    exact ⟨.inr h, .inl (a.fnc x h2)⟩
theorem pg_nameG {Γ : Gm} {x : Str} {pos : Pos} (a : At M Γ W' X) : PG X (.Name x pos) (SG M W' (nameG Γ x)) := by
  by_cases hl : okLoc Γ x = true
  · cases hi : ixOf x Γ.N with
    | none => exact pg_no fun w σ E => by unfold nameG; rw [if_pos hl, hi]
    | some i =>
      obtain ⟨h1, h2⟩ := okLoc_ok a hl
      refine PG.imp (pg_name (i := i) (by rw [a.N]; exact a.nd) (by rw [a.N]; exact ixOf_ok hi) h1 h2) fun v σ H Q ⟨ι, E, σE, w, R, rs, rw', k⟩ => ?_
      unfold nameG at k
      rw [if_pos hl, hi] at k
      exact k.ok ι H _ (Ext.refl _ _) R (rs.set rw')
  · exact pg_no fun w σ E => by unfold nameG; rw [if_neg hl]
def plainTg : Expr → Bool
  | .Starred _ _ => false
  | _ => true
theorem assignEach_cons {e : Expr} {es : List Expr} {env : Env} (h : plainTg e = true) : assignEach (e :: es) env = (false, assign e env) :: assignEach es env := by
  cases e <;> first | rfl | cases h
theorem assignEach_len {env : Env} : ∀ {es : List Expr}, (assignEach es env).length = es.length
  | [] => rfl
  | e :: es => by
    have ih := @assignEach_len env es
    cases e <;> (show (_ :: assignEach es env).length = _; simp [ih])
theorem assignEach_plain {env : Env} : ∀ {es : List Expr}, es.all plainTg = true → (assignEach es env).findIdx? (·.1) = none
  | [], _ => rfl
  | e :: es, h => by
    rw [List.all_cons, Bool.and_eq_true] at h
    rw [assignEach_cons h.1, List.findIdx?_cons]
    simp [assignEach_plain h.2]
def nilG : ActGs := fun ws σ E => match ws with
  | [] => some (.ok σ E)
  | _ => none
def consG (c : ActG) (d : ActGs) : ActGs := fun ws σ E => match ws with
  | w :: r => andThen (c w σ E) fun σ1 E1 => d r σ1 E1
  | [] => none
theorem pgs_nilG : PGs X [] (SGs M W' nilG) := PGs.imp pgs_nil fun vs σ H Q ⟨ι, E, σE, ws, R, rs, rw', k⟩ => by
  cases ws with
  | nil => exact ⟨rw', k.ok ι H σ (Ext.refl _ _) R rs⟩
  | cons w r => exact k.none.elim
theorem pgs_consG {e : Expr} {es : List Expr} {c : ActG} {d : ActGs} (hW : Wind W') (hp : plainTg e = true) (h1 : PG X e (SG M W' c)) (h2 : PGs X es (SGs M W' d)) : PGs X (e :: es) (SGs M W' (consG c d)) :=
  PGs.imp (pgs_cons h1 h2 (by rw [assignEach_cons hp]; rfl)) fun vs σ H Q ⟨ι, E, σE, ws, R, rs, rw', k⟩ => by
    cases ws with
    | nil => exact k.none.elim
    | cons w r =>
      obtain ⟨v, vr, rfl, r1, r2⟩ := rw'
      exact ⟨v, vr, rfl, ι, E, σE, w, R, rs, r1, (Rs.bind k).imp fun σ1 E1 h1 => fun ι1 H1 σ' x1 R1 rs1 => ⟨ι1, E1, σ1, r, R1, rs1, r2.ext x1, ((h1.ext x1).slots hW).imp fun σ2 E2 g => fun ι2 H2 σ'' x2 => g ι2 H2 σ'' (x1.trans x2)⟩⟩
def tupG (n : Nat) (d : ActGs) : ActG := fun w σ E => match w with
  | .tup ws => if ws.length = n then d ws σ E else none
  | _ => none
theorem pg_tupG {es : List Expr} {k : Nat} {pos : Pos} {d : ActGs} (at' : X.K = M.K) (hc : X.calm = true) (hp : es.all plainTg = true) (h : PGs X es (SGs M W' d)) : PG X (.Tuple es k pos) (SG M W' (tupG es.length d)) :=
  PG.imp (pg_tup hc h assignEach_len (assignEach_plain hp)) fun v σ H Q ⟨ι, E, σE, w, R, rs, rw', k⟩ => by
    cases w with
    | tup ws =>
      obtain ⟨a, vs, rfl, ht, rws⟩ := rw'
      have k : Rs M W' ι σ H (if ws.length = es.length then d ws σE E else none) _ := k
      split at k
      · rename_i hl
        exact ⟨a, vs, rfl, by rw [at']; exact ht, by rw [← rws.length]; exact hl, ι, E, σE, ws, R, rs, rws, k⟩
      · exact k.none.elim
    | _ => exact k.none.elim
end G

set_option Elab.async false
set_option linter.all false
set_option maxRecDepth 100000
set_option maxHeartbeats 4000000
namespace G
open PySem L2 PySem.Spec PyProof.Rows
variable {M : Md} {H H' H1 H2 : Hp} {ι ι' ι1 ι2 : List Addr} {X : Cx} {W' : WX}

/-! ### stores -/
def notTup : Expr → Bool
  | .Tuple _ _ _ => false
  | _ => true
theorem swapped_none {tg e : Expr} {env : Env} (h : notTup e = true) : swappedStores [tg] e env = pure none := by
  cases e <;> first | (cases h; done) | (cases tg <;> rfl)
def asgS (ca : Act W) (g : ActG) : ActS := fun σ E => andThen (ca σ E) fun w E1 => andThen (g w σ E1) fun σ1 E2 => some (.ok (.nx σ1) E2)
theorem ps_asgG {tg e : Expr} {pos : Pos} {ca : Act W} {g : ActG} (h1 : plainDrop e = true) (h2 : notTup e = true) (h3 : plainTg tg = true) (he : PE X e (SE M W' ca)) (hg : PG X tg (SG M W' g)) : PS X (.Assign [tg] e pos) (SS M W' (asgS ca g)) :=
  PS.imp (ps_asg he hg (swaps_none h1) (swapped_none h2) (by rw [assignEach_cons h3]; rfl)) fun D σ H ⟨ι, E, σE, R, rs, k⟩ => ⟨ι, E, σE, R, rs, (Rs.bind k).imp fun w E1 h1 => fun ι1 H1 v x1 R1 rv =>
    ⟨ι1, E1, σE, w, R1, rs.ext x1, rv, (h1.bind.ext x1).imp fun σ1 E2 h2 => fun ι2 H2 σ' x2 R2 rs2 => h2.ok ι2 H2 (x1.trans x2) R2 σ' rs2⟩⟩
/-- o[i] = v, by values -/
def ixNW (n : Nat) (i : Int) : Option Nat := ixN n i
def putKW {κ : Type} [DecidableEq κ] (kvs : List (κ × W)) (k : κ) (w : W) : List (κ × W) :=
  if (kvs.any fun kv => decide (kv.1 = k)) = true then kvs.map (fun kv => if kv.1 = k then (kv.1, w) else kv) else kvs ++ [(k, w)]
theorem putKW_ok {κ : Type} [DecidableEq κ] {k : κ} {w : W} {v : V} (rv : RelW M H ι w v) {kvs : List (κ × W)} {vs : List V} (r : RelWs M H ι (kvs.map (·.2)) vs) :
    ∃ us, putK ((kvs.map (·.1)).zip vs) k v = ((putKW kvs k w).map (·.1)).zip us ∧ RelWs M H ι ((putKW kvs k w).map (·.2)) us := by
  have hany : ∀ {kvs : List (κ × W)} {vs : List V}, RelWs M H ι (kvs.map (·.2)) vs → (((kvs.map (·.1)).zip vs).any fun kv => decide (kv.1 = k)) = kvs.any fun kv => decide (kv.1 = k) := by
    intro kvs
    induction kvs with
    | nil => intro vs _; rfl
    | cons p r ih =>
      intro vs h
      obtain ⟨u, rs, rfl, h1, h2⟩ := h
      rw [List.map_cons, List.zip_cons_cons, List.any_cons, List.any_cons, ih h2]
  unfold putK putKW
  rw [hany r]
  by_cases hc : (kvs.any fun kv => decide (kv.1 = k)) = true
  · rw [if_pos hc, if_pos hc]
    have go : ∀ {kvs : List (κ × W)} {vs : List V}, RelWs M H ι (kvs.map (·.2)) vs → ∃ us, (((kvs.map (·.1)).zip vs).map fun kv => if kv.1 = k then (kv.1, v) else kv) = ((kvs.map (fun kv => if kv.1 = k then (kv.1, w) else kv)).map (·.1)).zip us ∧ RelWs M H ι ((kvs.map (fun kv => if kv.1 = k then (kv.1, w) else kv)).map (·.2)) us := by
      intro kvs
      induction kvs with
      | nil => intro vs h; exact ⟨[], rfl, rfl⟩
      | cons p r ih =>
        intro vs h
        obtain ⟨u, rs, rfl, h1, h2⟩ := h
        obtain ⟨us, e, g⟩ := ih h2
        obtain ⟨pk, pw⟩ := p
        by_cases e1 : pk = k
        · refine ⟨v :: us, ?_, v, us, by simp [e1], by simp [e1, rv], g⟩
          simp only [List.map_cons, List.zip_cons_cons, e1, if_true]
          rw [e]
        · refine ⟨u :: us, ?_, u, us, rfl, by simpa [e1] using h1, g⟩
          simp only [List.map_cons, List.zip_cons_cons, e1, if_false]
          rw [e]
    exact go r
  · rw [if_neg hc, if_neg hc]
    refine ⟨vs ++ [v], ?_, ?_⟩
    · rw [List.map_append, List.map_cons, List.map_nil, List.zip_append (by rw [List.length_map, ← r.length, List.length_map])]
      rfl
    · rw [List.map_append]
      exact r.append ⟨v, [], rfl, rv, rfl⟩
/-- a dict gets other pairs -/
theorem Fin.putK {E : Hh} {i : Nat} {a : Addr} {xs ws : List (Key × W)} {us vs : List V} {Q : Hp → Prop} (R : Rel M ι E H) (ha : ι[i]? = some a) (he : (E : List O)[i]? = some (.dK xs)) (hu : H a = some (.dK ((xs.map (·.1)).zip us))) (r : RelWs M H ι (ws.map (·.2)) vs)
    (k : ∀ ι' H', Ext M ι H ι' H' → Rel M ι' ((E : List O).set i (.dK ws)) H' → Q H') : Q (upd H a (.dK ((ws.map (·.1)).zip vs))) := by
  obtain ⟨R', x⟩ := Rel.put (o := .dK ws) (ho := .dK ((ws.map (·.1)).zip vs)) R ha he rfl (fun q hq => by rw [hu] at hq; cases hq; exact ⟨fun _ z => (nomatch z), fun _ _ z => (nomatch z)⟩) rfl fun x => ⟨vs, upd_same, r.ext x⟩
  exact k _ _ x R'
def dKOf (E : Hh) : W → Option (Nat × List (Key × W))
  | .ref i => match (E : List O)[i]? with
    | some (.dK kvs) => some (i, kvs)
    | _ => none
  | _ => none
theorem dK_ok {E : Hh} (R : Rel M ι E H) {w : W} {i : Nat} {ws : List (Key × W)} {v : V} (h : dKOf E w = some (i, ws)) (r : RelW M H ι w v) :
    ∃ a vs, ι[i]? = some a ∧ (E : List O)[i]? = some (.dK ws) ∧ v = .ref a ∧ H a = some (.dK ((ws.map (·.1)).zip vs)) ∧ RelWs M H ι (ws.map (·.2)) vs := by
  cases w with
  | ref j =>
    obtain ⟨a, ha, e⟩ := r
    unfold dKOf at h; dsimp only at h
    cases he : (E : List O)[j]? with
    | none => simp [he] at h
    | some o =>
      have ro := R.at he ha
      rw [he] at h
      cases o with
      | dK xs =>
        obtain ⟨rfl, rfl⟩ : j = i ∧ xs = ws := by simpa using h
        obtain ⟨vs, h1, h2⟩ := ro
        exact ⟨a, vs, ha, he, e, h1, h2⟩
      | slst xs => cases h
      | lst kvs => cases h
      | dN kvs => cases h
      | sdN kvs => cases h
      | sdK kvs => cases h
      | exc b => cases h
      | cup b => cases h
  | _ => cases h
def wSet (o i w : W) (E : Hh) : Option Hh := match lstOf E o with
  | some (n, ws) => match i with
    | .int k => match ixN ws.length k with
      | some j => some (E.set n (.lst (ws.set j w)))
      | none => none
    | _ => none
  | none => match dKOf E o with
    | some (n, kvs) => match keyOf i with
      | some k => if kvs.length ≤ few then some (E.set n (.dK (putKW kvs k w))) else none
      | none => none
    | none => none
def rSetD : V → V → V → Hp → (Hp → Prop) → Prop := fun o i v H Q => ∃ a H', o = .ref a ∧ DPut H a i v H' ∧ Q H'
theorem set_dict (hu : X.A.units + 1 < cLine) : PSet X rSetD := by
  intro pins s σ H o i v ov iv u Q I ro ri rv h
  obtain ⟨a, H', rfl, g, q⟩ := h
  obtain rfl : ov = Value.ref a := ro
  exact d_setItem hu I g ri rv fun s4 I4 => ⟨H', I4, q⟩
def rSetAll : V → V → V → Hp → (Hp → Prop) → Prop := fun o i v H Q => rSetL o i v H Q ∨ rSetD o i v H Q
theorem set_all (hu : X.A.units + 1 < cLine) : PSet X rSetAll := by
  intro pins s σ H o i v ov iv u Q I ro ri rv h
  rcases h with h | h
  · exact set_list pins s σ H o i v ov iv u Q I ro ri rv h
  · exact set_dict hu pins s σ H o i v ov iv u Q I ro ri rv h
theorem set_ok {E E' : Hh} {o i w : W} {ov iv v : V} {Q : Hp → Prop} (h : wSet o i w E = some E') (R : Rel M ι E H) (ro : RelW M H ι o ov) (ri : RelW M H ι i iv) (rv : RelW M H ι w v)
    (k : ∀ ι' H', Ext M ι H ι' H' → Rel M ι' E' H' → Q H') : rSetAll ov iv v H Q := by
  unfold wSet at h
  cases e1 : lstOf E o with
  | some p =>
    obtain ⟨n, ws⟩ := p
    rw [e1] at h
    dsimp only at h
    obtain ⟨a, vs, _, ha, he, rfl, h1, rws⟩ := lst_ok R e1 ro
    cases i with
    | int j =>
      dsimp only at h
      cases e2 : ixN ws.length j with
      | none => rw [e2] at h; cases h
      | some m =>
        rw [e2] at h
        obtain rfl : E.set n (.lst (ws.set m w)) = E' := Option.some.inj h
        exact .inl ⟨a, vs, j, m, rfl, ri, h1, by rw [← rws.length]; exact e2, Fin.putL R ha he h1 (rws.set m rv) k⟩
    | _ => cases h
  | none =>
    rw [e1] at h
    dsimp only at h
    cases e2 : dKOf E o with
    | none => rw [e2] at h; cases h
    | some p =>
      obtain ⟨n, kvs⟩ := p
      rw [e2] at h
      dsimp only at h
      cases e3 : keyOf i with
      | none => rw [e3] at h; cases h
      | some key =>
        rw [e3] at h
        dsimp only at h
        split at h
        · rename_i hl
          obtain rfl : E.set n (.dK (putKW kvs key w)) = E' := Option.some.inj h
          obtain ⟨a, vs, ha, he, rfl, h1, rws⟩ := dK_ok R e2 ro
          obtain ⟨us, e4, rus⟩ := putKW_ok (k := key) rv rws
          refine .inr ⟨a, _, rfl, .inl ⟨_, key, h1, keyOf_ok e3 ri, ?_, rfl⟩, ?_⟩
          · rw [List.length_zip, List.length_map, ← rws.length, List.length_map, Nat.min_self]
            exact few_lt hl
          · rw [e4]
            exact Fin.putK R ha he h1 rus k
        · cases h
def subG (co ci : Act W) : ActG := fun w σ E => andThen (co σ E) fun o E1 => andThen (ci σ E1) fun i E2 => match wSet o i w E2 with
  | some E3 => some (.ok σ E3)
  | none => none
theorem pg_subG {o i : Expr} {pos : Pos} {co ci : Act W} (hu : X.A.units + 1 < cLine) (hp : plainIx i = true) (ho : PE X o (SE M W' co)) (hi : PE X i (SE M W' ci)) : PG X (.Subscript o i pos) (SG M W' (subG co ci)) := by
  refine PG.imp (pg_sub ho hi (set_all hu) (by cases i <;> first | (intro v; rfl) | cases hp)) fun v σ H Q ⟨ι, E, σE, w, R, rs, rv, k⟩ => ⟨ι, E, σE, R, rs, (Rs.bind k).imp fun o E1 h1 => fun ι1 H1 ov x1 R1 ro => ⟨ι1, E1, σE, R1, rs.ext x1, (h1.bind.ext x1).imp fun i E2 h2 => fun ι2 H2 iv x2 R2 ri => ?_⟩⟩
  cases e : wSet o i w E2 with
  | none => rw [e] at h2; exact h2.none.elim
  | some E3 =>
    rw [e] at h2
    exact set_ok e R2 (ro.ext x2) ri ((rv.ext x1).ext x2) fun ι3 H3 x3 R3 => h2.ok ι3 H3 σ ((x1.trans x2).trans x3) R3 (rs.ext ((x1.trans x2).trans x3))
/-- x op= e, of ints -/
def augOp (op : Operator) (x y : W) : Option W := match op, x, y with
  | .Add, .int i, .int j => some (.int (i + j))
  | .Sub, .int i, .int j => some (.int (i - j))
  | _, _, _ => none
def addSub : Operator → Bool
  | .Add => true
  | .Sub => true
  | _ => false
def augS (Γ : Gm) (x : Str) (op : Operator) (ca : Act W) : ActS := fun σ E => if okLoc Γ x = true ∧ addSub op = true then match ixOf x Γ.N with
  | some i => match (σ : List (Option W))[i]? with
    | some (some w) => andThen (ca σ E) fun y E1 => match augOp op w y with
      | some z => some (.ok (.nx (σ.set i (some z))) E1)
      | none => none
    | _ => none
  | none => none
  else none
theorem ps_augG {Γ : Gm} {x : Str} {e : Expr} {op : Operator} {pos pos' : Pos} {ca : Act W} (a : At M Γ W' X) (he : PE X e (SE M W' ca)) : PS X (.AugAssign (.Name x pos') op e pos) (SS M W' (augS Γ x op ca)) := by
  by_cases hl : okLoc Γ x = true ∧ addSub op = true
  · cases hi : ixOf x Γ.N with
    | none => exact ps_no fun σ E => by unfold augS; rw [if_pos hl, hi]
    | some i =>
      obtain ⟨h1, h2⟩ := okLoc_ok a hl.1
      have go : ∀ {f : Int → Int → Int}, PIp X op (ipI f) → (∀ w y z, augOp op w y = some z → ∃ i j, w = .int i ∧ y = .int j ∧ z = .int (f i j)) → PS X (.AugAssign (.Name x pos') op e pos) (SS M W' (augS Γ x op ca)) := fun {f} ip hop => by
        refine PS.imp (ps_aug (i := i) (by rw [a.N]; exact a.nd) (by rw [a.N]; exact ixOf_ok hi) h1 he ip h2) fun D σ H ⟨ι, E, σE, R, rs, k⟩ => ?_
        unfold augS at k
        rw [if_pos hl, hi] at k
        dsimp only at k
        cases hs : (σE : List (Option W))[i]? with
        | none => rw [hs] at k; exact k.none.elim
        | some o =>
          rw [hs] at k
          cases o with
          | none => exact k.none.elim
          | some w =>
            obtain ⟨v, ev, rv⟩ := rs.2 i w hs
            refine ⟨v, ev, ι, E, σE, R, rs, (Rs.bind k).imp fun y E1 h1 => fun ι1 H1 u x1 R1 ru => ?_⟩
            cases ez : augOp op w y with
            | none => rw [ez] at h1; exact h1.none.elim
            | some z =>
              rw [ez] at h1
              obtain ⟨i1, j1, rfl, rfl, rfl⟩ := hop w y z ez
              exact ⟨i1, j1, rv, ru, h1.ok ι1 H1 x1 R1 _ ((rs.ext x1).set rfl)⟩
      cases op with
      | Add => exact go ip_add fun w y z h => by cases w <;> cases y <;> simp [augOp] at h; exact ⟨_, _, rfl, rfl, h.symm⟩
      | Sub => exact go ip_sub fun w y z h => by cases w <;> cases y <;> simp [augOp] at h; exact ⟨_, _, rfl, rfl, h.symm⟩
      | _ => exact absurd hl.2 Bool.false_ne_true
  · exact ps_no fun σ E => by unfold augS; rw [if_neg hl]
end G

set_option Elab.async false
set_option linter.all false
set_option maxRecDepth 100000
set_option maxHeartbeats 4000000
namespace G
open PySem L2 PySem.Spec PyProof.Rows
variable {M : Md} {H H' H1 H2 : Hp} {ι ι' ι1 ι2 : List Addr} {X : Cx} {W' : WX}

/-! ### while -/
def loopW (ct : Act Bool) (body : ActS) : Nat → ActS
  | 0 => fun _ _ => none
  | k + 1 => fun σ E => andThen (ct σ E) fun b E1 => if b = true then andThen (body σ E1) fun f E2 => match f with
      | .nx σ1 => loopW ct body k σ1 E2
      | .ct σ1 => loopW ct body k σ1 E2
      | .bk σ1 => some (.ok (.nx σ1) E2)
      | .rt w => some (.ok (.rt w) E2)
    else some (.ok (.nx σ) E1)
theorem ps_whileG {e : Expr} {body : List Stmt} {pos : Pos} {ct : Act Bool} {c : ActS} {n : Nat} (hW : Wind W') (own : PassesOwn (model X.prog X.w) X.A X.env X.xe) (he : PT X e (ST M W' ct)) (hb : PSs X body (SS M W' c)) : PS X (.While e body [] pos) (SS M W' (loopW ct c n)) := by
  refine PS.imp (ps_while own he hb) fun D σ H ⟨ι, E, σE, R, rs, k⟩ => ?_
  refine ⟨fun m σ H => ∃ ι E σE, Rel M ι E H ∧ RelS M H ι σE σ ∧ Rs M W' ι σ H (loopW ct c m σE E) fun f E' => Good M D ι H f E', ⟨n, ι, E, σE, R, rs, k⟩, ?_⟩
  rintro m σ H ⟨ι, E, σE, R, rs, k⟩
  cases m with
  | zero => exact k.none.elim
  | succ m =>
    refine ⟨ι, E, σE, R, rs, (Rs.bind k).imp fun b E1 h1 => fun ι1 H1 x1 R1 => ?_⟩
    cases b with
    | true =>
      rw [if_pos rfl] at h1 ⊢
      refine ⟨fun σ' H' => ∃ ι E σE, Rel M ι E H' ∧ RelS M H' ι σE σ' ∧ Rs M W' ι σ' H' (loopW ct c m σE E) fun f E' => Good M D ι H' f E', fun σ' H' q => ⟨m, Nat.lt_succ_self m, q⟩, ι1, E1, σE, R1, rs.ext x1, (h1.bind.ext x1).imp fun f E2 h2 => fun ι2 H2 x2 R2 => ?_⟩
      have xx := x1.trans x2
      cases f with
      | nx σ1 => exact fun σ' rs2 => ⟨ι2, E2, σ1, R2, rs2, ((Rs.ext h2 xx).slots hW).imp fun f E3 g => g.ext xx⟩
      | ct σ1 => exact fun σ' rs2 => ⟨ι2, E2, σ1, R2, rs2, ((Rs.ext h2 xx).slots hW).imp fun f E3 g => g.ext xx⟩
      | bk σ1 => exact fun σ' rs2 => h2.ok ι2 H2 xx R2 σ' rs2
      | rt w => exact fun v rv => h2.ok ι2 H2 xx R2 v rv
    | false =>
      rw [if_neg Bool.false_ne_true] at h1 ⊢
      exact h1.ok ι1 H1 x1 R1 σ (rs.ext x1)

/-! ### what is walked -/
/-- a list that must stay as it is, a dict that is locked -/
inductive Lk where
  | l (i : Nat) (ws : List W) | d (i : Nat) (kvs : List (W × W))
  deriving Inhabited
/-- its items, and the lists that must stay as they are meanwhile -/
structure Src where
  ws : List W
  ls : List Lk
  deriving Inhabited
def same2 : List W → List W → Bool
  | [], [] => true
  | _ :: a, _ :: b => same2 a b
  | _, _ => false
mutual
def wEq : W → W → Bool
  | .non, .non => true
  | .bl a, .bl b => a == b
  | .int a, .int b => a == b
  | .str a, .str b => decide (a = b)
  | .tup a, .tup b => wEqs a b
  | .ref a, .ref b => a == b
  | .fn a, .fn b => decide (a = b)
  | .ty a, .ty b => a == b
  | _, _ => false
def wEqs : List W → List W → Bool
  | [], [] => true
  | x :: a, y :: b => wEq x y && wEqs a b
  | _, _ => false
end
mutual
theorem wEq_ok : ∀ {a b : W}, wEq a b = true → a = b
  | .non, b, h => by cases b <;> first | rfl | (simp [wEq] at h)
  | .bl a, b, h => by cases b <;> simp [wEq] at h; rw [h]
  | .int a, b, h => by cases b <;> simp [wEq] at h; rw [h]
  | .str a, b, h => by cases b <;> simp [wEq] at h; rw [h]
  | .tup a, b, h => by
    cases b <;> simp [wEq] at h
    rw [wEqs_ok h]
  | .ref a, b, h => by cases b <;> simp [wEq] at h; rw [h]
  | .fn a, b, h => by cases b <;> simp [wEq] at h; rw [h]
  | .ty a, b, h => by cases b <;> simp [wEq] at h; rw [h]
theorem wEqs_ok : ∀ {a b : List W}, wEqs a b = true → a = b
  | [], b, h => by cases b <;> first | rfl | (simp [wEqs] at h)
  | x :: a, b, h => by
    cases b with
    | nil => simp [wEqs] at h
    | cons y b =>
      simp [wEqs] at h
      rw [wEq_ok h.1, wEqs_ok h.2]
end
def pEqs : List (W × W) → List (W × W) → Bool
  | [], [] => true
  | p :: a, q :: b => wEq p.1 q.1 && (wEq p.2 q.2 && pEqs a b)
  | _, _ => false
theorem pEqs_ok : ∀ {a b : List (W × W)}, pEqs a b = true → a = b
  | [], b, h => by cases b <;> first | rfl | (simp [pEqs] at h)
  | p :: a, b, h => by
    cases b with
    | nil => simp [pEqs] at h
    | cons q b =>
      simp [pEqs] at h
      obtain ⟨h1, h2, h3⟩ := h
      rw [pEqs_ok h3, show p = q from Prod.ext (wEq_ok h1) (wEq_ok h2)]
def stay1 (E : Hh) : Lk → Bool
  | .l i ws => match seqOf E (.ref i) with
    | some us => wEqs us ws
    | none => false
  | .d i kvs => match (E : List O)[i]? with
    | some (.sdN us) => pEqs us kvs
    | _ => false
/-- the lists are as they were -/
def stay (E : Hh) : List Lk → Bool
  | [] => true
  | l :: r => stay1 E l && stay E r
theorem stay_in {E : Hh} : ∀ {ls : List Lk} {l : Lk}, stay E ls = true → l ∈ ls → stay1 E l = true
  | u :: r, l, h, hm => by
    unfold stay at h
    rw [Bool.and_eq_true] at h
    rcases List.mem_cons.mp hm with e | hm
    · rw [e]; exact h.1
    · exact stay_in h.2 hm
theorem stay_at {E : Hh} {ls : List Lk} {i : Nat} {ws : List W} (h : stay E ls = true) (hm : Lk.l i ws ∈ ls) : seqOf E (.ref i) = some ws := by
  have h1 := stay_in h hm
  unfold stay1 at h1
  dsimp only at h1
  cases e2 : seqOf E (.ref i) with
  | none => rw [e2] at h1; cases h1
  | some vs =>
    rw [e2] at h1
    rw [wEqs_ok h1]
theorem stay_dict {E : Hh} {ls : List Lk} {i : Nat} {kvs : List (W × W)} (h : stay E ls = true) (hm : Lk.d i kvs ∈ ls) : (E : List O)[i]? = some (.sdN kvs) := by
  have h1 := stay_in h hm
  unfold stay1 at h1
  dsimp only at h1
  split at h1
  · rename_i us e
    rw [e, pEqs_ok h1]
  · cases h1
/-- an iterator gives these items, turn by turn -/
structure Walks (M : Md) (J : It) (ι1 : List Addr) (H1 : Hp) (s : Src) : Prop where
  go : ∀ i ι' E' H', i < s.ws.length → Ext M ι1 H1 ι' H' → Rel M ι' E' H' → stay E' s.ls = true → J.go i H'
  stop : ∀ ι' E' H', Ext M ι1 H1 ι' H' → Rel M ι' E' H' → stay E' s.ls = true → J.stop s.ws.length H'
  yld : ∀ i ι' E' H' x H'', i < s.ws.length → Ext M ι1 H1 ι' H' → Rel M ι' E' H' → stay E' s.ls = true → J.yld i H' x H'' → Rel M ι' E' H'' ∧ Ext M ι' H' ι' H'' ∧ ∃ w, s.ws[i]? = some w ∧ RelW M H'' ι' w x
def SI (M : Md) (W' : WX) (c : Act Src) : TI := fun σ H R' => ∃ ι E σE, Rel M ι E H ∧ RelS M H ι σE σ ∧ Rs M W' ι σ H (c σE E) fun s E' => ∀ ι1 H1 J, Ext M ι H ι1 H1 → Rel M ι1 E' H1 → Walks M J ι1 H1 s → R' J H1
theorem PI.imp {tg e : Expr} {t t' : TI} (h : PI X tg e t) (i : ∀ σ H R, t' σ H R → t σ H R) : PI X tg e t' := ⟨fun pins s σ H R I q => h.run pins s σ H R I (i σ H R q)⟩
theorem pi_no {tg e : Expr} {c : Act Src} (h : ∀ σ E, c σ E = none) : PI X tg e (SI M W' c) := ⟨fun pins s σ H Q I ⟨ι, E, σE, _, _, q⟩ => by
  rw [h] at q
  exact q.none.elim⟩
/-! ### for -/
def loopF (ls : List Lk) (g : ActG) (body : ActS) : List W → ActS
  | [] => fun σ E => if stay E ls = true then some (.ok (.nx σ) E) else none
  | w :: r => fun σ E => if stay E ls = true then andThen (g w σ E) fun σ1 E1 => andThen (body σ1 E1) fun f E2 => match f with
      | .nx σ2 => loopF ls g body r σ2 E2
      | .ct σ2 => loopF ls g body r σ2 E2
      | .bk σ2 => some (.ok (.nx σ2) E2)
      | .rt w => some (.ok (.rt w) E2)
    else none
def forS (ci : Act Src) (g : ActG) (body : ActS) : ActS := fun σ E => andThen (ci σ E) fun s E1 => loopF s.ls g body s.ws σ E1
theorem drop_cons {α : Type} {l : List α} {i : Nat} {w : α} (h : l[i]? = some w) : l.drop i = w :: l.drop (i + 1) := by
  obtain ⟨hi, e⟩ := List.getElem?_eq_some_iff.mp h
  rw [List.drop_eq_getElem_cons hi, e]
theorem ps_forG {tg e : Expr} {body : List Stmt} {pos : Pos} {ci : Act Src} {g : ActG} {c : ActS} (hW : Wind W') (own : PassesOwn (model X.prog X.w) X.A X.env X.xe) (hc : X.calm = true) (hi : PI X tg e (SI M W' ci)) (hg : PG X tg (SG M W' g)) (hb : PSs X body (SS M W' c))
    (hs : ∀ x, foldedSetIterable e X.env x = pure x) : PS X (.For tg e body [] pos) (SS M W' (forS ci g c)) := by
  refine PS.imp (ps_for own hc hi hg hb hs) fun D σ H ⟨ι, E, σE, R, rs, k⟩ => ⟨ι, E, σE, R, rs, (Rs.bind k).imp fun s E1 h1 => fun ι1 H1 J x1 R1 wk => ?_⟩
  let Inv' : Nat → L2.St → Hp → Prop := fun i σ H' => ∃ ι' E' σE, Ext M ι1 H1 ι' H' ∧ Rel M ι' E' H' ∧ RelS M H' ι' σE σ ∧ Rs M W' ι' σ H' (loopF s.ls g c (s.ws.drop i) σE E') fun f E2 => Good M D ι' H' f E2
  refine ⟨fun i m σ H' => m = s.ws.length - i ∧ i ≤ s.ws.length ∧ Inv' i σ H', ⟨s.ws.length, by simp, Nat.zero_le _, ι1, E1, σE, Ext.refl _ _, R1, rs.ext x1, by
    rw [List.drop_zero]
    exact (h1.ext x1).imp fun f E2 g => g.ext x1⟩, ?_⟩
  rintro i m σ H' ⟨rfl, hle, ι', E', σE, x', R', rs', k'⟩
  by_cases hlt : i < s.ws.length
  · obtain ⟨w0, hw0⟩ : ∃ w, s.ws[i]? = some w := ⟨_, List.getElem?_eq_getElem hlt⟩
    rw [drop_cons hw0] at k'
    unfold loopF at k'
    by_cases hst : stay E' s.ls = true
    · rw [if_pos hst] at k'
      refine .inr ⟨wk.go i ι' E' H' hlt x' R' hst, fun σ2 H2 => Inv' (i + 1) σ2 H2, fun σ2 H2 q => ⟨s.ws.length - (i + 1), by omega, rfl, hlt, q⟩, fun x H'' y => ?_⟩
      obtain ⟨R'', x'', w, hw, rx⟩ := wk.yld i ι' E' H' x H'' hlt x' R' hst y
      obtain rfl : w0 = w := by rw [hw0] at hw; exact Option.some.inj hw
      refine ⟨ι', E', σE, w0, R'', rs'.ext x'', rx, ((Rs.bind k').ext x'').imp fun σ1 E2 h2 => fun ι2 H2 σ' x2 R2 rs2 => ?_⟩
      have y2 := x''.trans x2
      refine ⟨ι2, E2, σ1, R2, rs2, ((h2.bind.ext y2).slots hW).imp fun f E3 h3 => fun ι3 H3 x3 R3 => ?_⟩
      have y3 := y2.trans x3
      cases f with
      | nx σ2 => exact fun σ'' rs3 => ⟨ι3, E3, σ2, x'.trans y3, R3, rs3, ((Rs.ext h3 y3).slots hW).imp fun f E4 g => g.ext y3⟩
      | ct σ2 => exact fun σ'' rs3 => ⟨ι3, E3, σ2, x'.trans y3, R3, rs3, ((Rs.ext h3 y3).slots hW).imp fun f E4 g => g.ext y3⟩
      | bk σ2 => exact fun σ'' rs3 => h3.ok ι3 H3 y3 R3 σ'' rs3
      | rt w => exact fun v rv => h3.ok ι3 H3 y3 R3 v rv
    · rw [if_neg hst] at k'
      exact k'.none.elim
  · have e : i = s.ws.length := by omega
    subst e
    rw [List.drop_length] at k'
    unfold loopF at k'
    by_cases hst : stay E' s.ls = true
    · rw [if_pos hst] at k'
      exact .inl ⟨wk.stop ι' E' H' x' R' hst, k'.ok ι' H' (Ext.refl _ _) R' σ rs'⟩
    · rw [if_neg hst] at k'
      exact k'.none.elim
end G

set_option Elab.async false
set_option linter.all false
set_option maxRecDepth 100000
set_option maxHeartbeats 4000000
namespace G
open PySem L2 PySem.Spec PyProof.Rows
variable {M : Md} {H H' H1 H2 : Hp} {ι ι' ι1 ι2 : List Addr} {X : Cx} {W' : WX}

/-! ### a list, a tuple, a text -/
def iSeq (K : PySem.W.Frag) (tl : TE) : TI := fun σ H R => tl σ H fun x H1 => (∃ a, x = .ref a ∧ (∃ xs, SqL K H1 a xs) ∧ R (Itl K a) H1) ∨ ((∃ a, x = .ref a ∧ (∃ xs, SqT K H1 a xs) ∧ R (Itt K a) H1) ∨ ∃ z, x = .str z ∧ R (Its z) H1)
theorem pi_seq {tg l : Expr} {tl : TE} (hl : PE X l tl) : PI X tg l (iSeq X.K tl) := by
  refine ⟨fun pins s σ H R I h => ?_⟩
  refine thn (hl.run pins s σ H _ I h) fun v s1 ⟨x, H1, I1, r1, q1⟩ => ?_
  rcases q1 with ⟨a, e, ⟨xs, hq⟩, q⟩ | ⟨a, e, ⟨xs, hq⟩, q⟩ | ⟨z, e, q⟩
  · subst e
    cases r1
    obtain ⟨its, rv, p, hz⟩ := I1.list hq
    refine wpAny_pyIter_list p.isList ?_
    refine ⟨s1.heap.objs.size, [s1.heap.objs.size], _, _, H1, rfl, I1.kept (t' := s1.toks) fun b o e => Heap.get?_push_of_some _ e, turn_list a _, ⟨_, Heap.get?_push_size _ rfl, rfl, rfl⟩, fun b hb => ?_, q⟩
    have e : b = s1.heap.objs.size := by simpa using hb
    subst e
    exact I1.fpOk (Nat.le_refl _) (I1.hok.fresh (Nat.le_refl _))
  · subst e
    cases r1
    obtain ⟨its, rv, p, hz⟩ := I1.tuple hq
    refine wpAny_pyIter_tuple (show s1.heap.IsTuple a its.toArray from p) ?_
    refine ⟨s1.heap.objs.size, [s1.heap.objs.size], _, _, H1, rfl, I1.kept (t' := s1.toks) fun b o e => Heap.get?_push_of_some _ e, turn_tuple a _, ⟨_, Heap.get?_push_size _ rfl, rfl, rfl⟩, fun b hb => ?_, q⟩
    have e : b = s1.heap.objs.size := by simpa using hb
    subst e
    exact I1.fpOk (Nat.le_refl _) (I1.hok.fresh (Nat.le_refl _))
  · subst e
    obtain ⟨t, rfl⟩ := r1
    cases ha : z.cps.all (· < 128)
    · exact wpAny_pyIter_wide ha (pi_one (tk := s1.toks) I1 _ (turn_str _ z t "str_iterator" (.inr rfl)) ⟨_, Heap.get?_push_size _ rfl, rfl, rfl⟩ q)
    · exact wpAny_pyIter_ascii ha (pi_one (tk := s1.toks) I1 _ (turn_str _ z t "str_ascii_iterator" (.inl rfl)) ⟨_, Heap.get?_push_size _ rfl, rfl, rfl⟩ q)
/-- the value's items, and what must stay -/
def srcOf (E : Hh) : W → Option Src
  | .tup ws => some ⟨ws, []⟩
  | .ref i => (seqOf E (.ref i)).map fun ws => ⟨ws, [.l i ws]⟩
  | .str s => some ⟨s.cps.toList.map fun c => .str ⟨#[c]⟩, []⟩
  | _ => none
theorem SqL.one {K : PySem.W.Frag} {a : Addr} {xs ys : List V} (I : ∀ zs, SqL K H a zs → zs = ys) (h : SqL K H a xs) : xs = ys := I xs h
/-- what a list holds is told once, up to the written part: an own list is told by the heap alone -/
theorem at_ref {E : Hh} (R : Rel M ι E H) {i : Nat} {ws : List W} {a : Addr} (h : seqOf E (.ref i) = some ws) (ha : ι[i]? = some a) : ∃ vs, SqL M.K H a vs ∧ RelWs M H ι ws vs := by
  obtain ⟨b, vs, e, hq, r⟩ := seq_ref R h (show RelW M H ι (.ref i) (.ref a) from ⟨a, ha, rfl⟩)
  obtain rfl : a = b := by simpa using e
  exact ⟨vs, hq, r⟩
theorem walks_list {E : Hh} (R : Rel M ι E H) {i : Nat} {ws : List W} {a : Addr} (h : seqOf E (.ref i) = some ws) (ha : ι[i]? = some a) : Walks M (Itl M.K a) ι H ⟨ws, [.l i ws]⟩ where
  go := fun j ι' E' H' hj x R' st => by
    obtain ⟨vs, hq, r⟩ := at_ref R' (stay_at st (List.mem_singleton.mpr rfl)) (pre_get x.pre ha)
    obtain ⟨v, hv, _⟩ := r.get (List.getElem?_eq_getElem hj)
    exact ⟨vs, v, hq, hv⟩
  stop := fun ι' E' H' x R' st => by
    obtain ⟨vs, hq, r⟩ := at_ref R' (stay_at st (List.mem_singleton.mpr rfl)) (pre_get x.pre ha)
    exact ⟨vs, hq, by rw [← r.length]; exact Nat.le_refl _⟩
  yld := fun j ι' E' H' v H'' hj x R' st y => by
    obtain ⟨vs, hq, r⟩ := at_ref R' (stay_at st (List.mem_singleton.mpr rfl)) (pre_get x.pre ha)
    obtain ⟨rfl, y⟩ := y
    obtain ⟨u, hu, ru⟩ := r.get (List.getElem?_eq_getElem hj)
    have e := y vs hq
    rw [hu] at e
    obtain rfl := Option.some.inj e
    exact ⟨R', Ext.refl _ _, ws[j], List.getElem?_eq_getElem hj, ru⟩
theorem walks_tup {ws : List W} {a : Addr} {vs : List V} (hq : SqT M.K H a vs) (r : RelWs M H ι ws vs) : Walks M (Itt M.K a) ι H ⟨ws, []⟩ where
  go := fun j ι' E' H' hj x R' st => by
    obtain ⟨v, hv, _⟩ := r.get (List.getElem?_eq_getElem hj)
    exact ⟨vs, v, x.tup _ _ hq, hv⟩
  stop := fun ι' E' H' x R' st => ⟨vs, x.tup _ _ hq, by rw [← r.length]; exact Nat.le_refl _⟩
  yld := fun j ι' E' H' v H'' hj x R' st y => by
    obtain ⟨rfl, y⟩ := y
    obtain ⟨u, hu, ru⟩ := r.get (List.getElem?_eq_getElem hj)
    have e := y vs (x.tup _ _ hq)
    rw [hu] at e
    obtain rfl := Option.some.inj e
    exact ⟨R', Ext.refl _ _, ws[j], List.getElem?_eq_getElem hj, ru.ext x⟩
theorem walks_str {s : Str} : Walks M (Its s) ι H ⟨s.cps.toList.map fun c => .str ⟨#[c]⟩, []⟩ where
  go := fun j ι' E' H' hj x R' st => by
    have hj : j < (s.cps.toList.map fun c => (.str ⟨#[c]⟩ : W)).length := hj
    rw [List.length_map, Array.length_toList] at hj
    exact hj
  stop := fun ι' E' H' x R' st => by
    show s.cps.size ≤ (s.cps.toList.map fun c => (.str ⟨#[c]⟩ : W)).length
    rw [List.length_map, Array.length_toList]
    exact Nat.le_refl _
  yld := fun j ι' E' H' v H'' hj x R' st y => by
    obtain ⟨rfl, c, hc, rfl⟩ := y
    refine ⟨R', Ext.refl _ _, .str ⟨#[c]⟩, ?_, rfl⟩
    show (s.cps.toList.map fun c => (.str ⟨#[c]⟩ : W))[j]? = _
    rw [List.getElem?_map, Array.getElem?_toList, hc]
    rfl
def seqI (ca : Act W) : Act Src := fun σ E => andThen (ca σ E) fun x E1 => match srcOf E1 x with
  | some s => some (.ok s E1)
  | none => none
theorem pi_seqG {tg l : Expr} {ca : Act W} (at' : X.K = M.K) (hl : PE X l (SE M W' ca)) : PI X tg l (SI M W' (seqI ca)) :=
  PI.imp (pi_seq hl) fun σ H R' ⟨ι, E, σE, R, rs, k⟩ => ⟨ι, E, σE, R, rs, (Rs.bind k).imp fun x E1 h1 => fun ι1 H1 v x1 R1 rx => by
    rw [at']
    cases x with
    | tup ws =>
      obtain ⟨a, vs, rfl, ht, rws⟩ := rx
      exact .inr (.inl ⟨a, rfl, ⟨vs, ht⟩, h1.ok ι1 H1 _ x1 R1 (walks_tup ht rws)⟩)
    | str s => exact .inr (.inr ⟨s, rx, h1.ok ι1 H1 _ x1 R1 walks_str⟩)
    | ref i =>
      obtain ⟨a, ha, rfl⟩ := rx
      cases e : seqOf E1 (.ref i) with
      | none =>
        have h1 : Rs M W' ι σ H (match (seqOf E1 (.ref i)).map fun ws => (⟨ws, [.l i ws]⟩ : Src) with
          | some s => some (.ok s E1)
          | none => none) _ := h1
        rw [e] at h1
        exact h1.none.elim
      | some ws =>
        have h1 : Rs M W' ι σ H (match (seqOf E1 (.ref i)).map fun ws => (⟨ws, [.l i ws]⟩ : Src) with
          | some s => some (.ok s E1)
          | none => none) _ := h1
        rw [e] at h1
        obtain ⟨vs, hq, _⟩ := at_ref R1 e ha
        exact .inl ⟨a, rfl, ⟨vs, hq⟩, h1.ok ι1 H1 _ x1 R1 (walks_list R1 e ha)⟩
    | _ => exact h1.none.elim⟩
/-! ### range -/
def two62 : Int := 4611686018427387904
theorem two62_eq : two62 = 2 ^ 62 := by decide
def rngSrc (lo : Int) (n : Nat) : Src := ⟨(List.range n).map fun (i : Nat) => (.int (lo + (i : Int)) : W), []⟩
theorem walks_rng {lo : Int} {n : Nat} : Walks M (Itr lo n) ι H (rngSrc lo n) where
  go := fun j ι' E' H' hj x R' st => by
    have hj : j < ((List.range n).map fun (i : Nat) => (.int (lo + (i : Int)) : W)).length := hj
    rw [List.length_map, List.length_range] at hj
    exact hj
  stop := fun ι' E' H' x R' st => by
    show n ≤ ((List.range n).map fun (i : Nat) => (.int (lo + (i : Int)) : W)).length
    rw [List.length_map, List.length_range]
    exact Nat.le_refl _
  yld := fun j ι' E' H' v H'' hj x R' st y => by
    have hj : j < ((List.range n).map fun (i : Nat) => (.int (lo + (i : Int)) : W)).length := hj
    rw [List.length_map, List.length_range] at hj
    obtain ⟨rfl, rfl⟩ := y
    refine ⟨R', Ext.refl _ _, .int (lo + j), ?_, rfl⟩
    show ((List.range n).map fun (i : Nat) => (.int (lo + (i : Int)) : W))[j]? = _
    rw [List.getElem?_map, List.getElem?_range hj]
    rfl
theorem Rs.one {α : Type} {σ : L2.St} {G : α → Hh → Prop} {xs : List W} {f : W → Option (Rz α)} (h : Rs M W' ι σ H (match xs with
    | [x] => f x
    | _ => Option.none) G) : ∃ x, xs = [x] ∧ Rs M W' ι σ H (f x) G := by
  match xs, h with
  | [x], h => exact ⟨x, rfl, h⟩
  | [], h => exact h.none.elim
  | _ :: _ :: _, h => exact h.none.elim
def rng1F (E1 : Hh) : W → Option (Rz Src)
  | .int j => if -two62 ≤ j ∧ j < two62 then some (.ok (rngSrc 0 j.toNat) E1) else none
  | _ => none
def rng1I (ca : Act (List W)) : Act Src := fun σ E => andThen (ca σ E) fun xs E1 => match xs with
  | [x] => rng1F E1 x
  | _ => none
theorem pi_rng1G {tg a : Expr} {p pos : Pos} {ca : Act (List W)} (hg : Gl X "range") (hm : X.mg "range" = none) (hp : plainArg a = true) (ha : PA X [a] (SA M W' ca)) : PI X tg (.Call (.Name "range" p) [a] [] pos) (SI M W' (rng1I ca)) :=
  PI.imp (pi_range1 hg hm ha (starEach_cons hp)) fun σ H R' ⟨ι, E, σE, R, rs, k⟩ => ⟨ι, E, σE, R, rs, (Rs.bind k).imp fun xs E1 h1 => fun ι1 H1 vs x1 R1 rws => by
    obtain ⟨x, rfl, h2⟩ := Rs.one h1
    obtain ⟨v, rfl, rv⟩ := one_ok rws
    cases x with
    | int j =>
      unfold rng1F at h2
      dsimp only at h2
      split at h2
      · rename_i hc
        rw [two62_eq] at hc
        exact ⟨j, by rw [show v = .int j from rv], hc.1, hc.2, h2.ok ι1 H1 _ x1 R1 walks_rng⟩
      · exact h2.none.elim
    | _ => exact h2.none.elim⟩
/-! ### enumerate of a list, zip of two lists or of two tuples -/
def enumSrc (s : Src) : Src := ⟨s.ws.mapIdx fun i w => .tup [.int i, w], s.ls⟩
theorem walks_enum {E : Hh} (R : Rel M ι E H) {i : Nat} {ws : List W} {a : Addr} (h : seqOf E (.ref i) = some ws) (ha : ι[i]? = some a) : Walks M (Ite M.K a) ι H (enumSrc ⟨ws, [.l i ws]⟩) where
  go := fun j ι' E' H' hj x R' st => by
    have hj : j < (ws.mapIdx fun i w => (.tup [.int i, w] : W)).length := hj
    rw [List.length_mapIdx] at hj
    obtain ⟨vs, hq, r⟩ := at_ref R' (stay_at st (List.mem_singleton.mpr rfl)) (pre_get x.pre ha)
    obtain ⟨v, hv, _⟩ := r.get (List.getElem?_eq_getElem hj)
    exact ⟨vs, v, hq, hv⟩
  stop := fun ι' E' H' x R' st => by
    obtain ⟨vs, hq, r⟩ := at_ref R' (stay_at st (List.mem_singleton.mpr rfl)) (pre_get x.pre ha)
    refine ⟨vs, hq, ?_⟩
    show vs.length ≤ (ws.mapIdx fun i w => (.tup [.int i, w] : W)).length
    rw [List.length_mapIdx, ← r.length]
    exact Nat.le_refl _
  yld := fun j ι' E' H' v H'' hj x R' st y => by
    have hj : j < (ws.mapIdx fun i w => (.tup [.int i, w] : W)).length := hj
    rw [List.length_mapIdx] at hj
    obtain ⟨vs, hq, r⟩ := at_ref R' (stay_at st (List.mem_singleton.mpr rfl)) (pre_get x.pre ha)
    obtain ⟨T, z, rfl, hT, rfl, y⟩ := y
    obtain ⟨u, hu, ru⟩ := r.get (List.getElem?_eq_getElem hj)
    have e := y vs hq
    rw [hu] at e
    obtain rfl := Option.some.inj e
    obtain ⟨R'', x''⟩ := Rel.newT (ho := .tup [.int (j : Nat), u]) R' hT
    refine ⟨R'', x'', .tup [.int j, ws[j]], ?_, T, [.int j, u], rfl, SqT.of upd_same, .int j, [u], rfl, rfl, u, [], rfl, ru.ext x'', rfl⟩
    show (ws.mapIdx fun i w => (.tup [.int i, w] : W))[j]? = _
    rw [List.getElem?_mapIdx, List.getElem?_eq_getElem hj]
    rfl
def enumI (ca : Act (List W)) : Act Src := fun σ E => andThen (ca σ E) fun xs E1 => match xs with
  | [.ref i] => match seqOf E1 (.ref i) with
    | some ws => some (.ok (enumSrc ⟨ws, [.l i ws]⟩) E1)
    | none => none
  | _ => none
theorem pi_enumG {elts : List Expr} {kk : Nat} {tpos : Pos} {a : Expr} {p pos : Pos} {ca : Act (List W)} (at' : X.K = M.K) (hg : Gl X "enumerate") (hm : X.mg "enumerate" = none) (hp : plainArg a = true) (ha : PA X [a] (SA M W' ca)) :
    PI X (.Tuple elts kk tpos) (.Call (.Name "enumerate" p) [a] [] pos) (SI M W' (enumI ca)) :=
  PI.imp (pi_enum hg hm ha (starEach_cons hp)) fun σ H R' ⟨ι, E, σE, R, rs, k⟩ => ⟨ι, E, σE, R, rs, (Rs.bind k).imp fun xs E1 h1 => fun ι1 H1 vs x1 R1 rws => by
    have key : ∃ i ws, xs = [.ref i] ∧ seqOf E1 (.ref i) = some ws ∧ Rs M W' ι σ H (some (.ok (enumSrc ⟨ws, [.l i ws]⟩) E1)) (fun s E' => ∀ ι1 H1 J, Ext M ι H ι1 H1 → Rel M ι1 E' H1 → Walks M J ι1 H1 s → R' J H1) := by
      match xs, h1 with
      | [.ref i], h1 =>
        cases e : seqOf E1 (.ref i) with
        | none => dsimp only at h1; rw [e] at h1; exact h1.none.elim
        | some ws => dsimp only at h1; rw [e] at h1; exact ⟨i, ws, rfl, e, h1⟩
      | [], h1 => exact h1.none.elim
      | [.non], h1 => exact h1.none.elim
      | [.bl _], h1 => exact h1.none.elim
      | [.str _], h1 => exact h1.none.elim
      | [.tup _], h1 => exact h1.none.elim
      | [.int _], h1 => exact h1.none.elim
      | [.fn _], h1 => exact h1.none.elim
      | [.ty _], h1 => exact h1.none.elim
      | a :: b :: c, h1 => cases a <;> exact h1.none.elim
    obtain ⟨i, ws, rfl, e, h2⟩ := key
    obtain ⟨v, rfl, rv⟩ := one_ok rws
    obtain ⟨a, ha, rfl⟩ := rv
    obtain ⟨us, hq, r⟩ := at_ref R1 e ha
    rw [at']
    exact ⟨a, us, rfl, hq, h2.ok ι1 H1 _ x1 R1 (walks_enum R1 e ha)⟩⟩
end G

set_option Elab.async false
set_option linter.all false
set_option maxRecDepth 100000
set_option maxHeartbeats 4000000
namespace G
open PySem L2 PySem.Spec PyProof.Rows
variable {M : Md} {H H' H1 H2 : Hp} {ι ι' ι1 ι2 : List Addr} {X : Cx} {W' : WX}

/-! ### a list or a tuple (true), as zip and enumerate walk it -/
def SqB (K : PySem.W.Frag) : Bool → Hp → Addr → List V → Prop
  | true => SqT K
  | false => SqL K
def IsB : Bool → Heap → Addr → Array Value → Prop
  | true => fun h a its => h.IsTuple a its
  | false => fun h a its => h.IsList a its
def ItB : Bool → Heap → Addr → Addr → Nat → Prop
  | true => fun h it a i => h.IsTupleIter it a i
  | false => fun h it a i => h.IsListIter it a i
def obB : Bool → Addr → Obj
  | true => fun a => { cls := .type "tuple_iterator", data := .fields #[.ref a, .int 0 0] }
  | false => fun a => { cls := .type "list_iterator", data := .fields #[.ref a, .int 0 0] }
theorem seqB_of {pins : List (Addr × Obj)} {σ : L2.St} {s : Shared} {k : Bool} {a : Addr} {xs : List V} (I : Inv X pins σ H s) (h : SqB X.K k H a xs) : ∃ its, Vals xs its ∧ IsB k s.heap a its.toArray := by
  cases k with
  | true => obtain ⟨its, rv, p, _⟩ := I.tuple h; exact ⟨its, rv, p⟩
  | false => obtain ⟨its, rv, p, _⟩ := I.list h; exact ⟨its, rv, p.isList⟩
theorem seqB_one {pins : List (Addr × Obj)} {σ : L2.St} {s : Shared} {k : Bool} {a : Addr} {xs ys : List V} (I : Inv X pins σ H s) (h : SqB X.K k H a xs) (g : SqB X.K k H a ys) : xs = ys := by
  cases k with
  | true => exact I.tuple_inj h g
  | false => exact I.list_inj h g
theorem drawsB {P : Program} {w : World} {A : Around} (hh : A.handled = none) (k : Bool) (it a : Addr) (hne : a ≠ it) (its : Array Value) :
    Draws P w A it [it, a] its.size (fun i v => its[i]? = some v) (fun i h => ItB k h it a i ∧ IsB k h a its) := by
  cases k with
  | true => exact Draws.tuple hh it a hne its
  | false => exact Draws.list hh it a hne its
theorem beginsB (k : Bool) (a : Addr) (its : Array Value) : Begins (.ref a) (obB k a) fun h => IsB k h a its := by
  cases k with
  | true => exact begins_tuple a its
  | false => exact begins_list a its
theorem itB_new {k : Bool} {h : Heap} {it a : Addr} (e : h.get? it = some (obB k a)) : ItB k h it a 0 := by
  cases k with
  | true => exact ⟨_, e, rfl, rfl⟩
  | false => exact ⟨_, e, rfl, rfl⟩
theorem itB_keep {k : Bool} {h h' : Heap} {it a : Addr} {i : Nat} (st : ItB k h it a i) (q : ∀ o, h.get? it = some o → h'.get? it = some o) : ItB k h' it a i := by
  cases k with
  | true => exact Heap.IsTupleIter.at st q
  | false => exact Heap.IsListIter.at st q
theorem itB_obj {k : Bool} {h : Heap} {it a : Addr} {i : Nat} (st : ItB k h it a i) : ∃ o, h.get? it = some o ∧ ∀ v, o.data ≠ .cell v := by
  cases k with
  | true => obtain ⟨o, e, _, d⟩ := st; exact ⟨o, e, fun v q => by rw [d] at q; cases q⟩
  | false => obtain ⟨o, e, _, d⟩ := st; exact ⟨o, e, fun v q => by rw [d] at q; cases q⟩
theorem isB_lt {k : Bool} {h : Heap} {a : Addr} {its : Array Value} (st : IsB k h a its) : a < h.objs.size := by
  cases k with
  | true => obtain ⟨o, e, _⟩ := st; exact Heap.lt_size e
  | false => obtain ⟨o, e, _⟩ := st; exact Heap.lt_size e
/-! ### zip -/
def ItzB (K : PySem.W.Frag) (k1 k2 : Bool) (a b : Addr) : It where
  go i H := ∃ (xs ys : List V) (x y : V), SqB K k1 H a xs ∧ SqB K k2 H b ys ∧ xs[i]? = some x ∧ ys[i]? = some y
  yld i H v H' := ∃ T x y, v = .ref T ∧ H T = none ∧ H' = upd H T (.tup [x, y]) ∧ (∀ xs, SqB K k1 H a xs → xs[i]? = some x) ∧ ∀ ys, SqB K k2 H b ys → ys[i]? = some y
  stop i H := ∃ (xs ys : List V), SqB K k1 H a xs ∧ SqB K k2 H b ys ∧ i ≤ xs.length ∧ i ≤ ys.length ∧ (i = xs.length ∨ i = ys.length)
theorem turn_zipB {P : Program} {w : World} {K : PySem.W.Frag} {elts : List Expr} {kk : Nat} {tpos : Pos} {k1 k2 : Bool} {a b z TI TO i1 i2 : Addr} (D : ZipSep2 z TI TO i1 i2 [i1, a] [i2, b]) (na : a ≠ i1) (nb : b ≠ i2) :
    Turn P w K (.Tuple elts kk tpos) (ItzB K k1 k2 a b) [z, TI, TO, i1, i2] z (fun i h => IsZip h z TI TO .none ∧ IsTupOf2 h TI (.ref i1) (.ref i2) ∧ (∃ x y, IsTupOf2 h TO x y) ∧ ItB k1 h i1 a i ∧ ItB k2 h i2 b i) where
  mem := List.mem_cons_self ..
  obj := fun i h ⟨hz, hI, ⟨x, y, hO⟩, h1, h2⟩ c hc => by
    simp only [List.mem_cons, List.not_mem_nil, or_false] at hc
    rcases hc with rfl | rfl | rfl | rfl | rfl
    · exact ⟨_, hz, fun v q => nomatch q⟩
    · exact ⟨_, hI, fun v q => nomatch q⟩
    · exact ⟨_, hO, fun v q => nomatch q⟩
    · exact itB_obj h1
    · exact itB_obj h2
  keep := fun i h h' ⟨hz, hI, ⟨x, y, hO⟩, h1, h2⟩ k => ⟨k z (by simp) _ hz, k TI (by simp) _ hI, ⟨x, y, k TO (by simp) _ hO⟩, itB_keep h1 fun o q => k i1 (by simp) o q, itB_keep h2 fun o q => k i2 (by simp) o q⟩
  item := by
    rintro X rfl rfl rfl hc i pins s σ H E I hf ⟨hz, hI, ⟨x0, y0, hO⟩, h1, h2⟩ ⟨xs, ys, x, y, qx, qy, hx, hy⟩
    obtain ⟨ux, rv, p⟩ := seqB_of I qx
    obtain ⟨uy, rv2, p2⟩ := seqB_of I qy
    obtain ⟨u, hu, ru⟩ := rv.get hx
    obtain ⟨u2, hu2, ru2⟩ := rv2.get hy
    have hh : X.A.in1.handled = none := I.ok.hd hc
    have lz : z < s.heap.objs.size := Heap.lt_size hz
    have l1 : i < ux.toArray.size := by simpa using (List.getElem?_eq_some_iff.mp hu).1
    have l2 : i < uy.toArray.size := by simpa using (List.getElem?_eq_some_iff.mp hu2).1
    refine wpAny_pyNext_zipD2_item D (drawsB hh k1 i1 a na _) (drawsB hh k2 i2 b nb _) hz hI hO ⟨h1, p⟩ ⟨h2, p2⟩ l1 l2 fun v1 v2 h' tk e1 e2 z' O' s1 s2 hT hsz hk => ?_
    have e1 : u = v1 := Option.some.inj (by rw [← hu, ← e1]; simp)
    have e2 : u2 = v2 := Option.some.inj (by rw [← hu2, ← e2]; simp)
    subst e1 e2
    refine ⟨_, rfl, wpAny_letOwnedTupleGo_zip (s := { s with heap := h', toks := tk }) z' fun h'' z'' sb => ?_⟩
    have hT2 : h''.get? s.heap.objs.size = some { cls := .type "tuple", data := .seq #[u, u2] } := (sb.2 _ (Nat.ne_of_gt lz)).trans hT
    have new : ObjOk X.prog X.w (upd H s.heap.objs.size (.tup [x, y])) h'' s.heap.objs.size (.tup [x, y]) := ⟨(by decide : (2 : Nat) ≤ sizeLine), _, .cons ru (.cons ru2 .nil), _, hT2, rfl, _, rfl⟩
    have ks : ∀ c o, c ∉ [z, TI, TO, i1, i2] → s.heap.get? c = some o → h''.get? c = some o := fun c o hc q => by
      simp only [List.mem_cons, List.not_mem_nil, or_false, not_or] at hc
      exact (sb.2 c hc.1).trans (hk c o hc.1 hc.2.2.1 hc.2.2.2.1 hc.2.2.2.2 q)
    have I1 : Inv X pins σ (upd H s.heap.objs.size (.tup [x, y])) { s with heap := h'', toks := tk } := I.turnedNew ks hf (Nat.le_refl _) new
    refine ⟨.ref s.heap.objs.size, _, I1, rfl, ⟨_, x, y, rfl, I.hok.fresh (Nat.le_refl _), rfl, fun l hl => by rw [seqB_one I hl qx]; exact hx, fun l hl => by rw [seqB_one I hl qy]; exact hy⟩, ⟨z'', (sb.2 _ D.TIz).trans (hk _ _ D.TIz D.TITO D.TIi1 D.TIi2 hI), ⟨u, u2, (sb.2 _ D.TOz).trans O'⟩, itB_keep s1.1 fun o q => (sb.2 _ (Ne.symm D.zi1)).trans q, itB_keep s2.1 fun o q => (sb.2 _ (Ne.symm D.zi2)).trans q⟩, fun c hcm => ?_⟩
    have lt : c < s.heap.objs.size := by
      simp only [List.mem_cons, List.not_mem_nil, or_false] at hcm
      rcases hcm with rfl | rfl | rfl | rfl | rfl
      · exact lz
      · exact Heap.lt_size hI
      · exact Heap.lt_size hO
      · obtain ⟨_, e, _⟩ := itB_obj h1; exact Heap.lt_size e
      · obtain ⟨_, e, _⟩ := itB_obj h2; exact Heap.lt_size e
    rw [upd_ne (Nat.ne_of_lt lt)]
    exact (hf c hcm).1
  done := by
    rintro X rfl rfl rfl hc i pins s σ H E I hf ⟨hz, hI, ⟨x0, y0, hO⟩, h1, h2⟩ ⟨xs, ys, qx, qy, b1, b2, b3⟩
    obtain ⟨ux, rv, p⟩ := seqB_of I qx
    obtain ⟨uy, rv2, p2⟩ := seqB_of I qy
    have hh : X.A.in1.handled = none := I.ok.hd hc
    have e1 : ux.toArray.size = xs.length := by rw [rv.length]; simp
    have e2 : uy.toArray.size = ys.length := by rw [rv2.length]; simp
    refine wpAny_pyNext_zipD2_end D (drawsB hh k1 i1 a na _) (drawsB hh k2 i2 b nb _) hz hI hO ⟨h1, p⟩ ⟨h2, p2⟩ (by rw [e1]; exact b1) (by rw [e2]; exact b2) (by rw [e1, e2]; exact b3) fun h' tk hk => ⟨rfl, I.turnedL (fun c o hc q => ?_) hf⟩
    simp only [List.mem_cons, List.not_mem_nil, or_false, not_or] at hc
    exact hk c o hc.1 hc.2.2.1 hc.2.2.2.1 hc.2.2.2.2 q
  self := fun A i s Q E st h => wpAny_pyIter_zip st.1 h
theorem fresh_fp {pins : List (Addr × Obj)} {σ : L2.St} {s : Shared} {c : Addr} (I : Inv X pins σ H s) (h : s.heap.objs.size ≤ c) : FpOk X pins H c := I.fpOk h (I.hok.fresh h)
def iZipB (K : PySem.W.Frag) (ta : TA) : TI := fun σ H R => ta σ H fun vs H1 => ∃ k1 k2 a b xs ys, vs = [.ref a, .ref b] ∧ SqB K k1 H1 a xs ∧ SqB K k2 H1 b ys ∧ R (ItzB K k1 k2 a b) H1
theorem pi_zipB {e e2 : Expr} {ta : TA} {p pos tpos : Pos} {elts : List Expr} {kk : Nat} (hg : Gl X "zip") (hm : X.mg "zip" = none) (hp : [e, e2].all plainArg = true) (ha : PA X [e, e2] ta) :
    PI X (.Tuple elts kk tpos) (.Call (.Name "zip" p) [e, e2] [] pos) (iZipB X.K ta) := ⟨fun pins s σ H R I h => by
  rw [List.all_cons, Bool.and_eq_true] at hp
  refine Call_ (ld_blt I hg hm PyProof.Rows.boot_zip (PyProof.Rows.callWith_type1 (thn (ha.run pos pins s σ H _ I h) fun us s1 hr => ?_) (starEach_cons hp.1) (starEach_plain hp.2)))
  obtain ⟨vs, H1, I1, r1, k1, k2, a, b, xs, ys, rfl, qx, qy, q⟩ := hr
  obtain ⟨v, v2, rfl, ra, rb⟩ : ∃ v v2, us = [v, v2] ∧ RelV (.ref a) v ∧ RelV (.ref b) v2 := by
    cases r1 with
    | cons r rr => cases rr with
      | cons r' rr => cases rr; exact ⟨_, _, rfl, r, r'⟩
  cases ra
  cases rb
  obtain ⟨ux, rv, px⟩ := seqB_of I1 qx
  obtain ⟨uy, rv2, py⟩ := seqB_of I1 qy
  have l1 := isB_lt px
  have l2 := isB_lt py
  refine zip_begins2 (beginsB k1 a _) (beginsB k2 b _) px py fun h' z' I' O' j1 j2 hsz hk => wpAny_pyIter_zip z' ?_
  have I2 : Inv X pins σ H1 { s1 with heap := h' } := I1.kept (t' := s1.toks) hk
  refine ⟨_, _, _, _, H1, rfl, I2, turn_zipB (i1 := s1.heap.objs.size) (i2 := s1.heap.objs.size + 1) (zip_sep2 (N := s1.heap.objs.size) (fun c hc => by rw [List.mem_singleton.mp hc]; exact l1) (fun c hc => by rw [List.mem_singleton.mp hc]; exact l2)) (Nat.ne_of_lt l1) (Nat.ne_of_lt (Nat.lt_succ_of_lt l2)), ⟨z', I', ⟨_, _, O'⟩, itB_new j1, itB_new j2⟩, fun c hc => fresh_fp I1 ?_, q⟩
  simp only [List.mem_cons, List.not_mem_nil, or_false] at hc
  rcases hc with rfl | rfl | rfl | rfl | rfl
  · exact Nat.le_add_right _ _
  · exact Nat.le_add_right _ _
  · exact Nat.le_add_right _ _
  · exact Nat.le_refl _
  · exact Nat.le_add_right _ _⟩
/-! ### enumerate -/
theorem meets_enumB {v : Value} {o : Obj} {G : Heap → Prop} (B : Begins v o G) :
    Meets (Builtin.«enumerate.__new__» ⟨[.type "enumerate", v], []⟩) (fun _ R s => G s.heap ∧ R (.ok (.ret (.ref (s.heap.push o).objs.size))) { s with heap := (s.heap.push o).push { cls := .type "enumerate", data := .fields #[.none, .bool false, .ref s.heap.objs.size, rawInt 0, .none, .none] } }) :=
  .of_wp fun P w A R ⟨hp, g, d, tk, os⟩ ⟨h1, h⟩ => by
    have hsub := sub_enumerate
    have bg : ∀ {B' : Around} {E Q : Value → Shared → Prop}, Q (.ref hp.objs.size) ⟨hp.push o, g, d, tk, os⟩ → wpAny (model P w) B' (pyIter v) Q E ⟨hp, g, d, tk, os⟩ := fun q => B.iter P w _ _ ⟨hp, g, d, tk, os⟩ _ h1 q
    wp_walk using bg
    refine wpAny_stack_any fun st => wpAny_pure ?_
    split
    · rename_i c _ _ _ _ _
      cases (c == Value.type "enumerate") <;> (wp_walk using bg; exact ⟨_, rfl, h⟩)
    · wp_walk using bg
      exact ⟨_, rfl, h⟩
theorem enum_beginsB {P : Program} {w : World} {A : Around} {E : Value → Shared → Prop} {s : Shared} {v : Value} {o : Obj} {G : Heap → Prop} {Q : Value → Shared → Prop} (B : Begins v o G) (h1 : G s.heap)
    (h : ∀ h', IsEnum h' (s.heap.objs.size + 1) s.heap.objs.size 0 .none → h'.get? s.heap.objs.size = some o → (∀ b q, s.heap.get? b = some q → h'.get? b = some q) → Q (.ref (s.heap.objs.size + 1)) { s with heap := h' }) :
    wpAny (model P w) A (call (.type "enumerate") [v]) Q E s := by
  refine callType_new F.called_enumerate (by decide) (F.typeCall_enumerate_1 _) (F.newCall_enumerate_1 _) (fun x => F.args_object_init_2 x _) F.entry_enumerate_new (meets_enumB B) ⟨h1, ?_⟩
  have hz : (s.heap.push o).objs.size = s.heap.objs.size + 1 := Heap.size_push ..
  let ob : Obj := { cls := .type "enumerate", data := .fields #[.none, .bool false, .ref s.heap.objs.size, rawInt 0, .none, .none] }
  have he : IsEnum ((s.heap.push o).push ob) (s.heap.objs.size + 1) s.heap.objs.size 0 .none := by
    have q := Heap.get?_push_size (s.heap.push o) (o := ob) rfl
    rw [hz] at q
    exact q
  show _ ∧ _
  rw [hz]
  exact ⟨⟨_, he, rfl⟩, h _ he (Heap.get?_push_of_some _ (Heap.get?_push_size _ B.free)) fun b q x => Heap.get?_push_of_some _ (Heap.get?_push_of_some _ x)⟩
def IteB (K : PySem.W.Frag) (k : Bool) (a : Addr) : It where
  go i H := ∃ (xs : List V) (x : V), SqB K k H a xs ∧ xs[i]? = some x
  yld i H v H' := ∃ T x, v = .ref T ∧ H T = none ∧ H' = upd H T (.tup [.int (i : Nat), x]) ∧ ∀ xs, SqB K k H a xs → xs[i]? = some x
  stop i H := ∃ xs : List V, SqB K k H a xs ∧ xs.length = i
theorem turn_enumB {P : Program} {w : World} {K : PySem.W.Frag} {elts : List Expr} {kk : Nat} {tpos : Pos} {k : Bool} {a e it : Addr} (ne : e ≠ it) (na : a ≠ it) (nea : e ≠ a) :
    Turn P w K (.Tuple elts kk tpos) (IteB K k a) [e, it] e (fun i h => (∃ old, IsEnum h e it (i : Int) old) ∧ ItB k h it a i) where
  mem := List.mem_cons_self ..
  obj := fun i h ⟨⟨old, he⟩, h1⟩ c hc => by
    simp only [List.mem_cons, List.not_mem_nil, or_false] at hc
    rcases hc with rfl | rfl
    · exact ⟨_, he, fun v q => nomatch q⟩
    · exact itB_obj h1
  keep := fun i h h' ⟨⟨old, he⟩, h1⟩ k => ⟨⟨old, k e (by simp) _ he⟩, itB_keep h1 fun o q => k it (by simp) o q⟩
  item := by
    rintro X rfl rfl rfl hc i pins s σ H E I hf ⟨⟨old, he⟩, h1⟩ ⟨xs, x, qx, hx⟩
    obtain ⟨ux, rv, p⟩ := seqB_of I qx
    obtain ⟨u, hu, ru⟩ := rv.get hx
    have hh : X.A.in1.handled = none := I.ok.hd hc
    have le : e < s.heap.objs.size := Heap.lt_size he
    have l1 : i < ux.toArray.size := by simpa using (List.getElem?_eq_some_iff.mp hu).1
    refine wpAny_pyNext_enum_itemC (drawsB hh k it a na _) he ⟨h1, p⟩ l1 ne (by simp [ne, nea]) fun v1 h' tk e1 ho s1 hT hsz hk => ?_
    have e1 : u = v1 := Option.some.inj (by rw [← hu, ← e1]; simp)
    subst e1
    refine ⟨_, rfl, wpAny_letOwnedTupleGo_enum (s := { s with heap := h', toks := tk + 1 }) ho fun h'' he' sb => ?_⟩
    have hT2 : h''.get? s.heap.objs.size = some { cls := .type "tuple", data := .seq #[.int i tk, u] } := (sb.2 _ (Nat.ne_of_gt le)).trans hT
    have new : ObjOk X.prog X.w (upd H s.heap.objs.size (.tup [.int (i : Nat), x])) h'' s.heap.objs.size (.tup [.int (i : Nat), x]) := ⟨(by decide : (2 : Nat) ≤ sizeLine), _, .cons ⟨_, rfl⟩ (.cons ru .nil), _, hT2, rfl, _, rfl⟩
    have ks : ∀ c o, c ∉ [e, it] → s.heap.get? c = some o → h''.get? c = some o := fun c o hc q => by
      simp only [List.mem_cons, List.not_mem_nil, or_false, not_or] at hc
      exact (sb.2 c hc.1).trans (hk c o hc.1 hc.2 q)
    have I1 : Inv X pins σ (upd H s.heap.objs.size (.tup [.int (i : Nat), x])) { s with heap := h'', toks := tk + 1 } := I.turnedNew ks hf (Nat.le_refl _) new
    refine ⟨.ref s.heap.objs.size, _, I1, rfl, ⟨_, x, rfl, I.hok.fresh (Nat.le_refl _), rfl, fun l hl => by rw [seqB_one I hl qx]; exact hx⟩, ⟨⟨u, ?_⟩, itB_keep s1.1 fun o q => (sb.2 _ (Ne.symm ne)).trans q⟩, fun c hcm => ?_⟩
    · rw [show ((i + 1 : Nat) : Int) = (i : Int) + 1 by omega]
      exact he'
    have lt : c < s.heap.objs.size := by
      simp only [List.mem_cons, List.not_mem_nil, or_false] at hcm
      rcases hcm with rfl | rfl
      · exact le
      · obtain ⟨_, e, _⟩ := itB_obj h1; exact Heap.lt_size e
    rw [upd_ne (Nat.ne_of_lt lt)]
    exact (hf c hcm).1
  done := by
    rintro X rfl rfl rfl hc i pins s σ H E I hf ⟨⟨old, he⟩, h1⟩ ⟨xs, qx, e1⟩
    obtain ⟨ux, rv, p⟩ := seqB_of I qx
    have hh : X.A.in1.handled = none := I.ok.hd hc
    have e2 : ux.toArray.size = i := by rw [← e1, rv.length]; simp
    refine wpAny_pyNext_enum_endD (drawsB hh k it a na ux.toArray) he (by rw [e2]; exact ⟨h1, p⟩) fun h' hk => ⟨rfl, I.turnedL (t' := s.toks) (fun c o hc q => ?_) hf⟩
    simp only [List.mem_cons, List.not_mem_nil, or_false, not_or] at hc
    exact hk c o hc.2 q
  self := fun A i s Q E st h => by
    obtain ⟨⟨_, he⟩, _⟩ := st
    exact wpAny_pyIter_enum he h
def iEnumB (K : PySem.W.Frag) (ta : TA) : TI := fun σ H R => ta σ H fun vs H1 => ∃ k a xs, vs = [.ref a] ∧ SqB K k H1 a xs ∧ R (IteB K k a) H1
theorem pi_enumB {e : Expr} {ta : TA} {p pos tpos : Pos} {elts : List Expr} {kk : Nat} (hg : Gl X "enumerate") (hm : X.mg "enumerate" = none) (hp : plainArg e = true) (ha : PA X [e] ta) :
    PI X (.Tuple elts kk tpos) (.Call (.Name "enumerate" p) [e] [] pos) (iEnumB X.K ta) := ⟨fun pins s σ H R I h => by
  refine Call_ (ld_blt I hg hm PyProof.Rows.boot_enumerate (PyProof.Rows.callWith_type1 (thn (ha.run pos pins s σ H _ I h) fun us s1 hr => ?_) (starEach_cons hp) rfl))
  obtain ⟨vs, H1, I1, r1, k, a, xs, rfl, qx, q⟩ := hr
  obtain ⟨v, rfl, ra⟩ : ∃ v, us = [v] ∧ RelV (.ref a) v := by
    cases r1 with
    | cons r rr => cases rr; exact ⟨_, rfl, r⟩
  cases ra
  obtain ⟨ux, rv, px⟩ := seqB_of I1 qx
  have l1 := isB_lt px
  refine enum_beginsB (beginsB k a _) px fun h' z' j1 hk => wpAny_pyIter_enum z' ?_
  have I2 : Inv X pins σ H1 { s1 with heap := h' } := I1.kept (t' := s1.toks) hk
  refine ⟨_, _, _, _, H1, rfl, I2, turn_enumB (it := s1.heap.objs.size) (Nat.succ_ne_self _) (Nat.ne_of_lt l1) (Nat.ne_of_gt (Nat.lt_succ_of_lt l1)), ⟨⟨.none, z'⟩, itB_new j1⟩, fun c hc => fresh_fp I1 ?_, q⟩
  simp only [List.mem_cons, List.not_mem_nil, or_false] at hc
  rcases hc with rfl | rfl
  · exact Nat.le_add_right _ _
  · exact Nat.le_refl _⟩
/-! ### what they give -/
/-- the sequence at a gives these items, as long as its lists stay -/
def Stands (M : Md) (ι1 : List Addr) (H1 : Hp) (k : Bool) (a : Addr) (s : Src) : Prop := ∀ ι' E' H', Ext M ι1 H1 ι' H' → Rel M ι' E' H' → stay E' s.ls = true → ∃ vs, SqB M.K k H' a vs ∧ RelWs M H' ι' s.ws vs
def srcSq (E : Hh) : W → Option Src
  | .tup ws => some ⟨ws, []⟩
  | .ref i => match seqOf E (.ref i) with
    | some ws => some ⟨ws, [.l i ws]⟩
    | none => none
  | _ => none
theorem wEq_refl : ∀ w : W, wEq w w = true := by
  intro w
  induction w using W.rec (motive_2 := fun ws => wEqs ws ws = true) with
  | non => rfl
  | bl b => simp [wEq]
  | int b => simp [wEq]
  | str b => simp [wEq]
  | tup ws ih => simpa [wEq] using ih
  | ref i => simp [wEq]
  | fn x => simp [wEq]
  | ty n => simp [wEq]
  | nil => rfl
  | cons a b iha ihb => simp [wEqs, iha, ihb]
theorem wEqs_refl : ∀ ws : List W, wEqs ws ws = true
  | [] => rfl
  | w :: ws => by simp [wEqs, wEq_refl w, wEqs_refl ws]
theorem srcSq_ok {E : Hh} {x : W} {s : Src} {v : V} (R : Rel M ι E H) (rx : RelW M H ι x v) (e : srcSq E x = some s) : ∃ k a xs, v = .ref a ∧ SqB M.K k H a xs ∧ Stands M ι H k a s := by
  cases x with
  | tup ws =>
    obtain rfl := Option.some.inj e
    obtain ⟨a, vs, rfl, hq, r⟩ := rx
    exact ⟨true, a, vs, rfl, hq, fun ι' E' H' y R' _ => ⟨vs, y.tup _ _ hq, r.ext y⟩⟩
  | ref i =>
    unfold srcSq at e
    dsimp only at e
    cases eq : seqOf E (.ref i) with
    | none => rw [eq] at e; cases e
    | some ws =>
      rw [eq] at e
      obtain rfl := Option.some.inj e
      obtain ⟨a, ha, rfl⟩ := rx
      obtain ⟨vs, hq, _⟩ := at_ref R eq ha
      exact ⟨false, a, vs, rfl, hq, fun ι' E' H' y R' st => at_ref R' (stay_at st (List.mem_singleton.mpr rfl)) (pre_get y.pre ha)⟩
  | _ => cases e
theorem stay_append {E : Hh} {l1 l2 : List Lk} : stay E (l1 ++ l2) = (stay E l1 && stay E l2) := by
  induction l1 with
  | nil => rfl
  | cons p r ih => rw [List.cons_append, stay, stay, ih, Bool.and_assoc]
def zipSrc (s t : Src) : Src := ⟨List.zipWith (fun x y => .tup [x, y]) s.ws t.ws, s.ls ++ t.ls⟩
theorem walks_zipB {k1 k2 : Bool} {a b : Addr} {s t : Src} (h1 : Stands M ι H k1 a s) (h2 : Stands M ι H k2 b t) : Walks M (ItzB M.K k1 k2 a b) ι H (zipSrc s t) := by
  have two : ∀ {ι' E' H'}, Ext M ι H ι' H' → Rel M ι' E' H' → stay E' (s.ls ++ t.ls) = true → ∃ vs us, SqB M.K k1 H' a vs ∧ RelWs M H' ι' s.ws vs ∧ SqB M.K k2 H' b us ∧ RelWs M H' ι' t.ws us := fun {ι' E' H'} x R st => by
    rw [stay_append, Bool.and_eq_true] at st
    obtain ⟨vs, q1, r1⟩ := h1 ι' E' H' x R st.1
    obtain ⟨us, q2, r2⟩ := h2 ι' E' H' x R st.2
    exact ⟨vs, us, q1, r1, q2, r2⟩
  have len : (zipSrc s t).ws.length = min s.ws.length t.ws.length := List.length_zipWith
  refine ⟨fun j ι' E' H' hj x R st => ?_, fun ι' E' H' x R st => ?_, fun j ι' E' H' v H'' hj x R st y => ?_⟩
  · obtain ⟨vs, us, q1, r1, q2, r2⟩ := two x R st
    rw [len] at hj
    obtain ⟨v, hv, _⟩ := r1.get (List.getElem?_eq_getElem (Nat.lt_of_lt_of_le hj (Nat.min_le_left _ _)))
    obtain ⟨u, hu, _⟩ := r2.get (List.getElem?_eq_getElem (Nat.lt_of_lt_of_le hj (Nat.min_le_right _ _)))
    exact ⟨vs, us, v, u, q1, q2, hv, hu⟩
  · obtain ⟨vs, us, q1, r1, q2, r2⟩ := two x R st
    have e1 := r1.length
    have e2 := r2.length
    rw [len]
    exact ⟨vs, us, q1, q2, by omega, by omega, by omega⟩
  · obtain ⟨vs, us, q1, r1, q2, r2⟩ := two x R st
    rw [len] at hj
    have g1 : s.ws[j]? = some s.ws[j] := List.getElem?_eq_getElem (Nat.lt_of_lt_of_le hj (Nat.min_le_left _ _))
    have g2 : t.ws[j]? = some t.ws[j] := List.getElem?_eq_getElem (Nat.lt_of_lt_of_le hj (Nat.min_le_right _ _))
    obtain ⟨T, v1, v2, rfl, hT, rfl, f1, f2⟩ := y
    obtain ⟨u1, hu1, ru1⟩ := r1.get g1
    obtain ⟨u2, hu2, ru2⟩ := r2.get g2
    obtain rfl : u1 = v1 := Option.some.inj (hu1.symm.trans (f1 vs q1))
    obtain rfl : u2 = v2 := Option.some.inj (hu2.symm.trans (f2 us q2))
    obtain ⟨R'', x''⟩ := Rel.newT (ho := .tup [u1, u2]) R hT
    refine ⟨R'', x'', .tup [s.ws[j], t.ws[j]], ?_, T, [u1, u2], rfl, SqT.of upd_same, u1, [u2], rfl, ru1.ext x'', u2, [], rfl, ru2.ext x'', rfl⟩
    show (List.zipWith _ s.ws t.ws)[j]? = _
    rw [List.getElem?_zipWith, g1, g2]
theorem walks_enumB {k : Bool} {a : Addr} {s : Src} (h1 : Stands M ι H k a s) : Walks M (IteB M.K k a) ι H (enumSrc s) := by
  have len : (enumSrc s).ws.length = s.ws.length := List.length_mapIdx
  refine ⟨fun j ι' E' H' hj x R st => ?_, fun ι' E' H' x R st => ?_, fun j ι' E' H' v H'' hj x R st y => ?_⟩
  · obtain ⟨vs, q1, r1⟩ := h1 ι' E' H' x R st
    rw [len] at hj
    obtain ⟨v, hv, _⟩ := r1.get (List.getElem?_eq_getElem hj)
    exact ⟨vs, v, q1, hv⟩
  · obtain ⟨vs, q1, r1⟩ := h1 ι' E' H' x R st
    exact ⟨vs, q1, by rw [len, r1.length]⟩
  · obtain ⟨vs, q1, r1⟩ := h1 ι' E' H' x R st
    rw [len] at hj
    obtain ⟨T, v1, rfl, hT, rfl, f1⟩ := y
    obtain ⟨u1, hu1, ru1⟩ := r1.get (List.getElem?_eq_getElem hj)
    obtain rfl : u1 = v1 := Option.some.inj (hu1.symm.trans (f1 vs q1))
    obtain ⟨R'', x''⟩ := Rel.newT (ho := .tup [.int (j : Nat), u1]) R hT
    refine ⟨R'', x'', .tup [.int j, s.ws[j]], ?_, T, [.int j, u1], rfl, SqT.of upd_same, .int j, [u1], rfl, rfl, u1, [], rfl, ru1.ext x'', rfl⟩
    show (s.ws.mapIdx _)[j]? = _
    rw [List.getElem?_mapIdx, List.getElem?_eq_getElem hj]
    rfl
def zipF (E : Hh) (xs : List W) : Option Src := match xs with
  | [x, y] => match srcSq E x, srcSq E y with
    | some s, some t => some (zipSrc s t)
    | _, _ => none
  | _ => none
def enumF (E : Hh) (xs : List W) : Option Src := match xs with
  | [x] => match srcSq E x with
    | some s => some (enumSrc s)
    | none => none
  | _ => none
def optR {α : Type} (o : Option α) (E : Hh) : Option (Rz α) := match o with
  | some s => some (.ok s E)
  | none => none
def srcI (f : Hh → List W → Option Src) (ca : Act (List W)) : Act Src := fun σ E => andThen (ca σ E) fun xs E1 => optR (f E1 xs) E1
theorem Rs.opt {α : Type} {σ : L2.St} {G : α → Hh → Prop} {o : Option α} {E : Hh} (h : Rs M W' ι σ H (optR o E) G) : ∃ s, o = some s ∧ G s E := by
  cases o with
  | none => exact h.none.elim
  | some s => exact ⟨s, rfl, h.ok⟩
theorem pi_zipG {elts : List Expr} {kk : Nat} {tpos p pos : Pos} {e e2 : Expr} {ca : Act (List W)} (at' : X.K = M.K) (hg : Gl X "zip") (hm : X.mg "zip" = none) (hp : [e, e2].all plainArg = true) (ha : PA X [e, e2] (SA M W' ca)) :
    PI X (.Tuple elts kk tpos) (.Call (.Name "zip" p) [e, e2] [] pos) (SI M W' (srcI zipF ca)) :=
  PI.imp (pi_zipB hg hm hp ha) fun σ H R' ⟨ι, E, σE, R, rs, k⟩ => ⟨ι, E, σE, R, rs, (Rs.bind k).imp fun xs E1 h1 => fun ι1 H1 vs x1 R1 rws => by
    obtain ⟨s, e, h2⟩ := h1.opt
    unfold zipF at e
    split at e
    · rename_i x y
      split at e
      · rename_i s1 t1 e1 e2
        obtain rfl := Option.some.inj e
        obtain ⟨v, u, rfl, rx, ry⟩ := two_ok rws
        obtain ⟨k1, a, l1, rfl, q1, z1⟩ := srcSq_ok R1 rx e1
        obtain ⟨k2, b, l2, rfl, q2, z2⟩ := srcSq_ok R1 ry e2
        rw [at']
        exact ⟨k1, k2, a, b, l1, l2, rfl, q1, q2, h2 ι1 H1 _ x1 R1 (walks_zipB z1 z2)⟩
      · cases e
    · cases e⟩
theorem pi_enuG {elts : List Expr} {kk : Nat} {tpos p pos : Pos} {e : Expr} {ca : Act (List W)} (at' : X.K = M.K) (hg : Gl X "enumerate") (hm : X.mg "enumerate" = none) (hp : plainArg e = true) (ha : PA X [e] (SA M W' ca)) :
    PI X (.Tuple elts kk tpos) (.Call (.Name "enumerate" p) [e] [] pos) (SI M W' (srcI enumF ca)) :=
  PI.imp (pi_enumB hg hm hp ha) fun σ H R' ⟨ι, E, σE, R, rs, k⟩ => ⟨ι, E, σE, R, rs, (Rs.bind k).imp fun xs E1 h1 => fun ι1 H1 vs x1 R1 rws => by
    obtain ⟨s, e, h2⟩ := h1.opt
    unfold enumF at e
    split at e
    · rename_i x
      split at e
      · rename_i s1 e1
        obtain rfl := Option.some.inj e
        obtain ⟨v, rfl, rx⟩ := one_ok rws
        obtain ⟨k1, a, l1, rfl, q1, z1⟩ := srcSq_ok R1 rx e1
        rw [at']
        exact ⟨k1, a, l1, rfl, q1, h2 ι1 H1 _ x1 R1 (walks_enumB z1)⟩
      · cases e
    · cases e⟩
end G

set_option Elab.async false
set_option linter.all false
set_option maxRecDepth 100000
set_option maxHeartbeats 4000000
namespace G
open PySem L2 PySem.Spec PyProof.Rows
variable {M : Md} {H H' H1 H2 : Hp} {ι ι' ι1 ι2 : List Addr} {X : Cx} {W' : WX}

/-! ### the block of a comprehension -/
/-- no error is wanted -/
def noW : WX := fun _ _ _ _ => False
theorem takesNo : L2N.Takes X noW := fun _ _ x => by
  obtain ⟨_, _, _, _, _, _, _, _, _, _, _, _, _, _, _, _, z⟩ := x
  exact z.elim
theorem wind_no : Wind noW := fun _ _ _ _ _ h => h
theorem Rs.sure {α : Type} {σ : L2.St} {o : Option (Rz α)} {G : α → Hh → Prop} (h : Rs M noW ι σ H o G) (R : ∃ ι' H', Ext M ι H ι' H' ∧ ∀ x E', o = some (.ex x E') → Rel M ι' E' H') : ∃ a E', o = some (.ok a E') ∧ G a E' := by
  rcases h with h | ⟨x, E', e, g⟩
  · exact h
  · obtain ⟨ι', H', y, R'⟩ := R
    obtain ⟨_, _, z⟩ := g ι' H' y (R' x E' e)
    exact z.elim
theorem Rs.give {α : Type} {σ : L2.St} {o : Option (Rz α)} {G : α → Hh → Prop} {a : α} {E' : Hh} (e : o = some (.ok a E')) (g : G a E') : Rs M W' ι σ H o G := .inl ⟨a, E', e, g⟩
def wipeE (σ : Sg) : List Nat → Sg
  | [] => σ
  | v :: vs => (wipeE σ vs).set v none
theorem RelS.wipe {σE : Sg} {σ : L2.St} (rs : RelS M H ι σE σ) : ∀ vs, RelS M H ι (wipeE σE vs) (L2.wipe σ vs)
  | [] => rs
  | v :: vs => by
    have ih := RelS.wipe rs vs
    refine ⟨by show ((wipeE σE vs).set v none).length = ((L2.wipe σ vs).set v none).length; rw [List.length_set, List.length_set]; exact ih.1, fun j w e => ?_⟩
    have e : ((wipeE σE vs).set v none)[j]? = some (some w) := e
    by_cases hj : v = j
    · subst hj
      by_cases hl : v < (wipeE σE vs).length
      · rw [List.getElem?_set_self hl] at e; cases e
      · rw [List.getElem?_eq_none (by simpa using hl)] at e; cases e
    · rw [List.getElem?_set_ne hj] at e
      obtain ⟨u, e1, ru⟩ := ih.2 j w e
      exact ⟨u, by show ((L2.wipe σ vs).set v none)[j]? = _; rw [List.getElem?_set_ne hj]; exact e1, ru⟩
theorem wipe_at {σ : L2.St} {j : Nat} : ∀ vs : List Nat, (L2.wipe σ vs)[j]? = if j ∈ vs then (if j < σ.length then some none else none) else σ[j]?
  | [] => by simp [L2.wipe]
  | v :: vs => by
    show ((L2.wipe σ vs).set v none)[j]? = _
    by_cases hj : v = j
    · subst hj
      by_cases hl : v < σ.length
      · rw [List.getElem?_set_self (by rw [L2.wipe_length]; exact hl), if_pos (by simp), if_pos hl]
      · rw [List.getElem?_eq_none (by rw [List.length_set, L2.wipe_length]; exact Nat.le_of_not_lt hl), if_pos (by simp), if_neg hl]
    · rw [List.getElem?_set_ne hj, wipe_at vs]
      have : j ∈ v :: vs ↔ j ∈ vs := by simp [Ne.symm hj]
      simp only [this]
theorem wipe_wipe {σ : L2.St} {vs : List Nat} : L2.wipe (L2.wipe σ vs) vs = L2.wipe σ vs := List.ext_getElem? fun j => by
  rw [wipe_at, L2.wipe_length, wipe_at]
  split <;> rfl
theorem wipe_set {σ : L2.St} {vs : List Nat} {i : Nat} {v : Option V} (h : i ∈ vs) : L2.wipe (σ.set i v) vs = L2.wipe σ vs := List.ext_getElem? fun j => by
  rw [wipe_at, wipe_at, List.length_set]
  by_cases hj : j ∈ vs
  · rw [if_pos hj, if_pos hj]
  · rw [if_neg hj, if_neg hj, List.getElem?_set_ne (fun e => hj (by rw [← e]; exact h))]
def relN (sn names : List (Str × NameKind)) : List (Str × NameKind) := sn.map fun (n, k) => if (k == .free && (names.lookup n == some .cell)) then (n, .cell) else (n, k)
def blkG (Γ : Gm) (scope : Scope) : Gm := ⟨Γ.N, relN scope.names Γ.names, fun x => scope.names.lookup x == some .cell, fun _ => none⟩
theorem at_blk {Γ : Gm} {scope : Scope} {s : Shared} {cl : List (Str × Addr)} {C : Addr} {fp : List Addr} (a : At M Γ W' X) (hk : scope.kind = .function) : At M (blkG Γ scope) noW (X.blk s H scope (compEnvC scope cl C X.env) fp) where
  P := a.P
  w := a.w
  K := a.K
  mg := a.mg
  N := a.N
  nd := a.nd
  names := by
    show (scope.names.map fun (n, k) => if (k == .free && X.env.scope.kind == .function && X.env.scope.names.lookup n == some .cell) then (n, NameKind.cell) else (n, k)) = relN scope.names Γ.names
    rw [a.kind, a.names]
    unfold relN
    simp
  kind := hk
  calm := a.calm
  units := a.units
  tk := takesNo
  own := PassesOwn.never
  fnc := fun x h => h
theorem has_blk {P : Pg} {scope : Scope} {s : Shared} {cenv : Env} {fp : List Addr} (h : Has M P X) : Has M P (X.blk s H scope cenv fp) := ⟨h.fn⟩
/-! ### its targets -/
def SGv (M : Md) (vs : List Nat) (c : ActG) : TG := fun v σ H Q => ∃ ι E σE w, Rel M ι E H ∧ RelS M H ι σE σ ∧ RelW M H ι w v ∧ ∃ σ1 E', c w σE E = some (.ok σ1 E') ∧ ∀ ι' H' σ', Ext M ι H ι' H' → Rel M ι' E' H' → RelS M H' ι' σ1 σ' → L2.wipe σ' vs = L2.wipe σ vs → Q σ' H'
def SGsv (M : Md) (vs : List Nat) (c : ActGs) : TGs := fun us σ H Q => ∃ ι E σE ws, Rel M ι E H ∧ RelS M H ι σE σ ∧ RelWs M H ι ws us ∧ ∃ σ1 E', c ws σE E = some (.ok σ1 E') ∧ ∀ ι' H' σ', Ext M ι H ι' H' → Rel M ι' E' H' → RelS M H' ι' σ1 σ' → L2.wipe σ' vs = L2.wipe σ vs → Q σ' H'
theorem pg_noV {e : Expr} {vs : List Nat} {c : ActG} (h : ∀ w σ E, c w σ E = none) : PG X e (SGv M vs c) := ⟨fun pins s σ H v u Q I r ⟨ι, E, σE, w, _, _, _, σ1, E', q, _⟩ => by
  rw [h] at q
  cases q⟩
theorem pgs_noV {e : List Expr} {vs : List Nat} {c : ActGs} (h : ∀ w σ E, c w σ E = none) : PGs X e (SGsv M vs c) := ⟨fun pins s σ H v u Q I r ⟨ι, E, σE, w, _, _, _, σ1, E', q, _⟩ => by
  rw [h] at q
  cases q⟩
def nameV (Γ : Gm) (vs : List Nat) (x : Str) : ActG := fun w σ E => if okLoc Γ x = true then match ixOf x Γ.N with
  | some i => if vs.contains i = true then some (.ok (σ.set i (some w)) E) else none
  | none => none
  else none
theorem pg_nameV {Γ : Gm} {vs : List Nat} {x : Str} {pos : Pos} (a : At M Γ W' X) : PG X (.Name x pos) (SGv M vs (nameV Γ vs x)) := by
  by_cases hl : okLoc Γ x = true
  · cases hi : ixOf x Γ.N with
    | none => exact pg_noV fun w σ E => by unfold nameV; rw [if_pos hl, hi]
    | some i =>
      by_cases hv : vs.contains i = true
      · obtain ⟨h1, h2⟩ := okLoc_ok a hl
        refine PG.imp (pg_name (i := i) (by rw [a.N]; exact a.nd) (by rw [a.N]; exact ixOf_ok hi) h1 h2) fun v σ H Q ⟨ι, E, σE, w, R, rs, rw', σ1, E', e, k⟩ => ?_
        unfold nameV at e
        rw [if_pos hl, hi] at e
        dsimp only at e
        rw [if_pos hv] at e
        cases e
        exact k ι H _ (Ext.refl _ _) R (rs.set rw') (wipe_set (by simpa using hv))
      · exact pg_noV fun w σ E => by unfold nameV; rw [if_pos hl, hi]; dsimp only; rw [if_neg hv]
  · exact pg_noV fun w σ E => by unfold nameV; rw [if_neg hl]
theorem pgs_nilV {vs : List Nat} : PGs X [] (SGsv M vs nilG) := PGs.imp pgs_nil fun us σ H Q ⟨ι, E, σE, ws, R, rs, rw', σ1, E', e, k⟩ => by
  cases ws with
  | nil => cases e; exact ⟨rw', k ι H σ (Ext.refl _ _) R rs rfl⟩
  | cons w r => cases e
theorem pgs_consV {e : Expr} {es : List Expr} {vs : List Nat} {c : ActG} {d : ActGs} (hp : plainTg e = true) (h1 : PG X e (SGv M vs c)) (h2 : PGs X es (SGsv M vs d)) : PGs X (e :: es) (SGsv M vs (consG c d)) :=
  PGs.imp (pgs_cons h1 h2 (by rw [assignEach_cons hp]; rfl)) fun us σ H Q ⟨ι, E, σE, ws, R, rs, rw', σ1, E', e, k⟩ => by
    cases ws with
    | nil => cases e
    | cons w r =>
      obtain ⟨v, vr, rfl, r1, r2⟩ := rw'
      have e : andThen (c w σE E) (fun σ1 E1 => d r σ1 E1) = some (.ok σ1 E') := e
      cases e1 : c w σE E with
      | none => rw [e1] at e; cases e
      | some z =>
        cases z with
        | ex x E1 => rw [e1] at e; cases e
        | ok σ2 E1 =>
          rw [e1] at e
          exact ⟨v, vr, rfl, ι, E, σE, w, R, rs, r1, σ2, E1, e1, fun ι1 H1 σ' x1 R1 rs1 hw => ⟨ι1, E1, σ2, r, R1, rs1, r2.ext x1, σ1, E', e, fun ι2 H2 σ'' x2 R2 rs2 hw2 => k ι2 H2 σ'' (x1.trans x2) R2 rs2 (hw2.trans hw)⟩⟩
theorem pg_tupV {es : List Expr} {k : Nat} {pos : Pos} {vs : List Nat} {d : ActGs} (at' : X.K = M.K) (hc : X.calm = true) (hp : es.all plainTg = true) (h : PGs X es (SGsv M vs d)) : PG X (.Tuple es k pos) (SGv M vs (tupG es.length d)) :=
  PG.imp (pg_tup hc h assignEach_len (assignEach_plain hp)) fun v σ H Q ⟨ι, E, σE, w, R, rs, rw', σ1, E', e, k⟩ => by
    cases w with
    | tup ws =>
      obtain ⟨a, us, rfl, ht, rws⟩ := rw'
      have e : (if ws.length = es.length then d ws σE E else none) = some (.ok σ1 E') := e
      split at e
      · rename_i hl
        exact ⟨a, us, rfl, by rw [at']; exact ht, by rw [← rws.length]; exact hl, ι, E, σE, ws, R, rs, rws, σ1, E', e, k⟩
      · cases e
    | _ => cases e
/-- a comprehension's target: names, and tuples of these -/
def tgV (Γ : Gm) (vs : List Nat) : Nat → Expr → ActG
  | 0, _ => fun _ _ _ => none
  | n + 1, .Name x _ => nameV Γ vs x
  | n + 1, .Tuple es _ _ => if es.all plainTg = true then tupG es.length (es.foldr (fun e d => consG (tgV Γ vs n e) d) nilG) else fun _ _ _ => none
  | n + 1, _ => fun _ _ _ => none
theorem pg_tgV {Γ : Gm} {vs : List Nat} (a : At M Γ W' X) : ∀ (n : Nat) (e : Expr), PG X e (SGv M vs (tgV Γ vs n e))
  | 0, e => pg_noV fun _ _ _ => rfl
  | n + 1, e => by
    cases e with
    | Name x pos => exact pg_nameV a
    | Tuple es k pos =>
      unfold tgV
      by_cases hp : es.all plainTg = true
      · rw [if_pos hp]
        refine pg_tupV a.K a.calm hp ?_
        induction es with
        | nil => exact pgs_nilV
        | cons e es ih =>
          rw [List.all_cons, Bool.and_eq_true] at hp
          exact pgs_consV hp.1 (pg_tgV a n e) (ih hp.2)
      · rw [if_neg hp]
        exact pg_noV fun _ _ _ => rfl
    | _ => exact pg_noV fun _ _ _ => rfl
/-! ### its loops -/
abbrev ActH := Sg → Hh → Option Hh
/-- a clause: sources in their turn, a test, and what is done then -/
def loopC (ls : List Lk) (g : ActG) (ct : Act Bool) (body : ActH) (σ0 : Sg) : List W → Hh → Option Hh
  | [], E => if stay E ls = true then some E else none
  | w :: r, E => if stay E ls = true then match g w σ0 E with
    | some (.ok σ1 E1) => match ct σ1 E1 with
      | some (.ok true E2) => match body σ1 E2 with
        | some E3 => loopC ls g ct body σ0 r E3
        | none => none
      | some (.ok false E2) => loopC ls g ct body σ0 r E2
      | _ => none
    | _ => none
    else none
/-- the item comes behind the list with this number -/
def pushC (n : Nat) (ce : Act W) : ActH := fun σ E => match ce σ E with
  | some (.ok y E3) => match (E3 : List O)[n]? with
    | some (.lst acc) => if acc.length ≤ few then some (E3.set n (.lst (acc ++ [y]))) else none
    | _ => none
  | _ => none
def lcA (ci : Act Src) (vs : List Nat) (g : ActG) (ct : Act Bool) (ce : Act W) : Act W := fun σ E => andThen (ci σ E) fun s E1 => match loopC s.ls g ct (pushC E1.length ce) (wipeE σ vs) s.ws (E1 ++ [.lst []]) with
  | some E' => some (.ok (.ref E1.length) E')
  | none => none
/-- a clause within a clause -/
def nestC (ci : Act Src) (vs : List Nat) (g : ActG) (ct : Act Bool) (body : ActH) : ActH := fun σ E => match ci σ E with
  | some (.ok s E1) => loopC s.ls g ct body (wipeE σ vs) s.ws E1
  | _ => none
def lcA2 (ci : Act Src) (vs : List Nat) (g : ActG) (ct : Act Bool) (ci1 : Act Src) (vs1 : List Nat) (g1 : ActG) (ct1 : Act Bool) (ce : Act W) : Act W := fun σ E => andThen (ci σ E) fun s E1 =>
  match loopC s.ls g ct (nestC ci1 vs1 g1 ct1 (pushC E1.length ce)) (wipeE σ vs) s.ws (E1 ++ [.lst []]) with
  | some E' => some (.ok (.ref E1.length) E')
  | none => none
/-- the list at D has the number n -/
def Holds (ι : List Addr) (n : Nat) (D : Addr) : Prop := ι[n]? = some D
theorem push_ok {n : Nat} {D : Addr} {ce : Act W} {σE : Sg} {σ : L2.St} {E E' : Hh} {Nx : Hp → Prop} (hD : ι[n]? = some D) (R : Rel M ι E H) (rs : RelS M H ι σE σ) (h : pushC n ce σE E = some E')
    (k : ∀ ι' H', Ext M ι H ι' H' → Rel M ι' E' H' → Nx H') : SE M noW ce σ H fun y H4 => ∃ acc, H4 D = some (.lst acc) ∧ acc.length < sizeLine ∧ Nx (upd H4 D (.lst (acc ++ [y]))) := by
  unfold pushC at h
  cases e : ce σE E with
  | none => rw [e] at h; cases h
  | some r =>
    cases r with
    | ex x E1 => rw [e] at h; cases h
    | ok y E3 =>
      rw [e] at h
      dsimp only at h
      cases e2 : (E3 : List O)[n]? with
      | none => rw [e2] at h; cases h
      | some o =>
        rw [e2] at h
        cases o with
        | lst acc =>
          dsimp only at h
          split at h
          · rename_i hl
            obtain rfl := Option.some.inj h
            refine ⟨ι, E, σE, R, rs, .give e fun ι3 H3 v x3 R3 rv => ?_⟩
            have hD3 := pre_get x3.pre hD
            obtain ⟨us, hu, ru⟩ := R3.at e2 hD3
            exact ⟨us, hu, by rw [← ru.length]; exact few_lt hl, Fin.putL R3 hD3 e2 hu (ru.append (show RelWs M H3 ι3 [y] [v] from ⟨v, [], rfl, rv, rfl⟩)) fun ι4 H4 x4 R4 => k ι4 H4 (x3.trans x4) R4⟩
          · cases h
        | _ => cases h
/-- what holds at a clause's turn -/
def Turns (M : Md) (ι1 : List Addr) (H1 : Hp) (ls : List Lk) (g : ActG) (ct : Act Bool) (body : ActH) (σ0 : Sg) (r : List W) (Ef : Hh) (H : Hp) : Prop := ∃ ι E, Ext M ι1 H1 ι H ∧ Rel M ι E H ∧ loopC ls g ct body σ0 r E = some Ef
theorem clause_ok {J : It} {s : Src} {vs : List Nat} {g : ActG} {ct : Act Bool} {body : ActH} {σ0 : Sg} {σ : L2.St} {Ef E0 : Hh} {ιS ι0 : List Addr} {HS H0 : Hp} {tb : L2.St → Hp → (Hp → Prop) → Prop} {Out : Hp → Prop} (wk : Walks M J ιS HS s) (xS : Ext M ιS HS ι0 H0) (R0 : Rel M ι0 E0 H0) (rs : RelS M H0 ι0 σ0 (L2.wipe σ vs))
    (h : loopC s.ls g ct body σ0 s.ws E0 = some Ef) (hout : ∀ ι' H', Ext M ι0 H0 ι' H' → Rel M ι' Ef H' → Out H')
    (hb : ∀ ι E H σ1 σ2 E' Nx, Ext M ι0 H0 ι H → Rel M ι E H → RelS M H ι σ1 σ2 → L2.wipe σ2 vs = L2.wipe σ vs → body σ1 E = some E' → (∀ ι' H', Ext M ι H ι' H' → Rel M ι' E' H' → Nx H') → tb σ2 H Nx) :
    ∃ Wm : Nat → Nat → Hp → Prop, (∃ m, Wm 0 m H0) ∧ ∀ i m H, Wm i m H → (J.stop i H ∧ Out H) ∨ (J.go i H ∧ ∃ Nx : Hp → Prop, (∀ H', Nx H' → ∃ m', m' < m ∧ Wm (i + 1) m' H') ∧
      ∀ x H', J.yld i H x H' → SGv M vs g x (L2.wipe σ vs) H' fun σ2 H2 => L2.wipe σ2 vs = L2.wipe σ vs ∧ ST M noW ct σ2 H2 fun b H3 => if b = true then tb σ2 H3 Nx else Nx H3) := by
  refine ⟨fun i m H => m = s.ws.length - i ∧ i ≤ s.ws.length ∧ Turns M ι0 H0 s.ls g ct body σ0 (s.ws.drop i) Ef H, ⟨s.ws.length, by simp, Nat.zero_le _, ι0, E0, Ext.refl _ _, R0, by rw [List.drop_zero]; exact h⟩, ?_⟩
  rintro i m H ⟨rfl, hle, ι, E, x, R, k⟩
  by_cases hlt : i < s.ws.length
  · obtain ⟨w0, hw0⟩ : ∃ w, s.ws[i]? = some w := ⟨_, List.getElem?_eq_getElem hlt⟩
    rw [drop_cons hw0] at k
    unfold loopC at k
    by_cases hst : stay E s.ls = true
    · rw [if_pos hst] at k
      refine .inr ⟨wk.go i ι E H hlt (xS.trans x) R hst, fun H' => Turns M ι0 H0 s.ls g ct body σ0 (s.ws.drop (i + 1)) Ef H', fun H' q => ⟨s.ws.length - (i + 1), by omega, rfl, hlt, q⟩, fun v H' y => ?_⟩
      obtain ⟨R', x', w, hw, rv⟩ := wk.yld i ι E H v H' hlt (xS.trans x) R hst y
      obtain rfl : w0 = w := by rw [hw0] at hw; exact Option.some.inj hw
      have xx := x.trans x'
      cases e1 : g w0 σ0 E with
      | none => rw [e1] at k; cases k
      | some r1 =>
        cases r1 with
        | ex _ _ => rw [e1] at k; cases k
        | ok σ1 E1 =>
          rw [e1] at k
          dsimp only at k
          refine ⟨ι, E, σ0, w0, R', rs.ext xx, rv, σ1, E1, e1, fun ι2 H2 σ2 x2 R2 rs2 hw2 => ⟨hw2.trans wipe_wipe, ?_⟩⟩
          have hw3 := hw2.trans wipe_wipe
          cases e2 : ct σ1 E1 with
          | none => rw [e2] at k; cases k
          | some r2 =>
            cases r2 with
            | ex _ _ => rw [e2] at k; cases k
            | ok b E2 =>
              rw [e2] at k
              refine ⟨ι2, E1, σ1, R2, rs2, .give e2 fun ι3 H3 x3 R3 => ?_⟩
              have x03 := (xx.trans x2).trans x3
              cases b with
              | false =>
                show if false = true then _ else _
                rw [if_neg Bool.false_ne_true]
                exact ⟨ι3, E2, x03, R3, k⟩
              | true =>
                show if true = true then _ else _
                rw [if_pos rfl]
                dsimp only at k
                cases e3 : body σ1 E2 with
                | none => rw [e3] at k; cases k
                | some E3 =>
                  rw [e3] at k
                  exact hb ι3 E2 H3 σ1 σ2 E3 _ x03 R3 (rs2.ext x3) hw3 e3 fun ι4 H4 x4 R4 => ⟨ι4, E3, x03.trans x4, R4, k⟩
    · rw [if_neg hst] at k
      cases k
  · have e : i = s.ws.length := by omega
    subst e
    rw [List.drop_length] at k
    unfold loopC at k
    split at k
    · rename_i hst
      obtain rfl := Option.some.inj k
      exact .inl ⟨wk.stop ι E H (xS.trans x) R hst, hout ι H x R⟩
    · cases k
theorem optE {o : Option Hh} {w : W} {σ : L2.St} {G : W → Hh → Prop} (h : Rs M W' ι σ H (match o with
    | some E' => some (Rz.ok w E')
    | none => none) G) : ∃ E', o = some E' ∧ G w E' := by
  cases o with
  | none => exact h.none.elim
  | some E' => exact ⟨E', rfl, h.ok⟩
theorem tests_mono {ifs : List Expr} {t t' : TT} (h : PTs X ifs t) (i : ∀ σ H Q, t' σ H Q → t σ H Q) : PTs X ifs t' := ⟨fun pins s σ H Q I q => h.run pins s σ H Q I (i σ H Q q)⟩
def yesT : Act Bool := fun _ E => some (.ok true E)
/-- the tests of a clause: none, or one -/
def testsA (t : Expr → Act Bool) : List Expr → Act Bool
  | [] => yesT
  | [c] => t c
  | _ => fun _ _ => none
theorem pts_G {W' : WX} {ifs : List Expr} {t : Expr → Act Bool} (h : ∀ e, PT X e (ST M W' (t e))) : PTs X ifs (ST M W' (testsA t ifs)) := by
  match ifs with
  | [] => exact tests_mono pts_nil fun σ H Q ⟨ι, E, σE, R, rs, k⟩ => k.ok ι H (Ext.refl _ _) R
  | [c] => exact pts_one (h c)
  | _ :: _ :: _ => exact ⟨fun pins s σ H Q I ⟨ι, E, σE, _, _, q⟩ => q.none.elim⟩
/-- a comprehension of one clause -/
theorem lc_ok {ci : Act Src} {vs : List Nat} {g : ActG} {ct : Act Bool} {ce : Act W} : ∀ (σ : L2.St) (H : Hp) (Q : VK), SE M W' (lcA ci vs g ct ce) σ H Q → tLc (SI M W' ci) (SGv M vs g) (ST M noW ct) (SE M noW ce) vs σ H Q := fun σ H Q ⟨ι, E, σE, R, rs, h⟩ =>
  ⟨ι, E, σE, R, rs, (Rs.bind h).imp fun s E1 h1 => fun ι1 H1 J x1 R1 wk D hD => by
    obtain ⟨Ef, hl, k⟩ := optE h1
    obtain ⟨R2, x2⟩ := Rel.new (ho := .lst []) (o := .lst []) R1 hD fun _ => ⟨[], upd_same, rfl⟩
    have xx := x1.trans x2
    have hn : (ι1 ++ [D])[E1.length]? = some D := by rw [← R1.len]; simp
    exact clause_ok (tb := fun σ2 H3 Nx => SE M noW ce σ2 H3 fun y H4 => ∃ acc, H4 D = some (.lst acc) ∧ acc.length < sizeLine ∧ Nx (upd H4 D (.lst (acc ++ [y])))) wk x2 R2 ((rs.ext xx).wipe vs) hl
      (fun ι' H' x' R' => k ι' H' _ (xx.trans x') R' ⟨D, pre_get x'.pre hn, rfl⟩) fun ι' E' H' σ1 σ2 E'' Nx x' R' rs' _ e nx => push_ok (pre_get x'.pre hn) R' rs' e nx⟩
end G

set_option Elab.async false
set_option linter.all false
set_option maxRecDepth 100000
set_option maxHeartbeats 4000000
namespace G
open PySem L2 PySem.Spec PyProof.Rows
variable {M : Md} {H H' H1 H2 : Hp} {ι ι' ι1 ι2 : List Addr} {X : Cx} {W' : WX}

/-! ### comprehensions as values, and given a name -/
def scN (names : List (Str × NameKind)) : Scope := ⟨.function, names, false, false, []⟩
theorem blkOk_names {N : List Str} {sc sc' scope : Scope} {own : List (Str × Nat)} (h : BlkOk N sc scope own) (e : sc.names = sc'.names) : BlkOk N sc' scope own := ⟨h.kind, h.uniq, h.ix, fun y hy z => by rw [← e]; exact h.free y hy z, h.own⟩
def ownIx (N : List Str) (scope : Scope) : List (Str × Nat) := scope.names.filterMap fun (n, k) => if (k == .local || k == .cell) = true then (ixOf n N).map fun i => (n, i) else none
def blkB (Γ : Gm) (scope : Scope) : Bool := blkC Γ.N (scN Γ.names) scope (ownIx Γ.N scope)
theorem blkB_ok {Γ : Gm} {scope : Scope} (a : At M Γ W' X) (h : blkB Γ scope = true) : BlkOk X.N X.env.scope scope (ownIx Γ.N scope) := by
  rw [a.N]
  exact blkOk_names (blkOk_by h) a.names.symm
def plainSrc : Expr → Bool
  | .Set _ _ _ => false
  | _ => true
theorem plainSrc_ok {e : Expr} (h : plainSrc e = true) : ∀ env x, foldedSetIterable e env x = pure x := fun env x => by
  cases e <;> first | rfl | cases h
/-- where a block's parts stand -/
abbrev Blks (X : Cx) (scope : Scope) (R : Cx → Prop) : Prop := ∀ (s : Shared) (H : Hp) (C : Addr) (cl : List (Str × Addr)) (fp : List Addr), R (X.blk s H scope (compEnvC scope cl C X.env) fp)
def lcE (Γ : Gm) (scope : Scope) (tg : Expr) (ci : Act Src) (ct : Act Bool) (ce : Act W) : Act W := fun σ E => if blkB Γ scope = true then lcA ci ((ownIx Γ.N scope).map (·.2)) (tgV (blkG Γ scope) ((ownIx Γ.N scope).map (·.2)) 9 tg) ct ce σ E else none
section
variable {Γ : Gm} {scope : Scope} {tg iter elt : Expr} {ifs : List Expr} {pos spos py : Pos} {y : Str} {ci : Act Src} {ct : Act Bool} {ce : Act W}
theorem pe_lcG (a : At M Γ W' X) (hp : plainSrc iter = true) (hi : PI X tg iter (SI M W' ci)) (ht : Blks X scope fun Y => PTs Y ifs (ST M noW ct)) (he : Blks X scope fun Y => PE Y elt (SE M noW ce)) :
    PE X (.ListComp elt [⟨tg, iter, ifs, 0⟩] scope pos) (SE M W' (lcE Γ scope tg ci ct ce)) := by
  by_cases hb : blkB Γ scope = true
  · have ok := blkB_ok a hb
    refine PE.imp (pe_lc a.calm (by rw [a.N]; exact a.nd) hi ok (fun s H C cl fp => pg_tgV (vs := (ownIx Γ.N scope).map (·.2)) (at_blk a ok.kind) 9 tg) ht he (plainSrc_ok hp X.env)) fun σ H Q q => lc_ok σ H Q ?_
    obtain ⟨ι, E, σE, R, rs, h⟩ := q
    unfold lcE at h
    rw [if_pos hb] at h
    exact ⟨ι, E, σE, R, rs, h⟩
  · exact pe_no fun σ E => by unfold lcE; rw [if_neg hb]
/-- a comprehension's value goes into its name at once -/
def swB (Γ : Gm) (y : Str) (py pos : Pos) (scope : Scope) : Bool := (Γ.names.lookup y == some .local) && (py.line == pos.line) && !(scope.names.any fun (n, k) => n == y && (k == .local || k == .cell))
theorem sw_lc (a : At M Γ W' X) {gs : List Comprehension} {l : Nat} : swapsWith (.ListComp elt gs scope pos) (some (.Name y py)) l X.env = pure (swB Γ y py pos scope) := by
  have hb : X.env.blockKind = .function := by unfold Env.blockKind; rw [a.kind]; rfl
  unfold swapsWith swB Env.kindOf
  simp only [hb, a.names, Expr.pos]
  rfl
theorem sw_dc (a : At M Γ W' X) {kx vx : Expr} {gs : List Comprehension} {l : Nat} : swapsWith (.DictComp kx vx gs scope pos) (some (.Name y py)) l X.env = pure (swB Γ y py pos scope) := by
  have hb : X.env.blockKind = .function := by unfold Env.blockKind; rw [a.kind]; rfl
  unfold swapsWith swB Env.kindOf
  simp only [hb, a.names, Expr.pos]
  rfl
/-- a name takes it -/
def nameS (Γ : Gm) (y : Str) (ca : Act W) : ActS := fun σ E => if okLoc Γ y = true ∧ (ixOf y Γ.N).isSome = true then asgS ca (nameG Γ y) σ E else none
theorem nameS_key {ca : Act W} {D : Ends} {σ : L2.St} {H : Hp} (q : SS M W' (nameS Γ y ca) D σ H) : ∃ i, okLoc Γ y = true ∧ ixOf y Γ.N = some i ∧ SE M W' ca σ H (fun v H1 => SG M W' (nameG Γ y) v σ H1 D.nx) ∧ SE M W' ca σ H (fun v H1 => gName i v σ H1 D.nx) := by
  obtain ⟨ι, E, σE, R, rs, k⟩ := q
  unfold nameS at k
  split at k
  · rename_i hc
    obtain ⟨hl, hi⟩ := hc
    obtain ⟨i, hi⟩ := Option.isSome_iff_exists.mp hi
    refine ⟨i, hl, hi, ⟨ι, E, σE, R, rs, (Rs.bind k).imp fun w E1 h1 => fun ι1 H1 v x1 R1 rv => ⟨ι1, E1, σE, w, R1, rs.ext x1, rv, (h1.bind.ext x1).imp fun σ1 E2 h2 => fun ι2 H2 σ' x2 R2 rs2 => h2.ok ι2 H2 (x1.trans x2) R2 σ' rs2⟩⟩,
      ⟨ι, E, σE, R, rs, (Rs.bind k).imp fun w E1 h1 => fun ι1 H1 v x1 R1 rv => ?_⟩⟩
    unfold nameG at h1
    rw [if_pos hl, hi] at h1
    exact h1.ok ι1 H1 x1 R1 _ ((rs.ext x1).set rv)
  · exact k.none.elim
/-- x = [..] -/
theorem ps_lcG (a : At M Γ W' X) (hp : plainSrc iter = true) (hi : PI X tg iter (SI M W' ci)) (ht : Blks X scope fun Y => PTs Y ifs (ST M noW ct)) (he : Blks X scope fun Y => PE Y elt (SE M noW ce)) :
    PS X (.Assign [.Name y py] (.ListComp elt [⟨tg, iter, ifs, 0⟩] scope pos) spos) (SS M W' (nameS Γ y (lcE Γ scope tg ci ct ce))) := by
  cases hs : swB Γ y py pos scope with
  | false =>
    exact PS.imp (ps_asg (pe_lcG a hp hi ht he) (pg_nameG a) ((sw_lc (elt := elt) (pos := pos) (py := py) (scope := scope) (l := spos.line) a).trans (by rw [hs])) (by rfl)) fun D σ H q => by
      obtain ⟨i, _, _, k, _⟩ := nameS_key q
      exact k
  | true =>
    have hyl : X.env.scope.names.lookup y = some .local := by
      unfold swB at hs
      rw [Bool.and_eq_true, Bool.and_eq_true] at hs
      rw [a.names]
      simpa using hs.1.1
    by_cases hl : ∃ i, ixOf y Γ.N = some i
    · obtain ⟨i, hix⟩ := hl
      by_cases hb : blkB Γ scope = true
      · have ok := blkB_ok a hb
        refine PS.imp (ps_setLc (i := i) a.calm (by rw [a.N]; exact a.nd) (by rw [a.N]; exact ixOf_ok hix) hyl (by rw [sw_lc a, hs]) hi ok (fun s H C cl fp => pg_tgV (vs := (ownIx Γ.N scope).map (·.2)) (at_blk a ok.kind) 9 tg) ht he (plainSrc_ok hp X.env)) fun D σ H q => ?_
        obtain ⟨j, _, hj, _, k⟩ := nameS_key q
        obtain rfl : i = j := Option.some.inj (hix.symm.trans hj)
        obtain ⟨ι, E, σE, R, rs, h⟩ := k
        unfold lcE at h
        rw [if_pos hb] at h
        exact lc_ok σ H _ ⟨ι, E, σE, R, rs, h⟩
      · exact ps_no fun σ E => by
          unfold nameS asgS lcE
          split
          · first | rfl | (rw [if_neg hb]; rfl)
          · rfl
    · exact ps_no fun σ E => by
        unfold nameS
        rw [if_neg fun h => hl (Option.isSome_iff_exists.mp h.2)]
end
/-! ### two clauses -/
theorem lc2_ok {ci ci1 : Act Src} {vs vs1 : List Nat} {g g1 : ActG} {ct ct1 : Act Bool} {ce : Act W} : ∀ (σ : L2.St) (H : Hp) (Q : VK), SE M W' (lcA2 ci vs g ct ci1 vs1 g1 ct1 ce) σ H Q → tLc2 (SI M W' ci) (SGv M vs g) (ST M noW ct) (SI M noW ci1) (SGv M vs1 g1) (ST M noW ct1) (SE M noW ce) vs vs1 σ H Q := fun σ H Q ⟨ι, E, σE, R, rs, h⟩ =>
  ⟨ι, E, σE, R, rs, (Rs.bind h).imp fun s E1 h1 => fun ι1 H1 J x1 R1 wk D hD => by
    obtain ⟨Ef, hl, k⟩ := optE h1
    obtain ⟨R2, x2⟩ := Rel.new (ho := .lst []) (o := .lst []) R1 hD fun _ => ⟨[], upd_same, rfl⟩
    have xx := x1.trans x2
    have hn : (ι1 ++ [D])[E1.length]? = some D := by rw [← R1.len]; simp
    refine clause_ok (tb := fun σ2 H3 Nx => SI M noW ci1 σ2 H3 fun J1 H4 => ∃ W1 : Nat → Nat → Hp → Prop, (∃ m, W1 0 m H4) ∧ ∀ j k H, W1 j k H → (J1.stop j H ∧ Nx H) ∨ (J1.go j H ∧ ∃ Nx1 : Hp → Prop, (∀ H', Nx1 H' → ∃ k', k' < k ∧ W1 (j + 1) k' H') ∧
        ∀ x H', J1.yld j H x H' → SGv M vs1 g1 x (L2.wipe σ2 vs1) H' fun σ3 H5 => L2.wipe σ3 vs1 = L2.wipe σ2 vs1 ∧ ST M noW ct1 σ3 H5 fun b H6 => if b = true then SE M noW ce σ3 H6 fun y H7 => ∃ acc, H7 D = some (.lst acc) ∧ acc.length < sizeLine ∧ Nx1 (upd H7 D (.lst (acc ++ [y]))) else Nx1 H6)) wk x2 R2 ((rs.ext xx).wipe vs) hl
      (fun ι' H' x' R' => k ι' H' _ (xx.trans x') R' ⟨D, pre_get x'.pre hn, rfl⟩) fun ι' E' H' σ1 σ2 E'' Nx x' R' rs' hw e nx => ?_
    unfold nestC at e
    cases e1 : ci1 σ1 E' with
    | none => rw [e1] at e; cases e
    | some r =>
      cases r with
      | ex _ _ => rw [e1] at e; cases e
      | ok s1 E3 =>
        rw [e1] at e
        dsimp only at e
        refine ⟨ι', E', σ1, R', rs', .give e1 fun ι3 H3 J1 x3 R3 wk1 => ?_⟩
        exact clause_ok (tb := fun σ2 H3 Nx => SE M noW ce σ2 H3 fun y H4 => ∃ acc, H4 D = some (.lst acc) ∧ acc.length < sizeLine ∧ Nx (upd H4 D (.lst (acc ++ [y])))) wk1 (Ext.refl _ _) R3 ((rs'.ext x3).wipe vs1) e
          (fun ι4 H4 x4 R4 => nx ι4 H4 (x3.trans x4) R4) fun ι4 E4 H4 σ3 σ4 E5 Nx1 x4 R4 rs4 _ e4 nx4 => push_ok (pre_get ((x'.trans x3).trans x4).pre hn) R4 rs4 e4 nx4⟩
/-- the slots of a target's names -/
def tgIx (N : List Str) : Nat → Expr → List Nat
  | 0, _ => []
  | n + 1, .Name x _ => (ixOf x N).toList
  | n + 1, .Tuple es _ _ => es.flatMap (tgIx N n)
  | n + 1, _ => []
def lcE2 (Γ : Gm) (scope : Scope) (tg tg1 : Expr) (ci : Act Src) (ct : Act Bool) (ci1 : Act Src) (ct1 : Act Bool) (ce : Act W) : Act W := fun σ E =>
  if blkB Γ scope = true ∧ ((tgIx Γ.N 9 tg1).all fun i => ((ownIx Γ.N scope).map (·.2)).contains i) = true then lcA2 ci ((ownIx Γ.N scope).map (·.2)) (tgV (blkG Γ scope) ((ownIx Γ.N scope).map (·.2)) 9 tg) ct ci1 (tgIx Γ.N 9 tg1) (tgV (blkG Γ scope) (tgIx Γ.N 9 tg1) 9 tg1) ct1 ce σ E else none
section
variable {Γ : Gm} {scope : Scope} {tg iter tg1 iter1 elt : Expr} {ifs ifs1 : List Expr} {pos spos py : Pos} {y : Str} {ci ci1 : Act Src} {ct ct1 : Act Bool} {ce : Act W}
theorem pe_lcG2 (a : At M Γ W' X) (hp : plainSrc iter = true) (hp1 : plainSrc iter1 = true) (hi : PI X tg iter (SI M W' ci)) (ht : Blks X scope fun Y => PTs Y ifs (ST M noW ct)) (hi1 : Blks X scope fun Y => PI Y tg1 iter1 (SI M noW ci1)) (ht1 : Blks X scope fun Y => PTs Y ifs1 (ST M noW ct1)) (he : Blks X scope fun Y => PE Y elt (SE M noW ce)) :
    PE X (.ListComp elt [⟨tg, iter, ifs, 0⟩, ⟨tg1, iter1, ifs1, 0⟩] scope pos) (SE M W' (lcE2 Γ scope tg tg1 ci ct ci1 ct1 ce)) := by
  by_cases hb : blkB Γ scope = true ∧ ((tgIx Γ.N 9 tg1).all fun i => ((ownIx Γ.N scope).map (·.2)).contains i) = true
  · have ok := blkB_ok a hb.1
    have hv : ∀ i ∈ tgIx Γ.N 9 tg1, i ∈ (ownIx Γ.N scope).map (·.2) := fun i hi => by
      have z := List.all_eq_true.mp hb.2 i hi
      simpa using z
    refine PE.imp (pe_lc2 a.calm (by rw [a.N]; exact a.nd) hi ok hv (fun s H C cl fp => pg_tgV (vs := (ownIx Γ.N scope).map (·.2)) (at_blk a ok.kind) 9 tg) ht hi1 (fun s H C cl fp => pg_tgV (vs := tgIx Γ.N 9 tg1) (at_blk a ok.kind) 9 tg1) ht1 he (plainSrc_ok hp X.env) (plainSrc_ok hp1)) fun σ H Q q => lc2_ok σ H Q ?_
    obtain ⟨ι, E, σE, R, rs, h⟩ := q
    unfold lcE2 at h
    rw [if_pos hb] at h
    exact ⟨ι, E, σE, R, rs, h⟩
  · exact pe_no fun σ E => by unfold lcE2; rw [if_neg hb]
theorem ps_lcG2 (a : At M Γ W' X) (hp : plainSrc iter = true) (hp1 : plainSrc iter1 = true) (hi : PI X tg iter (SI M W' ci)) (ht : Blks X scope fun Y => PTs Y ifs (ST M noW ct)) (hi1 : Blks X scope fun Y => PI Y tg1 iter1 (SI M noW ci1)) (ht1 : Blks X scope fun Y => PTs Y ifs1 (ST M noW ct1)) (he : Blks X scope fun Y => PE Y elt (SE M noW ce)) :
    PS X (.Assign [.Name y py] (.ListComp elt [⟨tg, iter, ifs, 0⟩, ⟨tg1, iter1, ifs1, 0⟩] scope pos) spos) (SS M W' (nameS Γ y (lcE2 Γ scope tg tg1 ci ct ci1 ct1 ce))) := by
  cases hs : swB Γ y py pos scope with
  | false =>
    exact PS.imp (ps_asg (pe_lcG2 a hp hp1 hi ht hi1 ht1 he) (pg_nameG a) ((sw_lc (elt := elt) (pos := pos) (py := py) (scope := scope) (l := spos.line) a).trans (by rw [hs])) (by rfl)) fun D σ H q => by
      obtain ⟨i, _, _, k, _⟩ := nameS_key q
      exact k
  | true =>
    have hyl : X.env.scope.names.lookup y = some .local := by
      unfold swB at hs
      rw [Bool.and_eq_true, Bool.and_eq_true] at hs
      rw [a.names]
      simpa using hs.1.1
    by_cases hl : ∃ i, ixOf y Γ.N = some i
    · obtain ⟨i, hix⟩ := hl
      by_cases hb : blkB Γ scope = true ∧ ((tgIx Γ.N 9 tg1).all fun i => ((ownIx Γ.N scope).map (·.2)).contains i) = true
      · have ok := blkB_ok a hb.1
        have hv : ∀ i ∈ tgIx Γ.N 9 tg1, i ∈ (ownIx Γ.N scope).map (·.2) := fun i hi => by
          have z := List.all_eq_true.mp hb.2 i hi
          simpa using z
        refine PS.imp (ps_setLc2 (i := i) a.calm (by rw [a.N]; exact a.nd) (by rw [a.N]; exact ixOf_ok hix) hyl (by rw [sw_lc a, hs]) hi ok hv (fun s H C cl fp => pg_tgV (vs := (ownIx Γ.N scope).map (·.2)) (at_blk a ok.kind) 9 tg) ht hi1 (fun s H C cl fp => pg_tgV (vs := tgIx Γ.N 9 tg1) (at_blk a ok.kind) 9 tg1) ht1 he (plainSrc_ok hp X.env) (plainSrc_ok hp1)) fun D σ H q => ?_
        obtain ⟨j, _, hj, _, k⟩ := nameS_key q
        obtain rfl : i = j := Option.some.inj (hix.symm.trans hj)
        obtain ⟨ι, E, σE, R, rs, h⟩ := k
        unfold lcE2 at h
        rw [if_pos hb] at h
        exact lc2_ok σ H _ ⟨ι, E, σE, R, rs, h⟩
      · exact ps_no fun σ E => by
          unfold nameS asgS lcE2
          split
          · first | rfl | (rw [if_neg hb]; rfl)
          · rfl
    · exact ps_no fun σ E => by
        unfold nameS
        rw [if_neg fun h => hl (Option.isSome_iff_exists.mp h.2)]
end
end G

set_option Elab.async false
set_option linter.all false
set_option maxRecDepth 100000
set_option maxHeartbeats 4000000
namespace G
open PySem L2 PySem.Spec PyProof.Rows
variable {M : Md} {H H' H1 H2 : Hp} {ι ι' ι1 ι2 : List Addr} {X : Cx} {W' : WX}

/-! ### dicts by tuples -/
section
variable {pins : List (Addr × Obj)} {σ : L2.St} {s : Shared}
mutual
theorem nest_ok (I : Inv X pins σ H s) (aK : X.K = M.K) : ∀ {w : W} {v : V} {u : Value}, kOk w = true → RelW M H ι w v → RelV v u → NestedIs s.heap (nk w) u
  | .non, v, u, _, r, q => by
    rw [show v = .non from r] at q
    obtain rfl : u = Value.none := q
    exact .none
  | .bl b, v, u, _, r, q => by
    rw [show v = .bl b from r] at q
    obtain rfl : u = Value.bool b := q
    exact .bool rfl
  | .int i, v, u, _, r, q => by
    rw [show v = .int i from r] at q
    obtain ⟨t, rfl⟩ : ∃ t, u = Value.int i t := q
    exact .int i t
  | .str x, v, u, _, r, q => by
    rw [show v = .str x from r] at q
    obtain ⟨t, rfl⟩ : ∃ t, u = Value.str x t := q
    exact .text x t
  | .tup ws, v, u, h, r, q => by
    obtain ⟨a, vs, rfl, ht, rs⟩ := r
    obtain rfl : u = Value.ref a := q
    obtain ⟨its, rv, ⟨o, h1, h2, n, h3⟩, _⟩ := I.tuple (by rw [aK]; exact ht)
    exact .tup h1 h2 h3 (by simpa using nest_oks I aK (by simpa [kOk] using h) rs rv)
  | .ref _, _, _, h, _, _ => by simp [kOk] at h
  | .fn _, _, _, h, _, _ => by simp [kOk] at h
  | .ty _, _, _, h, _, _ => by simp [kOk] at h
theorem nest_oks (I : Inv X pins σ H s) (aK : X.K = M.K) : ∀ {ws : List W} {vs : List V} {us : List Value}, kOks ws = true → RelWs M H ι ws vs → Vals vs us → NestedAll s.heap (nks ws) us
  | [], vs, us, _, r, q => by
    rw [show vs = [] from r] at q
    cases q
    exact .nil
  | w :: ws, vs, us, h, r, q => by
    obtain ⟨v, rs, rfl, r1, r2⟩ := r
    simp only [kOks, Bool.and_eq_true] at h
    cases q with
    | cons q1 q2 => exact .cons (nest_ok I aK h.1 r1 q1) (nest_oks I aK h.2 r2 q2)
end
end
/-- a dict by tuples, or an empty one -/
def dnOf (E : Hh) : W → Option (Nat × List (W × W))
  | .ref i => match (E : List O)[i]? with
    | some (.dN kvs) => some (i, kvs)
    | some (.dK []) => some (i, [])
    | _ => none
  | _ => none
/-- a tuple that may be a key -/
def tkOk : W → Bool
  | .tup ws => kOks ws && decide ((nk (.tup ws)).depth ≤ 8)
  | _ => false
abbrev EntR (M : Md) (H : Hp) (ι : List Addr) : W × W → Addr × V × Value → Prop := fun p q => (RelW M H ι p.1 (.ref q.1) ∧ kOk p.1 = true ∧ (nk p.1).depth ≤ 8) ∧ RelW M H ι p.2 q.2.1 ∧ RelV q.2.1 q.2.2
/-- what is known of one -/
structure DnAt (M : Md) (H : Hp) (ι : List Addr) (E : Hh) (h : Heap) (i : Nat) (a : Addr) (kvs : List (W × W)) (xs : List (Addr × V × Value)) : Prop where
  at' : ι[i]? = some a
  len : kvs.length ≤ sizeLine
  low : (a == sysModules) = false
  ent : Paired (EntR M H ι) kvs xs
  dict : h.DictOfH (nestedKind M.P M.w) a (ents kvs xs)
  mu : Mut (H a)
  obj : ∃ o, (E : List O)[i]? = some o ∧ Mt o = true
  nt : ∀ q, H a = some q → (∀ ys, q ≠ .tup ys) ∧ ∀ b ys, q ≠ .frz b ys
theorem ents_keys : ∀ {kvs : List (W × W)} {xs : List (Addr × V × Value)}, kvs.length = xs.length → (ents kvs xs).map (·.1) = kvs.map fun p => nk p.1
  | [], [], _ => rfl
  | p :: kvs, q :: xs, h => by
    show nk p.1 :: (ents kvs xs).map (·.1) = _
    rw [ents_keys (by simpa using h)]
    rfl
  | [], _ :: _, h => by simp at h
  | _ :: _, [], h => by simp at h
theorem ents_len : ∀ {kvs : List (W × W)} {xs : List (Addr × V × Value)}, kvs.length = xs.length → (ents kvs xs).length = kvs.length := fun {kvs xs} h => by
  unfold ents
  rw [List.length_zipWith, ← h, Nat.min_self]
theorem dn_ok {pins : List (Addr × Obj)} {σ : L2.St} {s : Shared} {E : Hh} {w : W} {i : Nat} {kvs : List (W × W)} {v : V} (I : Inv X pins σ H s) (aK : X.K = M.K) (R : Rel M ι E H) (h : dnOf E w = some (i, kvs)) (r : RelW M H ι w v) :
    ∃ a xs, w = .ref i ∧ v = .ref a ∧ DnAt M H ι E s.heap i a kvs xs := by
  cases w with
  | ref j =>
    obtain ⟨a, ha, rfl⟩ := r
    unfold dnOf at h
    dsimp only at h
    cases he : (E : List O)[j]? with
    | none => rw [he] at h; cases h
    | some o =>
      have ro := R.at he ha
      rw [he] at h
      cases o with
      | dN ks =>
        obtain ⟨rfl, rfl⟩ : j = i ∧ ks = kvs := by simpa using h
        obtain ⟨xs, h1, h2, h3, h4, h5⟩ := ro
        have hl := Paired.length h5
        refine ⟨a, xs, rfl, rfl, ha, h2, h3, h5, ?_, by rw [h1]; exact True.intro, ⟨_, he, rfl⟩, fun q hq => by rw [h1] at hq; cases hq; exact ⟨fun _ z => (nomatch z), fun _ _ z => (nomatch z)⟩⟩
        obtain ⟨⟨o, es, ep, g1, g2, g3, g4⟩, _⟩ := I.hok a _ h1
        refine ⟨o, es, ep, g1, g2, g3, g4, ?_, by rw [ents_keys hl]; exact h4⟩
        have go : ∀ {ks : List (W × W)} {xs : List (Addr × V × Value)}, Paired (EntR M H ι) ks xs → ∀ x ∈ ents ks xs, (nestedKind M.P M.w).is s.heap x.1 x.2.1 := by
          intro ks xs p
          induction p with
          | nil => intro x hx; cases hx
          | cons hp _ ih =>
            intro x hx
            rcases List.mem_cons.mp hx with e | hx
            · subst e
              obtain ⟨⟨a1, a2, a3⟩, _⟩ := hp
              exact ⟨nest_ok I aK a2 a1 rfl, a3⟩
            · exact ih x hx
        exact go h5
      | dK ks =>
        cases ks with
        | nil =>
          obtain ⟨rfl, rfl⟩ : j = i ∧ [] = kvs := by simpa using h
          obtain ⟨vs, h1, h2⟩ := ro
          have h1 : H a = some (.dK []) := h1
          obtain ⟨_, h3, us, rel, o, es, ep, g1, g2, g3, _, g5, _⟩ := dk_of I.hok h1
          cases rel
          refine ⟨a, [], rfl, rfl, ha, Nat.zero_le _, h3, .nil, ⟨o, es, ep, g1, g2, g3, ?_, (by intro x hx; simp [ents] at hx), List.nodup_nil⟩, by rw [h1]; exact True.intro, ⟨_, he, rfl⟩, fun q hq => by rw [h1] at hq; cases hq; exact ⟨fun _ z => (nomatch z), fun _ _ z => (nomatch z)⟩⟩
          cases hl : es.toList with
          | nil => rfl
          | cons x r => rw [hl] at g5; cases g5
        | cons p r => cases h
      | lst ks => cases h
      | slst ks => cases h
      | sdN ks => cases h
      | sdK ks => cases h
      | exc b => cases h
      | cup b => cases h
  | _ => cases h
/-- the value at a key -/
def lkN (kvs : List (W × W)) (k : NestedKey) : Option W := match kvs with
  | [] => none
  | p :: r => if NestedKey.beq (nk p.1) k = true then some p.2 else lkN r k
theorem beq_dec {a b : NestedKey} : (NestedKey.beq a b = true) ↔ a = b := ⟨NestedKey.eq_of_beq a b, fun e => by rw [e]; exact NestedKey.beq_self b⟩
theorem lkN_ok {k : NestedKey} {kvs : List (W × W)} {xs : List (Addr × V × Value)} (h : Paired (EntR M H ι) kvs xs) : (∀ w, lkN kvs k = some w → ∃ q v, atKey (ents kvs xs) k = some q ∧ RelW M H ι w v ∧ RelV v q.2) ∧ (lkN kvs k = none → atKey (ents kvs xs) k = none) := by
  induction h with
  | nil => exact ⟨fun w h => (nomatch h), fun _ => rfl⟩
  | @cons p q ps qs hp _ ih =>
    have e0 : ents (p :: ps) (q :: qs) = (nk p.1, q.1, q.2.2) :: ents ps qs := rfl
    by_cases e : nk p.1 = k
    · have h1 : lkN (p :: ps) k = some p.2 := by unfold lkN; rw [if_pos (beq_dec.mpr e)]
      have h2 : atKey (ents (p :: ps) (q :: qs)) k = some (q.1, q.2.2) := by rw [e0]; simp [atKey, List.find?_cons, e]
      rw [h1, h2]
      refine ⟨fun w hw => ?_, fun h => (nomatch h)⟩
      obtain rfl := Option.some.inj hw
      exact ⟨_, _, rfl, hp.2.1, hp.2.2⟩
    · have h1 : lkN (p :: ps) k = lkN ps k := by conv => lhs; unfold lkN
                                                 rw [if_neg (fun z => e (beq_dec.mp z))]
      have h2 : atKey (ents (p :: ps) (q :: qs)) k = atKey (ents ps qs) k := by rw [e0]; simp [atKey, List.find?_cons, e]
      rw [h1, h2]
      exact ih
theorem tk_ok {pins : List (Addr × Obj)} {σ : L2.St} {s : Shared} {w : W} {v : V} {u : Value} (I : Inv X pins σ H s) (aK : X.K = M.K) (h : tkOk w = true) (r : RelW M H ι w v) (q : RelV v u) : ∃ b, v = .ref b ∧ u = .ref b ∧ (nestedKind M.P M.w).is s.heap (nk w) b := by
  cases w with
  | tup ws =>
    simp only [tkOk, Bool.and_eq_true, decide_eq_true_eq] at h
    have z := nest_ok I aK (w := .tup ws) (by simpa [kOk] using h.1) r q
    obtain ⟨a, vs, rfl, ht, rs⟩ := r
    obtain rfl : u = Value.ref a := q
    exact ⟨a, rfl, rfl, z, h.2⟩
  | _ => cases h
theorem room_n {A : Around} (h : A.units + 65 < cLine) : (nestedKind M.P M.w).room A.in1 := by
  show A.units + 1 + 8 < cLine
  omega
/-! ### in -/
def lkDn (E : Hh) (d y : W) : Option (Option W) := match dnOf E d with
  | some (_, kvs) => if tkOk y = true then some (lkN kvs (nk y)) else none
  | none => none
def rInN (M : Md) (neg : Bool) : R2 := fun x y H Q => ∃ ι E wx wy o, Rel M ι E H ∧ RelW M H ι wx x ∧ RelW M H ι wy y ∧ lkDn E wy wx = some o ∧ Q (.bl (if neg then !o.isSome else o.isSome)) H
theorem lkDn_ok {pins : List (Addr × Obj)} {σ : L2.St} {s : Shared} {E : Hh} {wx wy : W} {x y : V} {u : Value} {o : Option W} (I : Inv X pins σ H s) (aK : X.K = M.K) (R : Rel M ι E H) (rx : RelW M H ι wx x) (ry : RelW M H ι wy y) (ru : RelV x u) (h : lkDn E wy wx = some o) :
    ∃ a b i kvs xs, y = .ref a ∧ u = .ref b ∧ DnAt M H ι E s.heap i a kvs xs ∧ (nestedKind M.P M.w).is s.heap (nk wx) b ∧ o = lkN kvs (nk wx) := by
  unfold lkDn at h
  cases e : dnOf E wy with
  | none => rw [e] at h; cases h
  | some p =>
    obtain ⟨i, kvs⟩ := p
    rw [e] at h
    dsimp only at h
    split at h
    · rename_i ht
      obtain ⟨a, xs, _, rfl, d⟩ := dn_ok I aK R e ry
      obtain ⟨b, _, rfl, z⟩ := tk_ok I aK ht rx ru
      exact ⟨a, b, i, kvs, xs, rfl, rfl, d, z, (Option.some.inj h).symm⟩
    · cases h
theorem some_eq {kvs : List (W × W)} {xs : List (Addr × V × Value)} {k : NestedKey} (h : Paired (EntR M H ι) kvs xs) : (atKey (ents kvs xs) k).isSome = (lkN kvs k).isSome := by
  cases e : lkN kvs k with
  | none => rw [(lkN_ok h).2 e]; rfl
  | some w => obtain ⟨q, v, e2, _⟩ := (lkN_ok h).1 w e; rw [e2]; rfl
theorem op_inN (aP : X.prog = M.P) (aw : X.w = M.w) (aK : X.K = M.K) (hu : X.A.units + 65 < cLine) : OpR X (compareOp .In) (rInN M false) := by
  intro pins s σ H x y v u Q I rx ry h
  obtain ⟨ι, E, wx, wy, o, R, rwx, rwy, e, q⟩ := h
  obtain ⟨a, b, i, kvs, xs, rfl, rfl, d, kb, rfl⟩ := lkDn_ok I aK R rwx rwy rx e
  obtain rfl : u = Value.ref a := ry
  rw [aP, aw]
  refine wpAny_in_heap (room_n hu) kb d.low d.dict ?_
  rw [some_eq d.ent]
  exact ⟨.bl _, H, I.tok (s.toks + (nestedKind M.P M.w).draws (nk wx)), rfl, q⟩
theorem op_notInN (aP : X.prog = M.P) (aw : X.w = M.w) (aK : X.K = M.K) (hu : X.A.units + 65 < cLine) : OpR X (compareOp .NotIn) (rInN M true) := by
  intro pins s σ H x y v u Q I rx ry h
  obtain ⟨ι, E, wx, wy, o, R, rwx, rwy, e, q⟩ := h
  obtain ⟨a, b, i, kvs, xs, rfl, rfl, d, kb, rfl⟩ := lkDn_ok I aK R rwx rwy rx e
  obtain rfl : u = Value.ref a := ry
  rw [aP, aw]
  refine wpAny_notIn_heap (room_n hu) kb d.low d.dict ?_
  rw [some_eq d.ent]
  exact ⟨.bl _, H, I.tok (s.toks + (nestedKind M.P M.w).draws (nk wx)), rfl, q⟩
end G

set_option Elab.async false
set_option linter.all false
set_option maxRecDepth 100000
set_option maxHeartbeats 4000000
namespace G
open PySem L2 PySem.Spec PyProof.Rows
variable {M : Md} {H H' H1 H2 : Hp} {ι ι' ι1 ι2 : List Addr} {X : Cx} {W' : WX}

/-! ### d[k] -/
def rIxN (M : Md) : R2 := fun x y H Q => ∃ ι E wx wy w, Rel M ι E H ∧ RelW M H ι wx x ∧ RelW M H ι wy y ∧ lkDn E wx wy = some (some w) ∧ Fin M ι H w E Q
theorem ix_N (aP : X.prog = M.P) (aw : X.w = M.w) (aK : X.K = M.K) (hu : X.A.units + 65 < cLine) : IxR X (rIxN M) := by
  intro value slice pins s σ H x y v u Q I rx ry h hs
  obtain ⟨ι, E, wx, wy, w, R, rwx, rwy, e, k⟩ := h
  obtain ⟨a, b, i, kvs, xs, rfl, rfl, d, kb, e2⟩ := lkDn_ok I aK R rwy rwx ry e
  obtain rfl : v = Value.ref a := rx
  obtain ⟨p, vv, hp, rw1, rv1⟩ := (lkN_ok d.ent).1 w e2.symm
  refine tail_any d.dict.typeIs PySem.F.slot_dict_getitem.lookup ?_ hs
  rw [aP, aw]
  exact wpAny_getItem_heap (room_n hu) kb d.dict hp ⟨vv, H, I.tok (s.toks + (nestedKind M.P M.w).draws (nk wy)), rv1, k.now R rw1⟩
/-! ### d[k] = v -/
def putN (kvs : List (W × W)) (kw w : W) : List (W × W) := if (lkN kvs (nk kw)).isSome = true then kvs.map (fun p => if NestedKey.beq (nk p.1) (nk kw) = true then (p.1, w) else p) else kvs ++ [(kw, w)]
theorem put_ok {kvs : List (W × W)} {xs : List (Addr × V × Value)} {kw w : W} {b : Addr} {v : V} {u : Value} (h : Paired (EntR M H ι) kvs xs) (rk : RelW M H ι kw (.ref b)) (ko : kOk kw = true) (kd : (nk kw).depth ≤ 8) (rw' : RelW M H ι w v) (rv : RelV v u) :
    ∃ xs', ents (putN kvs kw w) xs' = storedH (ents kvs xs) (nk kw) b u ∧ Paired (EntR M H ι) (putN kvs kw w) xs' := by
  unfold putN storedH
  rw [some_eq h]
  by_cases e : (lkN kvs (nk kw)).isSome = true
  · rw [if_pos e, if_pos e]
    clear e
    induction h with
    | nil => exact ⟨[], rfl, .nil⟩
    | @cons p q ps qs hp _ ih =>
      obtain ⟨xs', e1, p1⟩ := ih
      by_cases e : nk p.1 = nk kw
      · refine ⟨(q.1, v, u) :: xs', ?_, ?_⟩
        · rw [List.map_cons, if_pos (beq_dec.mpr e)]
          show (nk p.1, q.1, u) :: ents _ xs' = putAt (nk kw) u (nk p.1, q.1, q.2.2) :: (ents ps qs).map (putAt (nk kw) u)
          rw [e1]
          simp [putAt, e]
        · rw [List.map_cons, if_pos (beq_dec.mpr e)]
          exact .cons ⟨hp.1, rw', rv⟩ p1
      · refine ⟨q :: xs', ?_, ?_⟩
        · rw [List.map_cons, if_neg (fun z => e (beq_dec.mp z))]
          show (nk p.1, q.1, q.2.2) :: ents _ xs' = putAt (nk kw) u (nk p.1, q.1, q.2.2) :: (ents ps qs).map (putAt (nk kw) u)
          rw [e1]
          simp [putAt, e]
        · rw [List.map_cons, if_neg (fun z => e (beq_dec.mp z))]
          exact .cons hp p1
  · rw [if_neg e, if_neg e]
    refine ⟨xs ++ [(b, v, u)], ?_, Paired.snoc h ⟨⟨rk, ko, kd⟩, rw', rv⟩⟩
    show List.zipWith _ (kvs ++ [(kw, w)]) (xs ++ [(b, v, u)]) = _
    rw [List.zipWith_append (Paired.length h)]
    rfl
theorem putN_len {kvs : List (W × W)} {kw w : W} : (putN kvs kw w).length ≤ kvs.length + 1 := by
  unfold putN
  split
  · rw [List.length_map]; omega
  · rw [List.length_append]; exact Nat.le_refl _
def wSetN (o i w : W) (E : Hh) : Option Hh := match dnOf E o with
  | some (n, kvs) => if tkOk i = true ∧ kvs.length ≤ few then some (E.set n (.dN (putN kvs i w))) else none
  | none => none
def rSetN (M : Md) : V → V → V → Hp → (Hp → Prop) → Prop := fun o i v H Q => ∃ ι E wo wi w E', Rel M ι E H ∧ RelW M H ι wo o ∧ RelW M H ι wi i ∧ RelW M H ι w v ∧ wSetN wo wi w E = some E' ∧ ∀ ι' H', Ext M ι H ι' H' → Rel M ι' E' H' → Q H'
theorem ext_new {P : Program} {wd : World} {H' : Hp} {h' : Heap} {a : Addr} {xs : List (NestedKey × Addr × Value)} (d : h'.DictOfH (nestedKind P wd) a xs) : ObjOk P wd H' h' a (DkAt P wd a xs) := by
  obtain ⟨o, es, ep, g1, g2, g3, g4, _⟩ := d
  exact ⟨⟨o, es, ep, g1, g2, g3, g4⟩, ⟨o, g1⟩, fun h1 h2 ⟨o, es, ep, g1, g⟩ k => ⟨o, es, ep, k o g1, g⟩⟩
/-- the store itself -/
theorem setN_ok {pins : List (Addr × Obj)} {σ : L2.St} {s : Shared} {E E' : Hh} {wo wi w : W} {o i v : V} {ov iv u : Value} {Q : Hp → Prop} (aP : X.prog = M.P) (aw : X.w = M.w) (aK : X.K = M.K) (hu : X.A.units + 65 < cLine) (I : Inv X pins σ H s) (ro : RelV o ov) (ri : RelV i iv) (rv : RelV v u)
    (R : Rel M ι E H) (rwo : RelW M H ι wo o) (rwi : RelW M H ι wi i) (rww : RelW M H ι w v) (e : wSetN wo wi w E = some E') (k : ∀ ι' H', Ext M ι H ι' H' → Rel M ι' E' H' → Q H') :
    wpAny (model X.prog X.w) X.A (setItem ov iv u) (fun _ s' => ∃ H', Inv X pins σ H' s' ∧ Q H') X.xe s := by
  unfold wSetN at e
  cases e1 : dnOf E wo with
  | none => rw [e1] at e; cases e
  | some p =>
    obtain ⟨n, kvs⟩ := p
    rw [e1] at e
    dsimp only at e
    split at e
    · rename_i hc
      obtain rfl := Option.some.inj e
      obtain ⟨a, xs, rfl, rfl, d⟩ := dn_ok I aK R e1 rwo
      obtain ⟨b, rfl, rfl, kb⟩ := tk_ok I aK hc.1 rwi ri
      obtain rfl : ov = Value.ref a := ro
      have hl := Paired.length d.ent
      have ko : kOk wi = true ∧ (nk wi).depth ≤ 8 := by
        cases wi with
        | tup ws => have z := hc.1; simp only [tkOk, Bool.and_eq_true, decide_eq_true_eq] at z; exact ⟨by simpa [kOk] using z.1, z.2⟩
        | _ => cases hc.1
      obtain ⟨xs', ex, pe⟩ := put_ok d.ent rwi ko.1 ko.2 rww rv
      obtain ⟨ob, hob, hm⟩ := d.obj
      rw [aP, aw]
      refine wpAny_setItem_heap (hsz := by rw [ents_len hl]; exact d.len) (room_n hu) kb d.dict fun h' dd hs => ?_
      have dd2 := dd
      rw [← ex] at dd2
      have nd : ((putN kvs wi w).map fun p => nk p.1).Nodup := by
        rw [← ents_keys (Paired.length pe)]
        exact dd2.nodup
      have len2 : (putN kvs wi w).length ≤ sizeLine := Nat.le_trans putN_len (few_lt hc.2)
      have new : ObjOk X.prog X.w (upd H a (DkAt M.P M.w a (ents (putN kvs wi w) xs'))) h' a (DkAt M.P M.w a (ents (putN kvs wi w) xs')) := by
        rw [aP, aw]
        exact ext_new dd2
      have I2 : Inv X pins σ (upd H a (DkAt M.P M.w a (ents (putN kvs wi w) xs'))) { s with heap := h', toks := s.toks + (nestedKind M.P M.w).draws (nk wi) } :=
        d_write I d.mu hs (by obtain ⟨o, _, _, g1, _⟩ := dd2; exact ⟨o, g1⟩) new
      obtain ⟨R2, x2⟩ := Rel.put (o := .dN (putN kvs wi w)) (ho := DkAt M.P M.w a (ents (putN kvs wi w) xs')) R d.at' hob hm d.nt rfl fun x =>
        ⟨xs', upd_same, len2, d.low, nd, Paired.mapP pe fun p q ⟨⟨a1, a2⟩, a3, a4⟩ => ⟨⟨a1.ext x, a2⟩, a3.ext x, a4⟩⟩
      exact ⟨_, I2, k _ _ x2 R2⟩
    · cases e
theorem set_N (aP : X.prog = M.P) (aw : X.w = M.w) (aK : X.K = M.K) (hu : X.A.units + 65 < cLine) : PSet X (rSetN M) := by
  intro pins s σ H o i v ov iv u Q I ro ri rv ⟨ι, E, wo, wi, w, E', R, rwo, rwi, rww, e, k⟩
  exact setN_ok aP aw aK hu I ro ri rv R rwo rwi rww e k
/-! ### its truth, its length -/
theorem raw_len {P : Program} {wd : World} {A : Around} {E : Value → Shared → Prop} {s : Shared} {d : Addr} {es : Array DictEntry} {ep : Nat} {Q : Value → Shared → Prop} (hd : (d == sysModules) = false) (hm : s.heap.DictRaw d es ep) (hfit : (es.size : Int) < 2 ^ 63)
    (h : ∀ t s', s'.heap = s.heap → { s with toks := s'.toks } = s' → Q (.int es.size t) s') : wpAny (model P wd) A (Builtin.«len» ⟨[.ref d], []⟩) (fun fin s' => ∃ r, fin = .done (.ret r) ∧ Q r s') E s := by
  unfold Builtin.«len»
  refine wpAny_bind (m := oneArg "len" _) (wpAny_pure ?_)
  refine wpAny_bind (m := callSpecial? (.ref d) (Str.ofString "__len__")) (wpAny_callSpecial?_slot (name := Str.ofString "__len__") hm.typeIs PySem.F.slot_dict_len (call_len_raw hd hm ?_))
  refine wpAny_bind (wpAny_holding (wpAny_pure ?_))
  refine wpAny_bind (wpAny_letGo ?_)
  show wpAny _ _ (if ((es.size : Nat) : Int) < 0 then _ else _) _ _ _
  rw [if_neg (by omega)]
  show wpAny _ _ (if ((es.size : Nat) : Int) ≥ 2 ^ 63 then _ else _) _ _ _
  rw [if_neg (by omega)]
  exact wpAny_bind (wpAny_mkInt (wpAny_pure ⟨_, rfl, h _ _ rfl rfl⟩))
theorem raw_truth {P : Program} {wd : World} {A : Around} {E : Value → Shared → Prop} {s : Shared} {d : Addr} {es : Array DictEntry} {ep : Nat} {Q : Bool → Shared → Prop} (hd : (d == sysModules) = false) (hm : s.heap.DictRaw d es ep) (hfit : (es.size : Int) < 2 ^ 63)
    (h : ∀ s', s'.heap = s.heap → { s with toks := s'.toks } = s' → Q ((es.size : Int) != 0) s') : wpAny (model P wd) A (truthy (.ref d)) Q E s := by
  have ln : wpAny (model P wd) A (runValue (.builtin "len" ⟨[.ref d], []⟩)) (fun r s' => (∃ t, r = .int es.size t) ∧ s'.heap = s.heap ∧ { s with toks := s'.toks } = s') E s := by
    refine wpAny_runValue (codeAny_builtin entry_len ?_)
    rw [Around.under_plainId plain_len _]
    exact wpAny_mono (raw_len (Q := fun r s' => (∃ t, r = .int es.size t) ∧ s'.heap = s.heap ∧ { s with toks := s'.toks } = s') hd hm hfit fun t s' a b => ⟨⟨t, rfl⟩, a, b⟩) (fun fin s' ⟨r, e, q⟩ => by subst e; exact q) fun _ _ e => e
  unfold truthy
  first
    | refine wpAny_bind (wpAny_callSpecial?_none (name := Str.ofString "__bool__") hm.typeIs noBool_dict ?_)
    | refine wpAny_bind (wpAny_pure (wpAny_bind (wpAny_callSpecial?_none (name := Str.ofString "__bool__") hm.typeIs noBool_dict ?_)))
  first
    | refine wpAny_bind (wpAny_specialOf (name := Str.ofString "__len__") hm.typeIs PySem.F.slot_dict_len.lookup ?_)
    | refine wpAny_bind (wpAny_pure (wpAny_bind (wpAny_specialOf (name := Str.ofString "__len__") hm.typeIs PySem.F.slot_dict_len.lookup ?_)))
  have fin : wpAny (model P wd) A (runValue (.builtin "len" ⟨[.ref d], []⟩)) (fun r s' => wpAny (model P wd) A (match r with
      | .int n _ => pure (n != 0)
      | _ => unsupported "internal:truth.len") Q E s') E s := wpAny_mono ln (fun r s' ⟨⟨t, e⟩, a, b⟩ => by subst e; exact wpAny_pure (h s' a b)) fun _ _ e => e
  first
    | exact wpAny_bind fin
    | exact wpAny_bind (wpAny_pure (wpAny_bind fin))
def rTruN (M : Md) : V → Hp → (Bool → Hp → Prop) → Prop := fun x H Q => ∃ ι E wx n kvs, Rel M ι E H ∧ RelW M H ι wx x ∧ dnOf E wx = some (n, kvs) ∧ Q (!kvs.isEmpty) H
theorem dn_raw {E : Hh} {h : Heap} {i : Nat} {a : Addr} {kvs : List (W × W)} {xs : List (Addr × V × Value)} (d : DnAt M H ι E h i a kvs xs) : ∃ es ep, h.DictRaw a es ep ∧ es.size = kvs.length := by
  obtain ⟨es, ep, hr, hs, _⟩ := d.dict.raw
  exact ⟨es, ep, hr, by rw [hs, ents_len (Paired.length d.ent)]⟩
theorem tru_N (aK : X.K = M.K) : TruR X (rTruN M) := by
  intro pins s σ H x v Q I rx ⟨ι, E, wx, n, kvs, R, rwx, e, q⟩
  obtain ⟨a, xs, rfl, rfl, d⟩ := dn_ok I aK R e rwx
  obtain rfl : v = Value.ref a := rx
  obtain ⟨es, ep, hr, hs⟩ := dn_raw d
  have hb : ((es.size : Int) != 0) = !kvs.isEmpty := by
    rw [hs]
    cases kvs <;> simp <;> omega
  refine raw_truth d.low hr (by rw [hs]; have := d.len; rw [sizeLine_eq] at this; omega) fun s' a b => ?_
  rw [← b, hb]
  exact ⟨H, I.tok _, q⟩
def rLenN (M : Md) : List V → Hp → VK → Prop := fun xs H Q => ∃ ι E x wx n kvs, xs = [x] ∧ Rel M ι E H ∧ RelW M H ι wx x ∧ dnOf E wx = some (n, kvs) ∧ Q (.int kvs.length) H
theorem cr_lenN (aK : X.K = M.K) : CallR X (.builtin "len") (rLenN M) := by
  intro pins s σ H xs us Q I rx ⟨ι, E, x, wx, n, kvs, e0, R, rwx, e, q⟩
  subst e0
  obtain ⟨u, rfl, ru⟩ := vals1 rx
  obtain ⟨a, xs, rfl, rfl, d⟩ := dn_ok I aK R e rwx
  obtain rfl : u = Value.ref a := ru
  obtain ⟨es, ep, hr, hs⟩ := dn_raw d
  refine Calls.call_function_entry kind_len plain_len entry_len (args_len1 _) (raw_len d.low hr (by rw [hs]; have := d.len; rw [sizeLine_eq] at this; omega) fun t s' a b => ?_)
  rw [← b, hs]
  exact ⟨.int kvs.length, H, I.tok _, ⟨_, rfl⟩, q⟩
end G

set_option Elab.async false
set_option linter.all false
set_option maxRecDepth 100000
set_option maxHeartbeats 4000000
namespace G
open PySem L2 PySem.Spec PyProof.Rows
variable {M : Md} {H H' H1 H2 : Hp} {ι ι' ι1 ι2 : List Addr} {X : Cx} {W' : WX}

theorem PI.or2 {tg e : Expr} {t1 t2 : TI} (h1 : PI X tg e t1) (h2 : PI X tg e t2) : PI X tg e (fun σ H R => t1 σ H R ∨ t2 σ H R) := ⟨fun pins s σ H R I q => q.elim (h1.run pins s σ H R I) (h2.run pins s σ H R I)⟩
theorem PE.or2 {e : Expr} {t1 t2 : TE} (h1 : PE X e t1) (h2 : PE X e t2) : PE X e (fun σ H Q => t1 σ H Q ∨ t2 σ H Q) := ⟨fun pins s σ H R I q => q.elim (h1.run pins s σ H R I) (h2.run pins s σ H R I)⟩
/-! ### a dict that is walked is locked -/
def lockO : O → Option O
  | .dN kvs => some (.sdN kvs)
  | .dK kvs => some (.sdK kvs)
  | _ => none
def freeO : O → Option O
  | .sdN kvs => some (.dN kvs)
  | .sdK kvs => some (.dK kvs)
  | _ => none
theorem RelO.nofrz {a : Addr} {o : O} (h : RelO M H ι a o) (m : Mt o = true) : ∀ od u, H a ≠ some (.frz od u) := fun od u z => by
  cases o with
  | lst ws => obtain ⟨_, h1, _⟩ := h; rw [z] at h1; cases h1
  | dK ws => obtain ⟨_, h1, _⟩ := h; rw [z] at h1; cases h1
  | dN ws => obtain ⟨_, h1, _⟩ := h; rw [z] at h1; cases h1
  | slst ws => cases m
  | sdN ws => cases m
  | sdK ws => cases m
  | exc b => cases m
  | cup j => rw [show H a = _ from h] at z; cases z
/-- what may be locked -/
def Dic (u : HO) : Prop := (∃ kvs, u = .dK kvs) ∨ ∃ φ, u = .ext φ
theorem Dic.mut {u : HO} (h : Dic u) : Mut (some u) := by
  rcases h with ⟨_, rfl⟩ | ⟨_, rfl⟩ <;> exact True.intro
theorem Dic.nt {u : HO} (h : Dic u) : (∀ xs, u ≠ .tup xs) ∧ (∀ b xs, u ≠ .frz b xs) ∧ ∀ xs, u ≠ .lst xs := by
  rcases h with ⟨_, rfl⟩ | ⟨_, rfl⟩ <;> exact ⟨fun _ z => (nomatch z), fun _ _ z => (nomatch z), fun _ z => (nomatch z)⟩
theorem lock_rel {E : Hh} {i : Nat} {a : Addr} {o o' : O} (R : Rel M ι E H) (ha : ι[i]? = some a) (he : (E : List O)[i]? = some o) (hl : lockO o = some o') :
    ∃ u, H a = some u ∧ Dic u ∧ ∀ od, Rel M ι (E.set i o') (upd H a (.frz od u)) ∧ Ext M ι H ι (upd H a (.frz od u)) := by
  have ro := R.at he ha
  have mo : Mt o = true := by cases o <;> first | rfl | cases hl
  obtain ⟨u, hu, du, new⟩ : ∃ u, H a = some u ∧ Dic u ∧ ∀ od, Ext M ι H ι (upd H a (.frz od u)) → RelO M (upd H a (.frz od u)) ι a o' := by
    cases o with
    | dN kvs =>
      obtain rfl := Option.some.inj hl
      obtain ⟨xs, h1, h2, h3, h4, h5⟩ := ro
      exact ⟨_, h1, .inr ⟨_, rfl⟩, fun od x => ⟨xs, od, upd_same, h2, h3, h4, Paired.mapP h5 fun p q ⟨⟨a1, a2⟩, a3, a4⟩ => ⟨⟨a1.ext x, a2⟩, a3.ext x, a4⟩⟩⟩
    | dK kvs =>
      obtain rfl := Option.some.inj hl
      obtain ⟨vs, h1, h2⟩ := ro
      exact ⟨_, h1, .inl ⟨_, rfl⟩, fun od x => ⟨vs, od, upd_same, h2.ext x⟩⟩
    | _ => cases hl
  refine ⟨u, hu, du, fun od => ?_⟩
  obtain ⟨n1, n2, n3⟩ := du.nt
  have nf : ∀ b q v, H b = some (.frz q v) → b ≠ a := fun b q v h z => by rw [z, hu] at h; exact n2 _ _ (Option.some.inj h)
  have x : Ext M ι H ι (upd H a (.frz od u)) := by
    refine ⟨List.prefix_refl _, fun b xs h => ?_, fun b q v h => by rw [upd_ne (nf b q v h)]; exact h⟩
    rcases h with (h | ⟨ob, h⟩) | h
    · exact .inl (.inl (by rw [upd_ne (fun z => by rw [z, hu] at h; exact n1 xs (Option.some.inj h))]; exact h))
    · exact .inl (.inr ⟨ob, by rw [upd_ne (nf _ _ _ h)]; exact h⟩)
    · exact .inr h
  have hi : i < E.length := (List.getElem?_eq_some_iff.mp he).1
  have set_at : ∀ (j : Nat) (v : O), (E.set i o')[j]? = some v → j = i ∧ v = o' ∨ j ≠ i ∧ E[j]? = some v := fun j v e => by
    by_cases hj : j = i
    · subst hj
      rw [List.getElem?_set_self hi] at e
      exact .inl ⟨rfl, (Option.some.inj e).symm⟩
    · rw [List.getElem?_set_ne (Ne.symm hj)] at e
      exact .inr ⟨hj, e⟩
  refine ⟨⟨by rw [List.length_set]; exact R.len, fun j k b v1 v2 h1 h2 e1 e2 m1 m2 => ?_, fun j v e => ?_, Tabs.putN R.tabs hu (ro.noCode mo hu)⟩, x⟩
  · rcases set_at j v1 e1 with ⟨l1, g1⟩ | ⟨l1, g1⟩ <;> rcases set_at k v2 e2 with ⟨l2, g2⟩ | ⟨l2, g2⟩
    · rw [l1, l2]
    · rw [l1] at h1 ⊢
      exact R.inj i k b o v2 h1 h2 he g2 (Mt.ow mo) m2
    · rw [l2] at h2 ⊢
      exact R.inj j i b v1 o h1 h2 g1 he m1 (Mt.ow mo)
    · exact R.inj j k b v1 v2 h1 h2 g1 g2 m1 m2
  · rcases set_at j v e with ⟨l1, g1⟩ | ⟨l1, g1⟩
    · subst l1
      subst g1
      exact ⟨a, ha, new od x⟩
    · obtain ⟨b, eb, rb⟩ := R.obj j v g1
      refine ⟨b, eb, rb.other x (fun c xs h => ?_) (fun c q w h => by rw [upd_ne (nf c q w h)]; exact h) fun m z => ?_⟩
      · rcases h with ⟨ob, h⟩ | h
        · exact .inl ⟨ob, by rw [upd_ne (nf _ _ _ h)]; exact h⟩
        · exact .inr h
      · subst z
        exact l1 (R.inj j i b v o eb ha g1 he m (Mt.ow mo))
mutual
theorem RelW.tps (t : ∀ b xs, SqT M.K H b xs → SqT M.K H' b xs) : ∀ {w : W} {v : V}, RelW M H ι w v → RelW M H' ι w v
  | .non, _, h => h
  | .bl _, _, h => h
  | .int _, _, h => h
  | .str _, _, h => h
  | .tup ws, v, h => by
    obtain ⟨a, vs, e, ht, hw⟩ := h
    exact ⟨a, vs, e, t _ _ ht, RelWs.tps t hw⟩
  | .ref i, v, h => h
  | .fn _, _, h => h
  | .ty _, _, h => h
theorem RelWs.tps (t : ∀ b xs, SqT M.K H b xs → SqT M.K H' b xs) : ∀ {ws : List W} {vs : List V}, RelWs M H ι ws vs → RelWs M H' ι ws vs
  | [], _, h => h
  | w :: ws, vs, h => by
    obtain ⟨v, r, e, h1, h2⟩ := h
    exact ⟨v, r, e, RelW.tps t h1, RelWs.tps t h2⟩
end
theorem free_rel {E : Hh} {i : Nat} {a : Addr} {od : Obj} {u : HO} {o o' : O} (R : Rel M ι' E H') (ha : ι'[i]? = some a) (he : (E : List O)[i]? = some o) (hl : freeO o = some o') (hf : H' a = some (.frz od u)) (du : Dic u)
    (x : Ext M ι H ι' H') (h0 : ∀ q w, H a ≠ some (.frz q w)) : Rel M ι' (E.set i o') (upd H' a u) ∧ Ext M ι H ι' (upd H' a u) := by
  have ro := R.at he ha
  obtain ⟨n1, n2, n3⟩ := du.nt
  have nf : ∀ b v, H' b = some v → (∀ q w, v ≠ .frz q w) → b ≠ a := fun b v h n z => by rw [z, hf] at h; cases h; exact n _ _ rfl
  have tp : ∀ b xs, SqT M.K H' b xs → SqT M.K (upd H' a u) b xs := fun b xs h => by
    rcases h with (h | ⟨ob, h⟩) | h
    · exact .inl (.inl (by rw [upd_ne (nf b _ h (fun _ _ z => nomatch z))]; exact h))
    · exact .inl (.inr ⟨ob, by rw [upd_ne (fun z => by rw [z, hf] at h; cases h; exact n1 _ rfl)]; exact h⟩)
    · exact .inr h
  have st : ∀ b xs, StL M.K H' b xs → StL M.K (upd H' a u) b xs := fun b xs h => by
    rcases h with ⟨ob, h⟩ | h
    · exact .inl ⟨ob, by rw [upd_ne (fun z => by rw [z, hf] at h; cases h; exact n3 _ rfl)]; exact h⟩
    · exact .inr h
  have r1 : ∀ {w v}, RelW M H' ι' w v → RelW M (upd H' a u) ι' w v := fun h => RelW.tps tp h
  have rs : ∀ {w v}, RelWs M H' ι' w v → RelWs M (upd H' a u) ι' w v := fun h => RelWs.tps tp h
  have hi : i < E.length := (List.getElem?_eq_some_iff.mp he).1
  have set_at : ∀ (j : Nat) (v : O), (E.set i o')[j]? = some v → j = i ∧ v = o' ∨ j ≠ i ∧ E[j]? = some v := fun j v e => by
    by_cases hj : j = i
    · subst hj
      rw [List.getElem?_set_self hi] at e
      exact .inl ⟨rfl, (Option.some.inj e).symm⟩
    · rw [List.getElem?_set_ne (Ne.symm hj)] at e
      exact .inr ⟨hj, e⟩
  have oo : Ow o = true := by cases o <;> first | rfl | cases hl
  have away : ∀ (j : Nat) (v : O), j ≠ i → ι'[j]? = some a → (E : List O)[j]? = some v → Ow v = true → False := fun j v n h1 h2 m => n (R.inj j i a v o h1 ha h2 he m oo)
  refine ⟨⟨by rw [List.length_set]; exact R.len, fun j k b v1 v2 h1 h2 e1 e2 m1 m2 => ?_, fun j v e => ?_, Tabs.putN R.tabs hf ⟨fun _ z => (nomatch z), fun _ z => (by unfold LamX.CodeO at z; cases z)⟩⟩, ⟨x.pre, fun b xs h => tp b xs (x.tup b xs h), fun b q w h => ?_⟩⟩
  · rcases set_at j v1 e1 with ⟨l1, g1⟩ | ⟨l1, g1⟩ <;> rcases set_at k v2 e2 with ⟨l2, g2⟩ | ⟨l2, g2⟩
    · rw [l1, l2]
    · rw [l1, ha] at h1
      cases h1
      exact (away k v2 l2 h2 g2 m2).elim
    · rw [l2, ha] at h2
      cases h2
      exact (away j v1 l1 h1 g1 m1).elim
    · exact R.inj j k b v1 v2 h1 h2 g1 g2 m1 m2
  · rcases set_at j v e with ⟨l1, g1⟩ | ⟨l1, g1⟩
    · subst l1
      subst g1
      refine ⟨a, ha, ?_⟩
      cases o with
      | sdN kvs =>
        obtain rfl := Option.some.inj hl
        obtain ⟨xs, od', h1, h2, h3, h4, h5⟩ := ro
        rw [hf] at h1
        cases h1
        exact ⟨xs, upd_same, h2, h3, h4, Paired.mapP h5 fun p q ⟨⟨a1, a2⟩, a3, a4⟩ => ⟨⟨r1 a1, a2⟩, r1 a3, a4⟩⟩
      | sdK kvs =>
        obtain rfl := Option.some.inj hl
        obtain ⟨vs, od', h1, h2⟩ := ro
        rw [hf] at h1
        cases h1
        exact ⟨vs, upd_same, rs h2⟩
      | _ => cases hl
    · obtain ⟨b, eb, rb⟩ := R.obj j v g1
      refine ⟨b, eb, ?_⟩
      by_cases hb : b = a
      · subst hb
        cases v with
        | slst ws =>
          obtain ⟨vs, h1, h2⟩ := rb
          exact ⟨vs, st _ _ h1, rs h2⟩
        | exc b => exact rb
        | _ => exact (away j _ l1 eb g1 rfl).elim
      · cases v with
        | slst ws => obtain ⟨vs, h1, h2⟩ := rb; exact ⟨vs, st _ _ h1, rs h2⟩
        | lst ws => obtain ⟨vs, h1, h2⟩ := rb; exact ⟨vs, by rw [upd_ne hb]; exact h1, rs h2⟩
        | dK ws => obtain ⟨vs, h1, h2⟩ := rb; exact ⟨vs, by rw [upd_ne hb]; exact h1, rs h2⟩
        | dN ws => obtain ⟨vs, h1, h2, h3, h4, h5⟩ := rb; exact ⟨vs, by rw [upd_ne hb]; exact h1, h2, h3, h4, Paired.mapP h5 fun p q ⟨⟨a1, a2⟩, a3, a4⟩ => ⟨⟨r1 a1, a2⟩, r1 a3, a4⟩⟩
        | sdN ws => obtain ⟨vs, od', h1, h2, h3, h4, h5⟩ := rb; exact ⟨vs, od', by rw [upd_ne hb]; exact h1, h2, h3, h4, Paired.mapP h5 fun p q ⟨⟨a1, a2⟩, a3, a4⟩ => ⟨⟨r1 a1, a2⟩, r1 a3, a4⟩⟩
        | sdK ws => obtain ⟨vs, od', h1, h2⟩ := rb; exact ⟨vs, od', by rw [upd_ne hb]; exact h1, rs h2⟩
        | exc b => exact rb
        | cup j => exact (upd_ne hb).trans rb
  · by_cases hb : b = a
    · subst hb
      exact (h0 q w h).elim
    · rw [upd_ne hb]
      exact x.frz b q w h
end G

set_option Elab.async false
set_option linter.all false
set_option maxRecDepth 100000
set_option maxHeartbeats 4000000
namespace G
open PySem L2 PySem.Spec PyProof.Rows
variable {M : Md} {H H' H1 H2 : Hp} {ι ι' ι1 ι2 : List Addr} {X : Cx} {W' : WX}

/-- while an expression is worked out -/
def lockE (ix : Sg → Hh → Option Nat) (ca : Act W) : Act W := fun σ E => match (ix σ E).bind fun i => ((E : List O)[i]?).bind fun o => (lockO o).map fun o' => (i, o') with
  | some (i, o') => andThen (ca σ (E.set i o')) fun w E1 => match ((E1 : List O)[i]?).bind freeO with
    | some u => some (.ok w (E1.set i u))
    | none => none
  | none => ca σ E
theorem pe_lockG {e : Expr} {ix : Sg → Hh → Option Nat} {ca : Act W} (h : PE X e (SE M W' ca)) : PE X e (SE M W' (lockE ix ca)) := by
  refine PE.imp (PE.or2 h (pe_lock h)) fun σ H Q ⟨ι, E, σE, R, rs, k⟩ => ?_
  unfold lockE at k
  split at k
  · rename_i p i o' hp
    right
    obtain ⟨i0, _, hp⟩ := Option.bind_eq_some_iff.mp hp
    obtain ⟨o, he, hp⟩ := Option.bind_eq_some_iff.mp hp
    obtain ⟨o1, hl, hp⟩ := Option.map_eq_some_iff.mp hp
    obtain ⟨rfl, rfl⟩ : i0 = i ∧ o1 = o' := by simpa using hp
    obtain ⟨a, ha, ro⟩ := R.obj i0 o he
    obtain ⟨u, hu, du, lk⟩ := lock_rel R ha he hl
    have h0 : ∀ q w, H a ≠ some (.frz q w) := fun q w z => by
      rw [hu] at z
      cases z
      exact du.nt.2.1 _ _ rfl
    refine ⟨a, u, hu, du.mut, fun od => ?_⟩
    obtain ⟨R0, x0⟩ := lk od
    refine ⟨ι, E.set i0 o1, σE, R0, rs.ext x0, ((Rs.bind k).ext x0).imp fun w E1 h1 => fun ι1 H1 v x1 R1 rv => ?_⟩
    have hf : H1 a = some (.frz od u) := x1.frz _ _ _ upd_same
    refine ⟨hf, ?_⟩
    have ha1 := pre_get x1.pre ha
    cases e1 : (E1 : List O)[i0]? with
    | none => rw [e1] at h1; exact h1.none.elim
    | some o2 =>
      rw [e1] at h1
      dsimp only [Option.bind] at h1
      cases e2 : freeO o2 with
      | none => rw [e2] at h1; exact h1.none.elim
      | some o3 =>
        rw [e2] at h1
        obtain ⟨R2, x2⟩ := free_rel R1 ha1 e1 e2 hf du (x0.trans x1) h0
        have tp : ∀ b xs, SqT M.K H1 b xs → SqT M.K (upd H1 a u) b xs := fun b xs h => by
          obtain ⟨n1, n2, n3⟩ := du.nt
          rcases h with (h | ⟨ob, h⟩) | h
          · exact .inl (.inl (by rw [upd_ne (fun z => by rw [z, hf] at h; cases h)]; exact h))
          · exact .inl (.inr ⟨ob, by rw [upd_ne (fun z => by rw [z, hf] at h; cases h; exact n1 _ rfl)]; exact h⟩)
          · exact .inr h
        exact h1.ok ι1 _ v x2 R2 (RelW.tps tp rv)
  · exact .inl ⟨ι, E, σE, R, rs, k⟩
/-! ### the keys of a locked dict by tuples -/
def ItkN (M : Md) (d : Addr) (od : Obj) (xs : List (NestedKey × Addr × Value)) : It where
  go i H := H d = some (.frz od (DkAt M.P M.w d xs)) ∧ i < xs.length
  yld i H x H' := H' = H ∧ ∃ q, xs[i]? = some q ∧ x = .ref q.2.1
  stop i H := H d = some (.frz od (DkAt M.P M.w d xs)) ∧ i = xs.length
theorem frz_raw {pins : List (Addr × Obj)} {σ : L2.St} {s : Shared} {d : Addr} {od : Obj} {es : Array DictEntry} {ep : Nat} {xs : List (NestedKey × Addr × Value)} (I : Inv X pins σ H s) (h : H d = some (.frz od (DkAt M.P M.w d xs))) (hod : od.data = .dict es ep) :
    s.heap.DictRaw d es ep ∧ es.toList = xs.map (entryOfKey (nestedKind M.P M.w)) := by
  obtain ⟨h1, ⟨o, es', ep', g1, g2, g3, g4⟩, _⟩ := I.hok d _ h
  rw [h1] at g1
  cases g1
  rw [hod] at g3
  cases g3
  exact ⟨⟨od, h1, g2, hod⟩, g4⟩
theorem turn_keysN {P : Program} {w : World} {K : PySem.W.Frag} {tg : Expr} {d it : Addr} {od : Obj} {es : Array DictEntry} {ep : Nat} {xs : List (NestedKey × Addr × Value)} (hod : od.data = .dict es ep) (hs : es.size = xs.length) :
    Turn P w K tg (ItkN M d od xs) [it] it (fun i h => h.IsKeyIter it d i es.size ep) where
  mem := List.mem_cons_self ..
  obj := fun i h st b hb => by
    obtain rfl : b = it := List.mem_singleton.mp hb
    obtain ⟨o, e, _, dd⟩ := st
    exact ⟨o, e, fun v z => by rw [dd] at z; cases z⟩
  keep := fun i h h' st k => st.at fun o e => k it (by simp) o e
  item := by
    rintro X rfl rfl rfl hc i pins s σ H E I hf st ⟨hd, hi⟩
    obtain ⟨f0, f1, f2, f3, f4, f5⟩ := hf it (by simp)
    obtain ⟨raw, he⟩ := frz_raw I hd hod
    refine wpAny_pyNext_keys_item_raw st raw (by rw [hs]; exact hi) fun h' st' sb => ?_
    have I1 : Inv X pins σ H { s with heap := h' } := I.turned (t' := s.toks) (fun b ob hb e => (sb.2 b hb).trans e) f0 f1 f3 f4 f5
    obtain ⟨oi, e, c, dd⟩ := id st'
    have hq : xs[i]? = some xs[i] := List.getElem?_eq_getElem hi
    have hk : (es[i]'(by rw [hs]; exact hi)).key = .ref (xs[i]).2.1 := by
      have z : es.toList[i]? = some (entryOfKey (nestedKind M.P M.w) xs[i]) := by rw [he, List.getElem?_map, hq]; rfl
      have z2 : es.toList[i]? = some (es[i]'(by rw [hs]; exact hi)) := by rw [Array.getElem?_toList]; exact Array.getElem?_eq_getElem _
      rw [Option.some.inj (z2.symm.trans z)]
      rfl
    exact ⟨_, rfl, go_of (s := { s with heap := h' }) e c dd (by decide) ⟨.ref (xs[i]).2.1, H, I1, hk, ⟨rfl, _, hq, rfl⟩, st', fun b hb => (hf b hb).1⟩⟩
  done := by
    rintro X rfl rfl rfl hc i pins s σ H E I hf st ⟨hd, hi⟩
    obtain ⟨f0, f1, f2, f3, f4, f5⟩ := hf it (by simp)
    obtain ⟨raw, he⟩ := frz_raw I hd hod
    exact wpAny_pyNext_keys_end_raw (I.ok.hd hc) st raw (by rw [hs, hi]; exact Nat.le_refl _) fun h' eb => ⟨rfl, I.turned (t' := s.toks) (fun b ob hb e => eb b ob hb e) f0 f1 f3 f4 f5⟩
  self := fun A i s Q E st h => wpAny_pyIter_keyiter st h
def iKeysN (M : Md) (td : TE) : TI := fun σ H R => td σ H fun x H1 => ∃ d od xs, x = .ref d ∧ (d == sysModules) = false ∧ H1 d = some (.frz od (DkAt M.P M.w d xs)) ∧ R (ItkN M d od xs) H1
theorem raw_of {pins : List (Addr × Obj)} {σ : L2.St} {s : Shared} {d : Addr} {od : Obj} {xs : List (NestedKey × Addr × Value)} (I : Inv X pins σ H s) (h : H d = some (.frz od (DkAt M.P M.w d xs))) : ∃ es ep, od.data = .dict es ep ∧ s.heap.DictRaw d es ep ∧ es.size = xs.length := by
  obtain ⟨h1, ⟨o, es', ep', g1, g2, g3, g4⟩, _⟩ := I.hok d _ h
  rw [h1] at g1
  cases g1
  refine ⟨es', ep', g3, ⟨od, h1, g2, g3⟩, ?_⟩
  have z := congrArg List.length g4
  simpa using z
theorem pi_keysN {tg e : Expr} {td : TE} (he : PE X e td) : PI X tg e (iKeysN M td) := ⟨fun pins s σ H R I h => by
  refine thn (he.run pins s σ H _ I h) fun u s1 ⟨x, H1, I1, rx, d, od, xs, ex, low, hd, q⟩ => ?_
  subst ex
  obtain rfl : u = Value.ref d := rx
  obtain ⟨es, ep, hod, raw, hs⟩ := raw_of I1 hd
  exact wpAny_pyIter_dict_raw low raw (pi_one (tk := s1.toks) I1 _ (turn_keysN hod hs) ⟨_, Heap.get?_push_size _ rfl, rfl, rfl⟩ q)⟩
/-! ### its pairs -/
def ItiN (M : Md) (d : Addr) (od : Obj) (kvs : List (W × W)) (xs : List (Addr × V × Value)) : It where
  go i H := H d = some (.frz od (DkAt M.P M.w d (ents kvs xs))) ∧ i < (ents kvs xs).length ∧ ∃ p q, kvs[i]? = some p ∧ xs[i]? = some q ∧ RelV q.2.1 q.2.2
  yld i H x H' := ∃ T q, xs[i]? = some q ∧ x = .ref T ∧ H T = none ∧ H' = upd H T (.tup [.ref q.1, q.2.1])
  stop i H := H d = some (.frz od (DkAt M.P M.w d (ents kvs xs))) ∧ i = (ents kvs xs).length
theorem ents_at {kvs : List (W × W)} {xs : List (Addr × V × Value)} {i : Nat} {p : W × W} {q : Addr × V × Value} (h1 : kvs[i]? = some p) (h2 : xs[i]? = some q) : (ents kvs xs)[i]? = some (nk p.1, q.1, q.2.2) := by
  unfold ents
  rw [List.getElem?_zipWith, h1, h2]
theorem turn_itemsN {P : Program} {w : World} {K : PySem.W.Frag} {elts : List Expr} {kk : Nat} {tpos : Pos} {d it : Addr} {od : Obj} {es : Array DictEntry} {ep : Nat} {kvs : List (W × W)} {xs : List (Addr × V × Value)} (hod : od.data = .dict es ep) (hs : es.size = (ents kvs xs).length) :
    Turn P w K (.Tuple elts kk tpos) (ItiN M d od kvs xs) [it] it (fun i h => ∃ ok ov, IsItemIter h it d i es.size ep ok ov) where
  mem := List.mem_cons_self ..
  obj := fun i h st b hb => by
    obtain rfl : b = it := List.mem_singleton.mp hb
    obtain ⟨ok, ov, e⟩ := st
    exact ⟨_, e, fun v z => nomatch z⟩
  keep := fun i h h' st k => by
    obtain ⟨ok, ov, e⟩ := st
    exact ⟨ok, ov, k it (by simp) _ e⟩
  item := by
    rintro X rfl rfl rfl hc i pins s σ H E I hf ⟨ok, ov, st⟩ ⟨hd, hi, p0, q, hp, hq, rv⟩
    obtain ⟨raw, he⟩ := frz_raw I hd hod
    have lt : it < s.heap.objs.size := Heap.lt_size st
    refine wpAny_pyNext_items_item_raw st raw (by rw [hs]; exact hi) fun h' ho hT hz hk => ?_
    have hen : (es[i]'(by rw [hs]; exact hi)).key = .ref q.1 ∧ (es[i]'(by rw [hs]; exact hi)).val = q.2.2 := by
      have z : es.toList[i]? = some (entryOfKey (nestedKind M.P M.w) (nk p0.1, q.1, q.2.2)) := by rw [he, List.getElem?_map, ents_at hp hq]; rfl
      have z2 : es.toList[i]? = some (es[i]'(by rw [hs]; exact hi)) := by rw [Array.getElem?_toList]; exact Array.getElem?_eq_getElem _
      rw [Option.some.inj (z2.symm.trans z)]
      exact ⟨rfl, rfl⟩
    rw [hen.1, hen.2] at hT
    refine ⟨_, rfl, wpAny_letOwnedTupleGo_items (s := { s with heap := h' }) ho fun h'' st' sb => ?_⟩
    have hT2 : h''.get? s.heap.objs.size = some { cls := .type "tuple", data := .seq #[.ref q.1, q.2.2] } := (sb.2 _ (Nat.ne_of_gt lt)).trans hT
    have new : ObjOk X.prog X.w (upd H s.heap.objs.size (.tup [.ref q.1, q.2.1])) h'' s.heap.objs.size (.tup [.ref q.1, q.2.1]) := ⟨(by decide : (2 : Nat) ≤ sizeLine), _, .cons rfl (.cons rv .nil), _, hT2, rfl, _, rfl⟩
    have I1 : Inv X pins σ (upd H s.heap.objs.size (.tup [.ref q.1, q.2.1])) { s with heap := h'' } :=
      I.turnedNew (t' := s.toks) (ch := [it]) (fun b ob hb e => (sb.2 b (by simpa using hb)).trans (hk b ob (by simpa using hb) e)) hf (Nat.le_refl _) new
    refine ⟨.ref s.heap.objs.size, _, I1, rfl, ⟨_, q, hq, rfl, I.hok.fresh (Nat.le_refl _), rfl⟩, ⟨_, _, st'⟩, fun b hb => ?_⟩
    obtain rfl : b = it := List.mem_singleton.mp hb
    rw [upd_ne (Nat.ne_of_lt lt)]
    exact (hf b (by simp)).1
  done := by
    rintro X rfl rfl rfl hc i pins s σ H E I hf ⟨ok, ov, st⟩ ⟨hd, hi⟩
    obtain ⟨f0, f1, f2, f3, f4, f5⟩ := hf it (by simp)
    obtain ⟨raw, he⟩ := frz_raw I hd hod
    exact wpAny_pyNext_items_end_raw (I.ok.hd hc) st raw (by rw [hs, hi]; exact Nat.le_refl _) fun h' eb => ⟨rfl, I.turned (t' := s.toks) (fun b ob hb e => eb b ob hb e) f0 f1 f3 f4 f5⟩
  self := fun A i s Q E st h => by
    obtain ⟨_, _, e⟩ := st
    exact PySem.W.kcp_self e h
def iItemsN (M : Md) (td : TE) : TI := fun σ H R => td σ H fun x H1 => ∃ d od kvs xs, x = .ref d ∧ (d == sysModules) = false ∧ H1 d = some (.frz od (DkAt M.P M.w d (ents kvs xs))) ∧ R (ItiN M d od kvs xs) H1
theorem pi_itemsN {elts : List Expr} {kk : Nat} {tpos apos cpos : Pos} {e : Expr} {td : TE} (he : PE X e td) (hbase : attributeBase e "items" X.env (eval e X.env) = eval e X.env) (hline : (apos.endLine == cpos.line) = true) :
    PI X (.Tuple elts kk tpos) (.Call (.Attribute e "items" apos) [] [] cpos) (iItemsN M td) := ⟨fun pins s σ H R I h => by
  refine wpAny_Call_method (T := "dict") (id := "dict.items") hbase rfl hline PySem.F.plainAttrs_dict PySem.F.slot_dict_items PySem.F.type_dict_items (thn (he.run pins s σ H _ I h) fun u s1 ⟨x, H1, I1, rx, d, od, kvs, xs, ex, low, hd, q⟩ => ?_)
  subst ex
  obtain rfl : u = Value.ref d := rx
  obtain ⟨es, ep, hod, raw, hs⟩ := raw_of I1 hd
  refine ⟨raw.typeIs, fun b z => by cases z; obtain ⟨o, ho, hx, _⟩ := id raw; exact ⟨o, ho, hx.2.1⟩, ?_⟩
  have I2 : Inv X pins σ H1 { s1 with heap := s1.heap.push { cls := .type "dict_items", data := .fields #[.ref d] } } := I1.kept (t' := s1.toks) fun b ob q => Heap.get?_push_of_some _ q
  have fin : wpAny (model X.prog X.w) X.A (pyIter (.ref s1.heap.objs.size)) (PIE X pins σ (.Tuple elts kk tpos) R) X.xe { s1 with heap := s1.heap.push { cls := .type "dict_items", data := .fields #[.ref d] } } := by
    refine wpAny_pyIter_items_raw (d := d) ⟨_, Heap.get?_push_size _ rfl, rfl, rfl⟩ (raw.at fun o e => Heap.get?_push_of_some _ e) (pi_one (tk := s1.toks) I2 _ (turn_itemsN hod hs) ⟨.none, .none, ?_⟩ q)
    exact Heap.get?_push_size _ rfl
  show wpAny _ _ (callWith cpos (.builtin "dict.items") [.ref d] [] []) _ X.xe s1
  exact method_meetsIn PySem.F.slot_dict_items PySem.F.entry_dict_items rfl (PySem.evalArgs_none ⟨rfl, raw.typeIs, PySem.F.args_dict_items_1 _, _, meets_dict_items_raw d low, ⟨⟨es, ep, raw⟩, fin⟩⟩)⟩
/-! ### what they give -/
theorem walks_keysN {d : Addr} {od : Obj} {kvs : List (W × W)} {xs : List (Addr × V × Value)} (hd : H d = some (.frz od (DkAt M.P M.w d (ents kvs xs)))) (p : Paired (EntR M H ι) kvs xs) : Walks M (ItkN M d od (ents kvs xs)) ι H ⟨kvs.map (·.1), []⟩ := by
  have hl := Paired.length p
  have len : (kvs.map (·.1)).length = (ents kvs xs).length := by rw [List.length_map, ents_len hl]
  refine ⟨fun i ι' E' H' hi x R st => ⟨x.frz _ _ _ hd, by rw [← len]; exact hi⟩, fun ι' E' H' x R st => ⟨x.frz _ _ _ hd, len⟩, fun i ι' E' H' v H'' hi x R st ⟨e, q, hq, ev⟩ => ?_⟩
  subst e
  have hi' : i < kvs.length := by simpa using hi
  obtain ⟨q0, hq0, r1, r2⟩ := paired_get p (List.getElem?_eq_getElem hi')
  rw [ents_at (List.getElem?_eq_getElem hi') hq0] at hq
  cases hq
  subst ev
  exact ⟨R, Ext.refl _ _, kvs[i].1, by show (kvs.map (·.1))[i]? = _; rw [List.getElem?_map, List.getElem?_eq_getElem hi']; rfl, r1.1.ext x⟩
theorem walks_itemsN {d : Addr} {od : Obj} {kvs : List (W × W)} {xs : List (Addr × V × Value)} (hd : H d = some (.frz od (DkAt M.P M.w d (ents kvs xs)))) (p : Paired (EntR M H ι) kvs xs) : Walks M (ItiN M d od kvs xs) ι H ⟨kvs.map fun p => .tup [p.1, p.2], []⟩ := by
  have hl := Paired.length p
  have len : (kvs.map fun p => (.tup [p.1, p.2] : W)).length = (ents kvs xs).length := by rw [List.length_map, ents_len hl]
  refine ⟨fun i ι' E' H' hi x R st => ?_, fun ι' E' H' x R st => ⟨x.frz _ _ _ hd, len⟩, fun i ι' E' H' v H'' hi x R st ⟨T, q, hq, ev, hT, eH⟩ => ?_⟩
  · have hi' : i < kvs.length := by simpa using hi
    obtain ⟨q0, hq0, r1, r2⟩ := paired_get p (List.getElem?_eq_getElem hi')
    exact ⟨x.frz _ _ _ hd, by rw [← len]; exact hi, _, q0, List.getElem?_eq_getElem hi', hq0, r2.2⟩
  · have hi' : i < kvs.length := by simpa using hi
    obtain ⟨q0, hq0, r1, r2⟩ := paired_get p (List.getElem?_eq_getElem hi')
    obtain rfl : q0 = q := Option.some.inj (hq0.symm.trans hq)
    subst ev eH
    obtain ⟨R'', x''⟩ := Rel.newT (ho := .tup [.ref q0.1, q0.2.1]) R hT
    exact ⟨R'', x'', .tup [kvs[i].1, kvs[i].2], by show (kvs.map _)[i]? = _; rw [List.getElem?_map, List.getElem?_eq_getElem hi']; rfl, T, _, rfl, SqT.of upd_same, _, _, rfl, (r1.1.ext x).ext x'', _, _, rfl, (r2.1.ext x).ext x'', rfl⟩
def keyV : Key → W
  | .inl i => .int i
  | .inr s => .str s
theorem keyV_ok {k : Key} : RelW M H ι (keyV k) (kV k) := by cases k <;> exact rfl
theorem zip_at {kvs : List (Key × W)} {vs : List V} (r : RelWs M H ι (kvs.map (·.2)) vs) {i : Nat} (hi : i < kvs.length) : ∃ v, ((kvs.map (·.1)).zip vs)[i]? = some (kvs[i].1, v) ∧ RelW M H ι kvs[i].2 v := by
  obtain ⟨v, hv, rv⟩ := r.get (i := i) (w := kvs[i].2) (by rw [List.getElem?_map, List.getElem?_eq_getElem hi]; rfl)
  refine ⟨v, ?_, rv⟩
  rw [List.getElem?_zip_eq_some]
  exact ⟨by rw [List.getElem?_map, List.getElem?_eq_getElem hi]; rfl, hv⟩
theorem zip_len {kvs : List (Key × W)} {vs : List V} (r : RelWs M H ι (kvs.map (·.2)) vs) : ((kvs.map (·.1)).zip vs).length = kvs.length := by
  rw [List.length_zip, List.length_map, ← r.length, List.length_map, Nat.min_self]
theorem walks_keysK {d : Addr} {od : Obj} {kvs : List (Key × W)} {vs : List V} (hd : H d = some (.frz od (.dK ((kvs.map (·.1)).zip vs)))) (r : RelWs M H ι (kvs.map (·.2)) vs) : Walks M (Itk d od ((kvs.map (·.1)).zip vs)) ι H ⟨kvs.map fun p => keyV p.1, []⟩ := by
  have len : (kvs.map fun p => keyV p.1).length = ((kvs.map (·.1)).zip vs).length := by rw [List.length_map, zip_len r]
  refine ⟨fun i ι' E' H' hi x R st => ⟨x.frz _ _ _ hd, by rw [← len]; exact hi⟩, fun ι' E' H' x R st => ⟨x.frz _ _ _ hd, by rw [len]; exact Nat.le_refl _⟩, fun i ι' E' H' v H'' hi x R st ⟨e, k, u, hk, ev⟩ => ?_⟩
  subst e
  have hi' : i < kvs.length := by simpa using hi
  obtain ⟨w, hw, _⟩ := zip_at r hi'
  rw [hw] at hk
  cases hk
  subst ev
  exact ⟨R, Ext.refl _ _, keyV kvs[i].1, by show (kvs.map _)[i]? = _; rw [List.getElem?_map, List.getElem?_eq_getElem hi']; rfl, keyV_ok⟩
theorem walks_itemsK {d : Addr} {od : Obj} {kvs : List (Key × W)} {vs : List V} (hd : H d = some (.frz od (.dK ((kvs.map (·.1)).zip vs)))) (r : RelWs M H ι (kvs.map (·.2)) vs) : Walks M (Iti d od ((kvs.map (·.1)).zip vs)) ι H ⟨kvs.map fun p => .tup [keyV p.1, p.2], []⟩ := by
  have len : (kvs.map fun p => (.tup [keyV p.1, p.2] : W)).length = ((kvs.map (·.1)).zip vs).length := by rw [List.length_map, zip_len r]
  refine ⟨fun i ι' E' H' hi x R st => ⟨x.frz _ _ _ hd, by rw [← len]; exact hi⟩, fun ι' E' H' x R st => ⟨x.frz _ _ _ hd, by rw [len]; exact Nat.le_refl _⟩, fun i ι' E' H' v H'' hi x R st ⟨T, k, u, hk, ev, hT, eH⟩ => ?_⟩
  have hi' : i < kvs.length := by simpa using hi
  obtain ⟨w, hw, rw'⟩ := zip_at r hi'
  obtain ⟨rfl, rfl⟩ : kvs[i].1 = k ∧ w = u := by simpa using hw.symm.trans hk
  subst ev eH
  obtain ⟨R'', x''⟩ := Rel.newT (ho := .tup [kV kvs[i].1, w]) R hT
  exact ⟨R'', x'', .tup [keyV kvs[i].1, kvs[i].2], by show (kvs.map _)[i]? = _; rw [List.getElem?_map, List.getElem?_eq_getElem hi']; rfl, T, _, rfl, SqT.of upd_same, _, _, rfl, keyV_ok, _, _, rfl, (rw'.ext x).ext x'', rfl⟩
/-! ### as sources: anything that is walked by itself, and o.items() -/
def lockOf (E : Hh) : W → Option (List (W × W))
  | .ref i => match (E : List O)[i]? with
    | some (.sdN kvs) => some kvs
    | some (.sdK kvs) => some (kvs.map fun p => (keyV p.1, p.2))
    | _ => none
  | _ => none
def keyF (E : Hh) (x : W) : Option Src := match lockOf E x with
  | some kvs => some ⟨kvs.map (·.1), []⟩
  | none => srcOf E x
def keyI (ca : Act W) : Act Src := fun σ E => andThen (ca σ E) fun x E1 => optR (keyF E1 x) E1
theorem se_res {ca : Act W} {σE : Sg} {E : Hh} {σ : L2.St} {G : W → Hh → Option (Rz Src)} {K : Src → Hh → Prop} (k : Rs M W' ι σ H (andThen (ca σE E) G) K) : (∃ x E1, ca σE E = some (.ok x E1) ∧ Rs M W' ι σ H (G x E1) K) ∨ ∃ y E1, ca σE E = some (.ex y E1) ∧ Exd M W' ι σ H y E1 := Rs.bind k
theorem lock_at {E : Hh} {i : Nat} {v : V} (R : Rel M ι E H) (r : RelW M H ι (.ref i) v) : (∀ kvs, (E : List O)[i]? = some (.sdN kvs) → ∃ a od xs, v = .ref a ∧ (a == sysModules) = false ∧ H a = some (.frz od (DkAt M.P M.w a (ents kvs xs))) ∧ Paired (EntR M H ι) kvs xs) ∧
    ∀ kvs, (E : List O)[i]? = some (.sdK kvs) → ∃ a od vs, v = .ref a ∧ H a = some (.frz od (.dK ((kvs.map (·.1)).zip vs))) ∧ RelWs M H ι (kvs.map (·.2)) vs := by
  obtain ⟨a, ha, rfl⟩ := r
  refine ⟨fun kvs he => ?_, fun kvs he => ?_⟩
  · obtain ⟨xs, od, h1, h2, h3, h4, h5⟩ := R.at he ha
    exact ⟨a, od, xs, rfl, h3, h1, h5⟩
  · obtain ⟨vs, od, h1, h2⟩ := R.at he ha
    exact ⟨a, od, vs, rfl, h1, h2⟩
theorem pi_keyG {tg l : Expr} {ca : Act W} (at' : X.K = M.K) (hl : PE X l (SE M W' ca)) : PI X tg l (SI M W' (keyI ca)) :=
  PI.imp (PI.or2 (PI.or2 (pi_keysN (M := M) hl) (pi_keys hl)) (pi_seqG at' hl)) fun σ H R' ⟨ι, E, σE, R, rs, k⟩ => by
    rcases Rs.bind k with ⟨x, E1, ex, k1⟩ | ⟨y, E1, ex, g⟩
    · obtain ⟨s, es, k2⟩ := k1.opt
      unfold keyF at es
      cases e : lockOf E1 x with
      | none =>
        rw [e] at es
        refine .inr ⟨ι, E, σE, R, rs, .give (a := s) (E' := E1) ?_ k2⟩
        show andThen (ca σE E) _ = _
        rw [ex]
        show (match srcOf E1 x with
          | some s => some (Rz.ok s E1)
          | none => none) = _
        have es : srcOf E1 x = some s := es
        rw [es]
      | some kvs =>
        rw [e] at es
        obtain rfl := Option.some.inj es
        cases x with
        | ref i =>
          unfold lockOf at e
          dsimp only at e
          split at e
          · rename_i us he
            obtain rfl := Option.some.inj e
            refine .inl (.inl ⟨ι, E, σE, R, rs, .inl ⟨_, E1, ex, fun ι1 H1 v x1 R1 rx => ?_⟩⟩)
            obtain ⟨a, od, xs, rfl, low, hd, p⟩ := (lock_at R1 rx).1 us he
            exact ⟨a, od, _, rfl, low, hd, k2 ι1 H1 _ x1 R1 (walks_keysN hd p)⟩
          · rename_i us he
            obtain rfl := Option.some.inj e
            refine .inl (.inr ⟨ι, E, σE, R, rs, .inl ⟨_, E1, ex, fun ι1 H1 v x1 R1 rx => ?_⟩⟩)
            obtain ⟨a, od, vs, rfl, hd, r⟩ := (lock_at R1 rx).2 us he
            refine ⟨a, od, rfl, .inl ⟨_, hd, k2 ι1 H1 _ x1 R1 ?_⟩⟩
            have w := walks_keysK hd r
            simpa [Function.comp_def] using w
          · cases e
        | _ => cases e
    · refine .inr ⟨ι, E, σE, R, rs, .inr ⟨y, E1, ?_, g⟩⟩
      unfold seqI
      rw [ex]
      rfl
def itemF (E : Hh) (x : W) : Option Src := match lockOf E x with
  | some kvs => some ⟨kvs.map fun p => .tup [p.1, p.2], []⟩
  | none => none
def itemI (ca : Act W) : Act Src := fun σ E => andThen (ca σ E) fun x E1 => optR (itemF E1 x) E1
theorem pi_itemG {elts : List Expr} {kk : Nat} {tpos apos cpos : Pos} {o : Expr} {ca : Act W} (hbase : attributeBase o "items" X.env (eval o X.env) = eval o X.env) (hline : (apos.endLine == cpos.line) = true) (hl : PE X o (SE M W' ca)) :
    PI X (.Tuple elts kk tpos) (.Call (.Attribute o "items" apos) [] [] cpos) (SI M W' (itemI ca)) :=
  PI.imp (PI.or2 (pi_itemsN (M := M) hl hbase hline) (pi_items hl hbase hline)) fun σ H R' ⟨ι, E, σE, R, rs, k⟩ => by
    rcases Rs.bind k with ⟨x, E1, ex, k1⟩ | ⟨y, E1, ex, g⟩
    · obtain ⟨s, es, k1⟩ := k1.opt
      unfold itemF at es
      cases e : lockOf E1 x with
      | none => rw [e] at es; cases es
      | some kvs =>
        rw [e] at es
        obtain rfl := Option.some.inj es
        cases x with
        | ref i =>
          unfold lockOf at e
          dsimp only at e
          split at e
          · rename_i us he
            obtain rfl := Option.some.inj e
            refine .inl ⟨ι, E, σE, R, rs, .inl ⟨_, E1, ex, fun ι1 H1 v x1 R1 rx => ?_⟩⟩
            obtain ⟨a, od, xs, rfl, low, hd, p⟩ := (lock_at R1 rx).1 us he
            exact ⟨a, od, us, xs, rfl, low, hd, k1 ι1 H1 _ x1 R1 (walks_itemsN hd p)⟩
          · rename_i us he
            obtain rfl := Option.some.inj e
            refine .inr ⟨ι, E, σE, R, rs, .inl ⟨_, E1, ex, fun ι1 H1 v x1 R1 rx => ?_⟩⟩
            obtain ⟨a, od, vs, rfl, hd, r⟩ := (lock_at R1 rx).2 us he
            refine ⟨a, od, _, rfl, hd, k1 ι1 H1 _ x1 R1 ?_⟩
            have w := walks_itemsK hd r
            simpa [Function.comp_def] using w
          · cases e
        | _ => cases e
    · exact .inl ⟨ι, E, σE, R, rs, .inr ⟨y, E1, ex, g⟩⟩
end G

set_option Elab.async false
set_option linter.all false
set_option maxRecDepth 100000
set_option maxHeartbeats 4000000
namespace G
open PySem L2 PySem.Spec PyProof.Rows
/-! ### l.extend(t), t a tuple -/
theorem ext_tup (l : Addr) (items : Array Value) (n : Nat) (b : Addr) (xs2 : Array Value) (m : Nat) (dd : Option Addr) (sl : Array (Option Value)) (h0 : ¬(!items.isEmpty && Builtin.List.listTooLong (items.size + xs2.size)) = true) (h1 : items.size ≤ sizeLine) (h2 : items.size + xs2.size ≤ sizeLine + 1) :
    Meets (Builtin.«list.extend» ⟨[.ref l, .ref b], []⟩) (fun _ R s => s.heap.get? l = some { cls := .type "list", dict := none, data := .seq items n, slots := #[] } ∧ s.heap.get? b = some { cls := .type "tuple", dict := dd, data := .seq xs2 m, slots := sl } ∧
      R (.ok (.ret Value.none)) { s with heap := s.heap.update l (Obj.mapSeq fun x => x ++ xs2), toks := s.toks }) :=
  .of_wp fun prog w A R s h => by
    obtain ⟨hp, g, d, tk, os⟩ := s
    obtain ⟨hl, hb, h⟩ := h
    have f1 := AutoSeq1.idx_int
    have f2 := AutoSeq1.sub_tuple_tuple
    have f3 := AutoSeq1.sub_list_list
    have f4 := AutoSeq1.sub_tuple_list
    have f5 := AutoSeq1.sub_list_tuple
    have hz : (items ++ xs2).size ≤ sizeLine + 1 := by rw [Array.size_append]; exact h2
    wp_walk using (wpAny_updateSeq hl rfl (hz := h1) (_hz' := hz)), AutoSeq1.wpAny_loadPart' hl, AutoSeq1.wpAny_loadPart' hb
    exact ⟨_, rfl, h⟩
variable {M : Md} {H H' H1 H2 : Hp} {ι ι' ι1 ι2 : List Addr} {X : Cx} {W' : WX}
def rExtT (K : PySem.W.Frag) : V → List V → Hp → VK → Prop := fun x vs H Q => ∃ l b xs zs, x = .ref l ∧ vs = [.ref b] ∧ H l = some (.lst xs) ∧ SqT K H b zs ∧ xs.length + zs.length ≤ sizeLine ∧ Q .non (upd H l (.lst (xs ++ zs)))
theorem mt_extT : MtM X "list.extend" (rExtT X.K) := by
  intro pins s σ H x vs v us Q I rx rv h
  obtain ⟨l, b, xs, zs, rfl, rfl, hH, hB, hz, q⟩ := h
  cases rx
  obtain ⟨u, rfl, ru⟩ := rv.one
  cases ru
  obtain ⟨z, its, n, r, hl, e⟩ := I.lstM hH
  obtain ⟨its2, r2, ⟨o2, e2, c2, n2, d2⟩, z2⟩ := I.tuple hB
  obtain ⟨oc, od, oda, osl⟩ := o2
  simp only at c2 d2
  subst c2
  subst d2
  have l2 := r2.length
  have hsz : its.toArray.size + its2.toArray.size ≤ sizeLine := by rw [List.size_toArray, List.size_toArray]; omega
  have hlong : ¬ (!its.toArray.isEmpty && Builtin.List.listTooLong (its.toArray.size + its2.toArray.size)) = true := by
    rw [notLongL hsz, Bool.and_false]
    exact Bool.false_ne_true
  refine call_meets F.slot_list_extend ⟨_, e, rfl⟩ F.entry_list_extend (F.args_list_extend_2 _ _) (ext_tup l its.toArray n b its2.toArray n2 od osl hlong (by rw [List.size_toArray]; omega) (by omega)) ⟨e, e2, ?_⟩
  refine ⟨.non, _, I.lset (its' := its ++ its2) hH e (by simp) (r.append r2) ?_, rfl, q⟩
  rw [List.length_append]
  omega
end G

set_option Elab.async false
set_option linter.all false
set_option maxRecDepth 100000
set_option maxHeartbeats 4000000
namespace G
open PySem L2 PySem.Spec PyProof.Rows
variable {M : Md} {H H' H1 H2 : Hp} {ι ι' ι1 ι2 : List Addr} {X : Cx} {W' : WX}

/-! ### methods -/
inductive Mk where
  | append | pop | extend | get | split | join | isascii | isalpha | islower | reverse
/-! of signs below 128 -/
def lowA (c : Nat) : Bool := decide (97 ≤ c) && decide (c ≤ 122)
def upA (c : Nat) : Bool := decide (65 ≤ c) && decide (c ≤ 90)
theorem low128 : ∀ c < 128, Unicode.isLower c = lowA c := by decide +kernel
theorem up128 : ∀ c < 128, (Unicode.isUpper c || Unicode.isTitle c) = upA c := by decide +kernel
theorem alpha128 : ∀ c < 128, Unicode.isAlpha c = (lowA c || upA c) := by decide +kernel
def Asc (x : Str) : Bool := x.cps.toList.all fun c => decide (c < 128)
theorem any_congr {f g : Nat → Bool} : ∀ {l : List Nat}, (∀ c ∈ l, f c = g c) → l.any f = l.any g
  | [], _ => rfl
  | c :: l, h => by rw [List.any_cons, List.any_cons, h c List.mem_cons_self, any_congr fun d hd => h d (List.mem_cons_of_mem _ hd)]
theorem all_congrA {f g : Nat → Bool} : ∀ {l : List Nat}, (∀ c ∈ l, f c = g c) → l.all f = l.all g
  | [], _ => rfl
  | c :: l, h => by rw [List.all_cons, List.all_cons, h c List.mem_cons_self, all_congrA fun d hd => h d (List.mem_cons_of_mem _ hd)]
theorem asc_lt {x : Str} (h : Asc x = true) : ∀ c ∈ x.cps.toList, c < 128 := by
  intro c hc
  unfold Asc at h
  rw [List.all_eq_true] at h
  simpa using h c hc
def lowerA (x : Str) : Bool := x.cps.toList.any lowA && !x.cps.toList.any upA
def alphaA (x : Str) : Bool := !x.cps.toList.isEmpty && x.cps.toList.all fun c => lowA c || upA c
theorem ascii_A {x : Str} (h : Asc x = true) : Txt.isascii x = true := by
  unfold Txt.isascii
  rw [← Array.all_toList, List.all_eq_true]
  intro c hc
  exact decide_eq_true (asc_lt h c hc)
theorem lower_A {x : Str} (h : Asc x = true) : Txt.islower x = lowerA x := by
  unfold Txt.islower lowerA
  rw [← Array.any_toList, ← Array.any_toList, any_congr fun c hc => low128 c (asc_lt h c hc), any_congr fun c hc => up128 c (asc_lt h c hc)]
theorem alpha_A {x : Str} (h : Asc x = true) : Txt.isalpha x = alphaA x := by
  have e1 : x.cps.toList.all Unicode.isAlpha = x.cps.toList.all fun c => lowA c || upA c := all_congrA fun c hc => alpha128 c (asc_lt h c hc)
  have e2 : decide (x.length > 0) = !x.cps.toList.isEmpty := by
    show decide (x.cps.size > 0) = _
    rw [← Array.length_toList]
    cases x.cps.toList with
    | nil => rfl
    | cons c r => simp
  unfold Txt.isalpha alphaA
  rw [← Array.all_toList, e1, e2]
def Mk.T : Mk → String
  | .append => "list"
  | .pop => "list"
  | .extend => "list"
  | .get => "dict"
  | .split => "str"
  | .join => "str"
  | .isascii => "str"
  | .isalpha => "str"
  | .islower => "str"
  | .reverse => "list"
def Mk.name : Mk → Str
  | .append => "append"
  | .pop => "pop"
  | .extend => "extend"
  | .get => "get"
  | .split => "split"
  | .join => "join"
  | .isascii => "isascii"
  | .isalpha => "isalpha"
  | .islower => "islower"
  | .reverse => "reverse"
def Mk.id : Mk → String
  | .append => "list.append"
  | .pop => "list.pop"
  | .extend => "list.extend"
  | .get => "dict.get"
  | .split => "str.split"
  | .join => "str.join"
  | .isascii => "str.isascii"
  | .isalpha => "str.isalpha"
  | .islower => "str.islower"
  | .reverse => "list.reverse"
theorem Mk.pa : ∀ k : Mk, PlainAttrs k.T
  | .append => PySem.F.plainAttrs_list
  | .pop => PySem.F.plainAttrs_list
  | .extend => PySem.F.plainAttrs_list
  | .get => PySem.F.plainAttrs_dict
  | .split => PySem.F.plainAttrs_str
  | .join => PySem.F.plainAttrs_str
  | .isascii => PySem.F.plainAttrs_str
  | .isalpha => PySem.F.plainAttrs_str
  | .islower => PySem.F.plainAttrs_str
  | .reverse => PySem.F.plainAttrs_list
theorem Mk.slot : ∀ k : Mk, Slot k.T k.name k.id
  | .append => PySem.F.slot_list_append
  | .pop => PySem.F.slot_list_pop
  | .extend => PySem.F.slot_list_extend
  | .get => PySem.F.slot_dict_get
  | .split => PySem.F.slot_str_split
  | .join => PySem.F.slot_str_join
  | .isascii => PySem.F.slot_str_isascii
  | .isalpha => PySem.F.slot_str_isalpha
  | .islower => PySem.F.slot_str_islower
  | .reverse => PySem.F.slot_list_reverse
theorem Mk.ty : ∀ k : Mk, typeOf (.builtin k.id) = pure (.type "method_descriptor")
  | .append => PySem.F.type_list_append
  | .pop => PySem.F.type_list_pop
  | .extend => PySem.F.type_list_extend
  | .get => PySem.F.type_dict_get
  | .split => PySem.F.type_str_split
  | .join => PySem.F.type_str_join
  | .isascii => PySem.F.type_str_isascii
  | .isalpha => PySem.F.type_str_isalpha
  | .islower => PySem.F.type_str_islower
  | .reverse => PySem.F.type_list_reverse
def mkOf (x : Str) : Option Mk := if x = "append" then some .append else if x = "pop" then some .pop else if x = "extend" then some .extend else if x = "get" then some .get else if x = "split" then some .split else if x = "join" then some .join else if x = "isascii" then some .isascii else if x = "isalpha" then some .isalpha else if x = "islower" then some .islower else if x = "reverse" then some .reverse else none
theorem mkOf_ok {x : Str} {k : Mk} (h : mkOf x = some k) : x = k.name := by
  unfold mkOf at h
  repeat' split at h
  all_goals first | (cases h; done) | (obtain rfl := Option.some.inj h; assumption)
/-- the object has the method's type -/
def tyM (E : Hh) (x : W) : Mk → Bool
  | .append => (lstOf E x).isSome
  | .pop => (lstOf E x).isSome
  | .extend => (lstOf E x).isSome
  | .get => (dKOf E x).isSome || (dnOf E x).isSome
  | .split => match x with
    | .str _ => true
    | _ => false
  | .join => match x with
    | .str _ => true
    | _ => false
  | .isascii => match x with
    | .str _ => true
    | _ => false
  | .isalpha => match x with
    | .str _ => true
    | _ => false
  | .islower => match x with
    | .str _ => true
    | _ => false
  | .reverse => (lstOf E x).isSome
theorem tyM_ok {pins : List (Addr × Obj)} {σ : L2.St} {s : Shared} {E : Hh} {x : W} {k : Mk} {v : V} {u : Value} (I : Inv X pins σ H s) (aK : X.K = M.K) (R : Rel M ι E H) (rx : RelW M H ι x v) (ru : RelV v u) (h : tyM E x k = true) :
    s.TypeIs u k.T ∧ ∀ a, u = .ref a → ∃ ob, s.heap.get? a = some ob ∧ ob.dict = none := by
  have lists : (lstOf E x).isSome = true → s.TypeIs u "list" ∧ ∀ a, u = .ref a → ∃ ob, s.heap.get? a = some ob ∧ ob.dict = none := fun h => by
    obtain ⟨⟨i, ws⟩, e⟩ := Option.isSome_iff_exists.mp h
    obtain ⟨a, vs, rfl, ha, _, rfl, hl, _⟩ := lst_ok R e rx
    exact tyV_is (X := X) I ru (show tyV X.K "list" (.ref a) H from .inl ⟨rfl, _, SqL.of hl⟩)
  have texts : (∃ z, x = .str z) → s.TypeIs u "str" ∧ ∀ a, u = .ref a → ∃ ob, s.heap.get? a = some ob ∧ ob.dict = none := fun ⟨z, e⟩ => by
    subst e
    rw [show v = .str z from rx] at ru
    exact tyV_is (X := X) I ru (show tyV X.K "str" (.str z) H from rfl)
  cases k with
  | append => exact lists h
  | pop => exact lists h
  | extend => exact lists h
  | get =>
    simp only [tyM, Bool.or_eq_true] at h
    rcases h with h | h
    · obtain ⟨⟨i, ws⟩, e⟩ := Option.isSome_iff_exists.mp h
      obtain ⟨a, vs, ha, _, rfl, hl, _⟩ := dK_ok R e rx
      obtain ⟨t1, t2, _⟩ := isD_at (X := X) I (.inl ⟨_, .inl hl⟩ : IsD H a)
      obtain rfl : u = Value.ref a := ru
      exact ⟨t1, t2⟩
    · obtain ⟨⟨i, ws⟩, e⟩ := Option.isSome_iff_exists.mp h
      obtain ⟨a, xs, rfl, rfl, d⟩ := dn_ok I aK R e rx
      obtain rfl : u = Value.ref a := ru
      obtain ⟨es, ep, hr, _⟩ := d.dict.raw
      refine ⟨hr.typeIs, fun b z => ?_⟩
      cases z
      obtain ⟨o, ho, hx, _⟩ := hr
      exact ⟨o, ho, hx.2.1⟩
  | split => cases x <;> first | exact texts ⟨_, rfl⟩ | cases h
  | join => cases x <;> first | exact texts ⟨_, rfl⟩ | cases h
  | isascii => cases x <;> first | exact texts ⟨_, rfl⟩ | cases h
  | isalpha => cases x <;> first | exact texts ⟨_, rfl⟩ | cases h
  | islower => cases x <;> first | exact texts ⟨_, rfl⟩ | cases h
  | reverse => exact lists h
/-- what the method does -/
def MtW (M : Md) (X : Cx) (id : String) (f : W → List W → Hh → Option (W × Hh)) : Prop :=
  ∀ (pins : List (Addr × Obj)) (s : Shared) (σ : L2.St) (H : Hp) (ι : List Addr) (E E' : Hh) (x : W) (xs : List W) (z : W) (v : V) (vs : List V) (u : Value) (us : List Value) (Q : VK), Inv X pins σ H s → Rel M ι E H → RelW M H ι x v → RelV v u → RelWs M H ι xs vs → Vals vs us →
    f x xs E = some (z, E') → Fin M ι H z E' Q → wpAny (model X.prog X.w) X.A (call (.builtin id) (u :: us)) (EP X pins σ Q) X.xe s
def strOf : W → Option Str
  | .str s => some s
  | _ => none
theorem strs_ok : ∀ {ws : List W} {ss : List Str} {vs : List V}, ws.mapM strOf = some ss → RelWs M H ι ws vs → vs = ss.map V.str
  | [], ss, vs, h, r => by
    simp at h
    subst h
    exact r
  | w :: ws, ss, vs, h, r => by
    obtain ⟨v, rs, rfl, r1, r2⟩ := r
    rw [List.mapM_cons] at h
    cases e1 : strOf w with
    | none => simp [e1] at h
    | some d =>
      cases e2 : ws.mapM strOf with
      | none => simp [e1, e2] at h
      | some es =>
        simp [e1, e2] at h
        subst h
        cases w <;> simp [strOf] at e1
        subst e1
        rw [strs_ok e2 r2, show v = _ from r1]
        rfl
theorem RelWs.erase : ∀ {ws : List W} {vs : List V} (k : Nat), RelWs M H ι ws vs → RelWs M H ι (ws.eraseIdx k) (vs.eraseIdx k)
  | [], vs, k, h => by rw [show vs = [] from h]; exact rfl
  | w :: ws, vs, 0, h => by
    obtain ⟨v, r, rfl, h1, h2⟩ := h
    exact h2
  | w :: ws, vs, k + 1, h => by
    obtain ⟨v, r, rfl, h1, h2⟩ := h
    exact ⟨v, r.eraseIdx k, rfl, h1, RelWs.erase k h2⟩
theorem RelWs.dropLast {ws : List W} {vs : List V} (h : RelWs M H ι ws vs) : RelWs M H ι ws.dropLast vs.dropLast := by
  rw [List.dropLast_eq_take, List.dropLast_eq_take, h.length]
  exact h.take _
theorem RelWs.strs : ∀ ss : List Str, RelWs M H ι (ss.map W.str) (ss.map V.str)
  | [] => rfl
  | s :: ss => ⟨.str s, ss.map V.str, rfl, rfl, RelWs.strs ss⟩
def getD (E : Hh) (o y d : W) : Option W := match lkDn E o y with
  | some r => some (r.getD d)
  | none => match dKOf E o, keyOf y with
    | some (_, kvs), some k => some ((lkK kvs k).getD d)
    | _, _ => none
def wMk (k : Mk) (o : W) (xs : List W) (E : Hh) : Option (W × Hh) := match k, xs with
  | .append, [x] => match lstOf E o with
    | some (i, ws) => if ws.length ≤ few then some (.non, E.set i (.lst (ws ++ [x]))) else none
    | none => none
  | .pop, [] => match lstOf E o with
    | some (i, ws) => match ws[ws.length - 1]? with
      | some w => some (w, E.set i (.lst ws.dropLast))
      | none => none
    | none => none
  | .pop, [.int j] => if -two62 ≤ j ∧ j < two62 then match lstOf E o with
    | some (i, ws) => match seqIndex? j ws.length with
      | some k => match ws[k]? with
        | some w => some (w, E.set i (.lst (ws.eraseIdx k)))
        | none => none
      | none => none
    | none => none
    else none
  | .extend, [x] => match lstOf E o, lstOf E x with
    | some (i, ws), some (_, us) => if ws.length + us.length ≤ few then some (.non, E.set i (.lst (ws ++ us))) else none
    | some (i, ws), none => match x with
      | .tup us => if ws.length + us.length ≤ few then some (.non, E.set i (.lst (ws ++ us))) else none
      | _ => none
    | _, _ => none
  | .get, [y] => (getD E o y .non).map fun w => (w, E)
  | .get, [y, d] => (getD E o y d).map fun w => (w, E)
  | .split, [.str b] => match o with
    | .str a => if b.length ≠ 0 ∧ a.length ≤ few then some (.ref E.length, E ++ [.lst ((Txt.split a b).map .str)]) else none
    | _ => none
  | .join, [x] => match o with
    | .str a => match seqOf E x with
      | some ws => match ws.mapM strOf with
        | some ss => if (ss.map (·.length)).sum + ss.length * a.length ≤ few then some (.str (Txt.join a ss), E) else none
        | none => none
      | none => none
    | _ => none
  | .isascii, [] => match o with
    | .str a => if Asc a = true then some (.bl true, E) else none
    | _ => none
  | .isalpha, [] => match o with
    | .str a => if Asc a = true then some (.bl (alphaA a), E) else none
    | _ => none
  | .islower, [] => match o with
    | .str a => if Asc a = true then some (.bl (lowerA a), E) else none
    | _ => none
  | .reverse, [] => match lstOf E o with
    | some (i, ws) => some (.non, E.set i (.lst ws.reverse))
    | none => none
  | _, _ => none
theorem RelWs.rev {ws : List W} {vs : List V} (h : RelWs M H ι ws vs) : RelWs M H ι ws.reverse vs.reverse := by
  induction ws generalizing vs with
  | nil => rw [show vs = [] from h]; exact rfl
  | cons w r ih =>
    obtain ⟨v, q, rfl, h1, h2⟩ := h
    rw [List.reverse_cons, List.reverse_cons]
    exact (ih h2).append (show RelWs M H ι [w] [v] from ⟨v, [], rfl, h1, rfl⟩)
theorem getD_ok {pins : List (Addr × Obj)} {σ : L2.St} {s : Shared} {E : Hh} {o y d w : W} {v yv dv : V} {u yu du : Value} (aP : X.prog = M.P) (aw : X.w = M.w) (aK : X.K = M.K) (hu : X.A.units + 65 < cLine) (I : Inv X pins σ H s) (R : Rel M ι E H)
    (ro : RelW M H ι o v) (ru : RelV v u) (ry : RelW M H ι y yv) (ryu : RelV yv yu) (rd : RelW M H ι d dv) (rdu : RelV dv du) (h : getD E o y d = some w) :
    (∀ Q : VK, Fin M ι H w E Q → wpAny (model X.prog X.w) X.A (call (.builtin "dict.get") [u, yu, du]) (EP X pins σ Q) X.xe s) ∧ (d = .non → ∀ Q : VK, Fin M ι H w E Q → wpAny (model X.prog X.w) X.A (call (.builtin "dict.get") [u, yu]) (EP X pins σ Q) X.xe s) := by
  unfold getD at h
  cases e : lkDn E o y with
  | some r =>
    rw [e] at h
    obtain rfl := Option.some.inj h
    obtain ⟨a, b, i, kvs, xs, rfl, rfl, dn, kb, rfl⟩ := lkDn_ok I aK R ry ro ryu e
    obtain rfl : u = Value.ref a := ru
    have res : ∀ {du' : Value} {dv' : V}, RelW M H ι d dv' → RelV dv' du' → ∃ v', RelW M H ι ((lkN kvs (nk y)).getD d) v' ∧ RelV v' (((atKey (ents kvs xs) (nk y)).map (·.2)).getD du') := fun {du' dv'} r1 r2 => by
      cases e2 : lkN kvs (nk y) with
      | none => rw [(lkN_ok dn.ent).2 e2]; exact ⟨dv', r1, r2⟩
      | some w => obtain ⟨q, v', e3, r3, r4⟩ := (lkN_ok dn.ent).1 w e2; rw [e3]; exact ⟨v', r3, r4⟩
    refine ⟨fun Q k => ?_, fun e0 Q k => ?_⟩
    · obtain ⟨v', r3, r4⟩ := res rd rdu
      rw [aP, aw]
      exact call_meetsIn PySem.F.slot_dict_get dn.dict.typeIs PySem.F.entry_dict_get (PySem.F.args_dict_get_3 _ _ _) (meetsH_dict_get_default (nestedKind M.P M.w) a b dn.low du) ⟨room_n hu, _, _, kb, dn.dict, v', H, I.tok (s.toks + (nestedKind M.P M.w).draws (nk y)), r4, k.now R r3⟩
    · subst e0
      obtain ⟨v', r3, r4⟩ := res (du' := .none) (dv' := .non) rfl rfl
      rw [aP, aw]
      exact call_meetsIn PySem.F.slot_dict_get dn.dict.typeIs PySem.F.entry_dict_get (PySem.F.args_dict_get_2 _ _) (meetsH_dict_get (nestedKind M.P M.w) a b dn.low) ⟨room_n hu, _, _, kb, dn.dict, v', H, I.tok (s.toks + (nestedKind M.P M.w).draws (nk y)), r4, k.now R r3⟩
  | none =>
    rw [e] at h
    dsimp only at h
    split at h
    · rename_i i kvs key e1 e2
      obtain rfl := Option.some.inj h
      obtain ⟨a, vs, ha, _, rfl, hl, rws⟩ := dK_ok R e1 ro
      obtain rfl : u = Value.ref a := ru
      have g : DGet H a yv (valV ((kvs.map (·.1)).zip vs) key) := by rw [keyOf_ok e2 ry]; exact DGet.k hl
      have res : ∀ {dv' : V}, RelW M H ι d dv' → RelW M H ι ((lkK kvs key).getD d) ((valV ((kvs.map (·.1)).zip vs) key).getD dv') := fun {dv'} r1 => by
        cases e3 : lkK kvs key with
        | none => rw [(lkK_ok (k := key) rws).2 e3]; exact r1
        | some w => obtain ⟨v', e4, r4⟩ := (lkK_ok (k := key) rws).1 w e3; rw [e4]; exact r4
      refine ⟨fun Q k => ?_, fun e0 Q k => ?_⟩
      · exact d_get2 (by omega) I g ryu rdu fun w' s' I' rw' => ⟨_, H, I', rw', k.now R (res rd)⟩
      · subst e0
        exact d_get1 (by omega) I g ryu fun w' s' I' rw' => ⟨_, H, I', rw', k.now R (res (dv' := .non) rfl)⟩
    · cases h
theorem mk_ok (aP : X.prog = M.P) (aw : X.w = M.w) (aK : X.K = M.K) (hu : X.A.units + 65 < cLine) : ∀ k : Mk, MtW M X k.id (wMk k) := by
  intro k pins s σ H ι E E' x xs z v vs u us Q I R rx ru rxs rus h kq
  unfold wMk at h
  split at h
  · rename_i y
    split at h
    · rename_i i ws e
      split at h
      · rename_i hl
        obtain ⟨rfl, rfl⟩ : W.non = z ∧ E.set i (.lst (ws ++ [y])) = E' := by simpa using h
        obtain ⟨a, vl, rfl, ha, he, rfl, h1, r1⟩ := lst_ok R e rx
        obtain ⟨yv, rfl, ry⟩ := one_ok rxs
        refine mt_append pins s σ H _ _ u us Q I ru rus ⟨a, vl, yv, rfl, rfl, h1, by rw [← r1.length]; exact few_lt hl, ?_⟩
        exact Fin.putL (Q := fun H' => Q .non H') R ha he h1 (r1.append (show RelWs M H ι [y] [yv] from ⟨yv, [], rfl, ry, rfl⟩)) fun ι' H' x' R' => kq ι' H' _ x' R' rfl
      · cases h
    · cases h
  · split at h
    · rename_i i ws e
      split at h
      · rename_i w hw
        obtain ⟨rfl, rfl⟩ : w = z ∧ E.set i (.lst ws.dropLast) = E' := by simpa using h
        obtain ⟨a, vl, rfl, ha, he, rfl, h1, r1⟩ := lst_ok R e rx
        obtain rfl : vs = [] := rxs
        obtain ⟨wv, hv, rv⟩ := r1.get hw
        refine mt_pop pins s σ H _ _ u us Q I ru rus ⟨a, vl, wv, rfl, rfl, h1, by rw [← r1.length]; exact hv, ?_⟩
        exact Fin.putL (Q := fun H' => Q wv H') R ha he h1 r1.dropLast fun ι' H' x' R' => kq ι' H' _ x' R' (rv.ext x')
      · cases h
    · cases h
  · rename_i j
    split at h
    · rename_i hj
      split at h
      · rename_i i ws e
        split at h
        · rename_i k hk
          split at h
          · rename_i w hw
            obtain ⟨rfl, rfl⟩ : w = z ∧ E.set i (.lst (ws.eraseIdx k)) = E' := by simpa using h
            obtain ⟨a, vl, rfl, ha, he, rfl, h1, r1⟩ := lst_ok R e rx
            obtain ⟨jv, rfl, rj⟩ := one_ok rxs
            obtain ⟨wv, hv, rv⟩ := r1.get hw
            unfold two62 at hj
            refine mt_popAt pins s σ H _ _ u us Q I ru rus ⟨a, vl, j, k, wv, rfl, by rw [show jv = .int j from rj], h1, by omega, by omega, by rw [← r1.length]; exact hk, hv, ?_⟩
            exact Fin.putL (Q := fun H' => Q wv H') R ha he h1 (r1.erase k) fun ι' H' x' R' => kq ι' H' _ x' R' (rv.ext x')
          · cases h
        · cases h
      · cases h
    · cases h
  · rename_i y
    split at h
    · rename_i i ws _ us' e e2
      split at h
      · rename_i hl
        obtain ⟨rfl, rfl⟩ : W.non = z ∧ E.set i (.lst (ws ++ us')) = E' := by simpa using h
        obtain ⟨a, vl, rfl, ha, he, rfl, h1, r1⟩ := lst_ok R e rx
        obtain ⟨yv, rfl, ry⟩ := one_ok rxs
        obtain ⟨b, vl2, rfl, hb, he2, rfl, h2, r2⟩ := lst_ok R e2 ry
        refine mt_extend pins s σ H _ _ u us Q I ru rus ⟨a, b, vl, vl2, rfl, rfl, h1, h2, by rw [← r1.length, ← r2.length]; exact few_le hl, ?_⟩
        exact Fin.putL (Q := fun H' => Q .non H') R ha he h1 (r1.append r2) fun ι' H' x' R' => kq ι' H' _ x' R' rfl
      · cases h
    · rename_i i ws e e2
      split at h
      · rename_i us'
        split at h
        · rename_i hl
          obtain ⟨rfl, rfl⟩ : W.non = z ∧ E.set i (.lst (ws ++ us')) = E' := by simpa using h
          obtain ⟨a, vl, rfl, ha, he, rfl, h1, r1⟩ := lst_ok R e rx
          obtain ⟨yv, rfl, ry⟩ := one_ok rxs
          obtain ⟨b, vl2, rfl, hs2, r2⟩ := ry
          refine mt_extT pins s σ H _ _ u us Q I ru rus ⟨a, b, vl, vl2, rfl, rfl, h1, by rw [aK]; exact hs2, by rw [← r1.length, ← r2.length]; exact few_le hl, ?_⟩
          exact Fin.putL (Q := fun H' => Q .non H') R ha he h1 (r1.append r2) fun ι' H' x' R' => kq ι' H' _ x' R' rfl
        · cases h
      · cases h
    · cases h
  · rename_i y
    obtain ⟨w, e, hw⟩ := Option.map_eq_some_iff.mp h
    obtain ⟨rfl, rfl⟩ : w = z ∧ E = E' := by simpa using hw
    obtain ⟨yv, rfl, ry⟩ := one_ok rxs
    obtain ⟨yu, rfl, ryu⟩ := vals1 rus
    exact (getD_ok aP aw aK hu I R rx ru ry ryu (d := .non) (dv := .non) (du := .none) rfl rfl e).2 rfl Q kq
  · rename_i y d
    obtain ⟨w, e, hw⟩ := Option.map_eq_some_iff.mp h
    obtain ⟨rfl, rfl⟩ : w = z ∧ E = E' := by simpa using hw
    obtain ⟨yv, dv, rfl, ry, rd⟩ := two_ok rxs
    obtain ⟨yu, du, rfl, ryu, rdu⟩ : ∃ yu du, us = [yu, du] ∧ RelV yv yu ∧ RelV dv du := by
      cases rus with
      | cons a r => cases r with
        | cons b r => cases r; exact ⟨_, _, rfl, a, b⟩
    exact (getD_ok aP aw aK hu I R rx ru ry ryu rd rdu e).1 Q kq
  · rename_i b
    split at h
    · rename_i a
      split at h
      · rename_i hc
        obtain ⟨rfl, rfl⟩ : (.ref E.length : W) = z ∧ E ++ [.lst ((Txt.split a b).map .str)] = E' := by simpa using h
        obtain ⟨bv, rfl, rb⟩ := one_ok rxs
        have hf := hc.2
        refine mt_split pins s σ H _ _ u us Q I ru rus ⟨a, b, rx, by rw [show bv = .str b from rb], by simpa using hc.1, by rw [sizeLine_eq]; unfold few at hf; omega, fun p hp => ?_⟩
        exact kq.lst R (RelWs.strs _) p hp
      · cases h
    · cases h
  · rename_i y
    split at h
    · rename_i a
      split at h
      · rename_i ws e
        split at h
        · rename_i ss e2
          split at h
          · rename_i hl
            obtain ⟨rfl, rfl⟩ : W.str (Txt.join a ss) = z ∧ E = E' := by simpa using h
            obtain ⟨yv, rfl, ry⟩ := one_ok rxs
            obtain ⟨p, vl, rfl, hs, r⟩ := seq_ok R e ry
            have es := strs_ok e2 r
            subst es
            exact mt_join pins s σ H _ _ u us Q I ru rus ⟨a, p, ss, rx, rfl, by rw [aK]; exact hs, Nat.le_trans hl (by unfold few; omega), kq.now R rfl⟩
          · cases h
        · cases h
      · cases h
    · cases h
  · split at h
    · rename_i a
      split at h
      · rename_i hc
        obtain ⟨rfl, rfl⟩ : (.bl true : W) = z ∧ E = E' := by simpa using h
        obtain rfl : vs = [] := rxs
        exact mt_isascii pins s σ H _ _ u us Q I ru rus ⟨a, rx, rfl, True.intro, by rw [ascii_A hc]; exact kq.now R rfl⟩
      · cases h
    · cases h
  · split at h
    · rename_i a
      split at h
      · rename_i hc
        obtain ⟨rfl, rfl⟩ : (.bl (alphaA a) : W) = z ∧ E = E' := by simpa using h
        obtain rfl : vs = [] := rxs
        exact mt_isalpha pins s σ H _ _ u us Q I ru rus ⟨a, rx, rfl, True.intro, by rw [alpha_A hc]; exact kq.now R rfl⟩
      · cases h
    · cases h
  · split at h
    · rename_i a
      split at h
      · rename_i hc
        obtain ⟨rfl, rfl⟩ : (.bl (lowerA a) : W) = z ∧ E = E' := by simpa using h
        obtain rfl : vs = [] := rxs
        exact mt_islower pins s σ H _ _ u us Q I ru rus ⟨a, rx, rfl, True.intro, by rw [lower_A hc]; exact kq.now R rfl⟩
      · cases h
    · cases h
  · split at h
    · rename_i i ws e
      obtain ⟨rfl, rfl⟩ : W.non = z ∧ E.set i (.lst ws.reverse) = E' := by simpa using h
      obtain ⟨a, vl, rfl, ha, he, rfl, h1, r1⟩ := lst_ok R e rx
      obtain rfl : vs = [] := rxs
      refine mt_reverse pins s σ H _ _ u us Q I ru rus ⟨a, vl, rfl, rfl, h1, ?_⟩
      exact Fin.putL (Q := fun H' => Q .non H') R ha he h1 r1.rev fun ι' H' x' R' => kq ι' H' _ x' R' rfl
    · cases h
  · cases h
end G

set_option Elab.async false
set_option linter.all false
set_option maxRecDepth 100000
set_option maxHeartbeats 4000000
namespace G
open PySem L2 PySem.Spec PyProof.Rows
variable {M : Md} {H H' H1 H2 : Hp} {ι ι' ι1 ι2 : List Addr} {X : Cx} {W' : WX}

/-! ### a method is called -/
def plainBase : Expr → Bool
  | .Call _ _ _ _ => false
  | _ => true
theorem plainBase_ok {o : Expr} {name : Str} {env : Env} (h : plainBase o = true) : attributeBase o name env (eval o env) = eval o env := by
  cases o <;> first | rfl | cases h
theorem star_not {env : Env} : ∀ {es : List Expr} {pos : Pos}, es.all plainArg = true → (backTo pos (starEach es env)).all (fun x => !x.1) = true
  | [], _, _ => rfl
  | e :: es, pos, h => by
    rw [List.all_cons, Bool.and_eq_true] at h
    rw [starEach_cons h.1]
    show (true && (backTo pos (starEach es env)).all (fun x => !x.1)) = true
    rw [star_not h.2]
    rfl
theorem evalArgs_nil {A : Around} {md : Model} {E : Value → Shared → Prop} {s : Shared} {f : Value} {Q : Args → Shared → Prop} (h : wpAny md A (spliced []) (fun vs s' => Q ⟨vs, []⟩ s') E s) : wpAny md A (evalArgs f true [] []) Q E s := by
  unfold evalArgs
  show wpAny md A (spliced [] >>= _) Q E s
  refine wpAny_bind (wpAny_mono h (fun vs s' h' => ?_) fun _ _ x => x)
  exact wpAny_bind (wpAny_pure (wpAny_holding (wpAny_bind (wpAny_pure (wpAny_bind (wpAny_pure (wpAny_pure h')))))))
def methA (k : Mk) (co : Act W) (ca : Act (List W)) : Act W := fun σ E => andThen (co σ E) fun x E1 => if tyM E1 x k = true then andThen (ca σ E1) fun xs E2 => lift (wMk k x xs E2) else none
theorem pe_methG {Γ : Gm} {o : Expr} {es : List Expr} {name : Str} {apos cpos : Pos} {k : Mk} {co : Act W} {ca : Act (List W)} (a : At M Γ W' X) (hk : mkOf name = some k) (hb : plainBase o = true) (hp : es.all plainArg = true) (hn : es.length < 29) (hline : (apos.endLine == cpos.line) = true)
    (ho : PE X o (SE M W' co)) (ha : PA X es (SA M W' ca)) : PE X (.Call (.Attribute o name apos) es [] cpos) (SE M W' (methA k co ca)) := by
  obtain rfl := mkOf_ok hk
  refine ⟨fun pins s σ H Q I ⟨ι, E, σE, R, rs, h⟩ => ?_⟩
  have few : ((backTo cpos (starEach es X.env)).all (fun x => !x.1) && (backToKw cpos (keywordEach [] X.env)).all (fun x => x.1.isSome) && decide (es.length + ([] : List Keyword).length + (if ([] : List Keyword).isEmpty then 0 else 1) < 30)) = true := by
    rw [star_not hp]
    show (true && true && decide (es.length + 0 + 0 < 30)) = true
    have : es.length + 0 + 0 < 30 := by omega
    rw [decide_eq_true this]
    rfl
  let Q1 : VK := fun v H1 => ∃ ι1 E1 x, Ext M ι H ι1 H1 ∧ Rel M ι1 E1 H1 ∧ RelW M H1 ι1 x v ∧ Rs M W' ι σ H (if tyM E1 x k = true then andThen (ca σE E1) fun xs E2 => lift (wMk k x xs E2) else none) fun w E' => Fin M ι H w E' Q
  have h1 : SE M W' co σ H Q1 := ⟨ι, E, σE, R, rs, (Rs.bind h).imp fun x E1 h1 => fun ι1 H1 v x1 R1 rx => ⟨ι1, E1, x, x1, R1, rx, h1⟩⟩
  refine wpAny_Call_method_late (plainBase_ok hb) few hline rfl (thn (ho.run pins s σ H Q1 I h1) fun v s1 ⟨xv, H1, I1, r1, ι1, E1, x, x1, R1, rx, h2⟩ => ?_)
  by_cases ht : tyM E1 x k = true
  · rw [if_pos ht] at h2
    obtain ⟨t1, t2⟩ := tyM_ok I1 a.K R1 rx r1 ht
    refine ⟨k.T, k.id, k.pa, k.slot, k.ty, t1, t2, ?_⟩
    have hA := ha.run cpos pins s1 σ H1 (fun vs H2 => ∃ ι2 E2 xs, Ext M ι1 H1 ι2 H2 ∧ Rel M ι2 E2 H2 ∧ RelWs M H2 ι2 xs vs ∧ ∃ z E3, wMk k x xs E2 = some (z, E3) ∧ Fin M ι H z E3 Q) I1
      ⟨ι1, E1, σE, R1, rs.ext x1, ((Rs.bind h2).ext x1).imp fun xs E2 h3 => fun ι2 H2 vs x2 R2 rxs => by
        obtain ⟨z, E3, e, kq⟩ := h3.lift
        exact ⟨ι2, E2, xs, x2, R2, rxs, z, E3, e, kq⟩⟩
    refine Calls.callWith_builtin (starEach_plain hp) ?_
    have two : ∀ {Q : Args → Shared → Prop}, wpAny (model X.prog X.w) X.A (spliced (backTo cpos (starEach es X.env))) (fun vs s' => Q ⟨vs, []⟩ s') X.xe s1 → wpAny (model X.prog X.w) X.A (evalArgs (.builtin k.id) true (backTo cpos (starEach es X.env)) []) Q X.xe s1 := fun {Q} h => by
      cases es with
      | nil => exact evalArgs_nil h
      | cons e es =>
        rw [List.all_cons, Bool.and_eq_true] at hp
        rw [starEach_cons hp.1] at h ⊢
        exact Calls.evalArgs_plain h
    refine two ?_
    exact thn hA fun us s2 ⟨vs, H2, I2, r2, ι2, E2, xs, x2, R2, rxs, z, E3, e, kq⟩ => mk_ok a.P a.w a.K a.units k pins s2 σ H2 ι2 E2 E3 x xs z xv vs v us Q I2 R2 (rx.ext x2) r1 rxs r2 e fun ι3 H3 w x3 => kq ι3 H3 w ((x1.trans x2).trans x3)
  · rw [if_neg ht] at h2
    exact h2.none.elim
/-! ### len, any, all, of more -/
def wLenN (xs : List W) (E : Hh) : Option (W × Hh) := match xs with
  | [x] => match dnOf E x with
    | some (_, kvs) => some (.int kvs.length, E)
    | none => match dKOf E x with
      | some (_, kvs) => if kvs.length ≤ few then some (.int kvs.length, E) else none
      | none => wBi .len xs E
  | _ => none
/-! ### truth -/
def wTruN (x : W) (E : Hh) : Option Bool := match dnOf E x with
  | some (_, kvs) => some (!kvs.isEmpty)
  | none => wTru x E
theorem PT.or2 {e : Expr} {t1 t2 : TT} (h1 : PT X e t1) (h2 : PT X e t2) : PT X e (fun σ H Q => t1 σ H Q ∨ t2 σ H Q) := ⟨fun pins s σ H R I q => q.elim (h1.run pins s σ H R I) (h2.run pins s σ H R I)⟩
def byTruN (ca : Act W) : Act Bool := fun σ E => andThen (ca σ E) fun x E1 => match wTruN x E1 with
  | some b => some (.ok b E1)
  | none => none
theorem tru_or (aK : X.K = M.K) : TruR X (fun x H Q => rTruN M x H Q ∨ ∃ k, TruV X.K x H k ∧ Q k H) := fun pins s σ H x v Q I r h => h.elim (tru_N aK pins s σ H x v Q I r) (tru_ok pins s σ H x v Q I r)
theorem truN_ok {E : Hh} {x : W} {b : Bool} {v : V} {Q : Bool → Hp → Prop} (aK : X.K = M.K) (h : wTruN x E = some b) (R : Rel M ι E H) (rx : RelW M H ι x v) (q : Q b H) : rTruN M v H Q ∨ ∃ k, TruV X.K v H k ∧ Q k H := by
  unfold wTruN at h
  cases e : dnOf E x with
  | some p =>
    obtain ⟨i, kvs⟩ := p
    rw [e] at h
    obtain rfl := Option.some.inj h
    exact .inl ⟨ι, E, x, i, kvs, R, rx, e, q⟩
  | none =>
    rw [e] at h
    exact .inr ⟨b, by rw [aK]; exact tru_okW h R rx, q⟩
theorem pt_truNG {e : Expr} {ca : Act W} (aK : X.K = M.K) (hp : plainTest e = true) (ha : PE X e (SE M W' ca)) : PT X e (ST M W' (byTruN ca)) :=
  PT.imp (pt_truthR ha (tru_or aK) (isTrue_value hp)) fun σ H Q ⟨ι, E, σE, R, rs, h⟩ => ⟨ι, E, σE, R, rs, (Rs.bind h).imp fun x E1 h1 => fun ι1 H1 v x1 R1 rx => by
    cases e : wTruN x E1 with
    | none => rw [e] at h1; exact h1.none.elim
    | some b =>
      rw [e] at h1
      exact truN_ok aK e R1 rx (h1.ok ι1 H1 x1 R1)⟩
/-! ### in, of any dict -/
def wInN (x y : W) (E : Hh) : Option Bool := match lkDn E y x with
  | some o => some o.isSome
  | none => wIn x y E
def wCmpN (op : CmpOp) (x y : W) (E : Hh) : Option Bool := match op with
  | .In => wInN x y E
  | .NotIn => (wInN x y E).map (!·)
  | op => wCmp op x y E
def rCmpN (M : Md) (op : CmpOp) : R2 := fun x y H Q => (match op with
  | .In => rInN M false x y H Q
  | .NotIn => rInN M true x y H Q
  | _ => False) ∨ rCmpAll M.K op x y H Q
theorem op_cmpN {Γ : Gm} (a : At M Γ W' X) (op : CmpOp) : OpR X (compareOp op) (rCmpN M op) := by
  have base : OpR X (compareOp op) (rCmpAll X.K op) := op_cmpAll a.units op
  rw [a.K] at base
  intro pins s σ H x y v u Q I rx ry h
  rcases h with h | h
  · cases op with
    | In => exact op_inN a.P a.w a.K a.units pins s σ H x y v u Q I rx ry h
    | NotIn => exact op_notInN a.P a.w a.K a.units pins s σ H x y v u Q I rx ry h
    | _ => exact h.elim
  · exact base pins s σ H x y v u Q I rx ry h
theorem cmpN_ok {op : CmpOp} {E : Hh} {x y : W} {b : Bool} {v u : V} {Q : VK} (h : wCmpN op x y E = some b) (R : Rel M ι E H) (rx : RelW M H ι x v) (ry : RelW M H ι y u) (k : Fin M ι H (.bl b) E Q) : rCmpN M op v u H Q := by
  have q : Q (.bl b) H := k.now R rfl
  cases op with
  | In =>
    have h : wInN x y E = some b := h
    unfold wInN at h
    cases e : lkDn E y x with
    | some o =>
      rw [e] at h
      obtain rfl := Option.some.inj h
      exact .inl ⟨ι, E, x, y, o, R, rx, ry, e, q⟩
    | none =>
      rw [e] at h
      exact .inr (cmp_ok (op := .In) h R rx ry k)
  | NotIn =>
    have h : (wInN x y E).map (!·) = some b := h
    unfold wInN at h
    cases e : lkDn E y x with
    | some o =>
      rw [e] at h
      obtain rfl := Option.some.inj h
      exact .inl ⟨ι, E, x, y, o, R, rx, ry, e, q⟩
    | none =>
      rw [e] at h
      exact .inr (cmp_ok (op := .NotIn) h R rx ry k)
  | Eq => exact .inr (cmp_ok (op := .Eq) h R rx ry k)
  | NotEq => exact .inr (cmp_ok (op := .NotEq) h R rx ry k)
  | Lt => exact .inr (cmp_ok (op := .Lt) h R rx ry k)
  | LtE => exact .inr (cmp_ok (op := .LtE) h R rx ry k)
  | Gt => exact .inr (cmp_ok (op := .Gt) h R rx ry k)
  | GtE => exact .inr (cmp_ok (op := .GtE) h R rx ry k)
  | Is => exact .inr (cmp_ok (op := .Is) h R rx ry k)
  | IsNot => exact .inr (cmp_ok (op := .IsNot) h R rx ry k)
def wCmpNA (op : CmpOp) (ca cb : Act W) : Act W := fun σ E => andThen (ca σ E) fun x E1 => andThen (cb σ E1) fun y E2 => lift ((wCmpN op x y E2).map fun b => (.bl b, E2))
theorem mapN_bl {op : CmpOp} {x y z : W} {E E' : Hh} (h : ((wCmpN op x y E).map fun b => ((.bl b : W), E)) = some (z, E')) : ∃ b, wCmpN op x y E = some b ∧ z = .bl b ∧ E' = E := by
  cases e : wCmpN op x y E with
  | none => rw [e] at h; cases h
  | some b =>
    rw [e] at h
    obtain ⟨rfl, rfl⟩ : (.bl b : W) = z ∧ E = E' := by simpa using h
    exact ⟨b, rfl, rfl, rfl⟩
theorem se_cmpN {op : CmpOp} {ca cb : Act W} : ∀ (σ : L2.St) (H : Hp) (Q : VK), SE M W' (wCmpNA op ca cb) σ H Q → tOp (rCmpN M op) (SE M W' ca) (SE M W' cb) σ H Q :=
  se_op (f := fun x y E => (wCmpN op x y E).map fun b => (.bl b, E)) fun {ι E E' H x y z v u Q} h R rx ry k => by
    obtain ⟨b, e, rfl, rfl⟩ := mapN_bl h
    exact cmpN_ok e R rx ry k
theorem pe_cmpNG {Γ : Gm} {e f : Expr} {op : CmpOp} {pos : Pos} {ca cb : Act W} (a : At M Γ W' X) (hm : behindInMarks op f = false) (ha : PE X e (SE M W' ca)) (hb : PE X f (SE M W' cb)) : PE X (.Compare e [op] [f] pos) (SE M W' (wCmpNA op ca cb)) :=
  PE.imp (pe_cmpR (op_cmpN a op) ha hb hm) se_cmpN
theorem pt_cmpNG {Γ : Gm} {e f : Expr} {op : CmpOp} {pos : Pos} {ca cb : Act W} (a : At M Γ W' X) (hm : behindInMarks op f = false) (ha : PE X e (SE M W' ca)) (hb : PE X f (SE M W' cb)) : PT X (.Compare e [op] [f] pos) (ST M W' (toT (wCmpNA op ca cb))) :=
  PT.imp (pt_cmpR (op_cmpN a op) ha hb hm) fun σ H Q q => tTest_mono se_cmpN σ H Q (st_test σ H Q q)
/-! ### [], of any dict -/
def wIxN (x y : W) (E : Hh) : Option (W × Hh) := match lkDn E x y with
  | some (some w) => some (w, E)
  | some none => none
  | none => wIx x y E
theorem ix_okN {E E' : Hh} {x y z : W} {v u : V} {Q : VK} (h : wIxN x y E = some (z, E')) (R : Rel M ι E H) (rx : RelW M H ι x v) (ry : RelW M H ι y u) (k : Fin M ι H z E' Q) : rIxN M v u H Q ∨ rIxAll M.K v u H Q := by
  unfold wIxN at h
  split at h
  · rename_i w e
    obtain ⟨rfl, rfl⟩ : w = z ∧ E = E' := by simpa using h
    exact .inl ⟨ι, E, x, y, w, R, rx, ry, e, k⟩
  · cases h
  · exact .inr (ix_ok h R rx ry k)
def wIxNA (ca cb : Act W) : Act W := fun σ E => andThen (ca σ E) fun x E1 => andThen (cb σ E1) fun y E2 => lift (wIxN x y E2)
theorem pe_ixNG {Γ : Gm} {e f : Expr} {pos : Pos} {ca cb : Act W} (a : At M Γ W' X) (hp : plainIx f = true) (ha : PE X e (SE M W' ca)) (hb : PE X f (SE M W' cb)) : PE X (.Subscript e f pos) (SE M W' (wIxNA ca cb)) := by
  have ixs : IxR X (fun x y H Q => rIxN M x y H Q ∨ rIxAll M.K x y H Q) := (ix_N a.P a.w a.K a.units).or (by have := ix_all (X := X) (by have := a.units; omega); rw [a.K] at this; exact this)
  exact PE.imp (pe_ix ixs ha hb (plainIx_ok hp)) (se_op (f := wIxN) ix_okN)
/-- o[i] = v -/
def wSetAll (o i w : W) (E : Hh) : Option Hh := match wSetN o i w E with
  | some E' => some E'
  | none => wSet o i w E
def subNG (co ci : Act W) : ActG := fun w σ E => andThen (co σ E) fun o E1 => andThen (ci σ E1) fun i E2 => optR ((wSetAll o i w E2).map fun E3 => (E3, σ)) E2 |>.bind fun r => match r with
  | .ok p _ => some (.ok p.2 p.1)
  | .ex _ _ => none
theorem pg_subNG {Γ : Gm} {o i : Expr} {pos : Pos} {co ci : Act W} (a : At M Γ W' X) (hp : plainIx i = true) (ho : PE X o (SE M W' co)) (hi : PE X i (SE M W' ci)) : PG X (.Subscript o i pos) (SG M W' (subNG co ci)) := by
  have sets : PSet X (fun o i v H Q => rSetN M o i v H Q ∨ rSetAll o i v H Q) := fun pins s σ H o i v ov iv u Q I ro ri rv h => h.elim (set_N a.P a.w a.K a.units pins s σ H o i v ov iv u Q I ro ri rv) (set_all (X := X) (by have := a.units; omega) pins s σ H o i v ov iv u Q I ro ri rv)
  refine PG.imp (pg_sub ho hi sets (by cases i <;> first | (intro v; rfl) | cases hp)) fun v σ H Q ⟨ι, E, σE, w, R, rs, rv, k⟩ => ⟨ι, E, σE, R, rs, (Rs.bind k).imp fun o E1 h1 => fun ι1 H1 ov x1 R1 ro => ⟨ι1, E1, σE, R1, rs.ext x1, (h1.bind.ext x1).imp fun i E2 h2 => fun ι2 H2 iv x2 R2 ri => ?_⟩⟩
  have xx := x1.trans x2
  cases e : wSetN o i w E2 with
  | some E3 =>
    have ea : wSetAll o i w E2 = some E3 := by unfold wSetAll; rw [e]
    rw [ea] at h2
    exact .inl ⟨ι2, E2, o, i, w, E3, R2, ro.ext x2, ri, (rv.ext x1).ext x2, e, fun ι3 H3 x3 R3 => h2.ok ι3 H3 σ (xx.trans x3) R3 (rs.ext (xx.trans x3))⟩
  | none =>
    have ea : wSetAll o i w E2 = wSet o i w E2 := by unfold wSetAll; rw [e]
    rw [ea] at h2
    cases e2 : wSet o i w E2 with
    | none => rw [e2] at h2; exact h2.none.elim
    | some E3 =>
      rw [e2] at h2
      exact .inr (set_ok e2 R2 (ro.ext x2) ri ((rv.ext x1).ext x2) fun ι3 H3 x3 R3 => h2.ok ι3 H3 σ (xx.trans x3) R3 (rs.ext (xx.trans x3)))
end G

set_option Elab.async false
set_option linter.all false
set_option maxRecDepth 100000
set_option maxHeartbeats 4000000
namespace G
open PySem L2 PySem.Spec PyProof.Rows
variable {M : Md} {H H' H1 H2 : Hp} {ι ι' ι1 ι2 : List Addr} {X : Cx} {W' : WX}

/-! ### comprehensions of any number of clauses, lists and dicts -/
inductive Ck where
  | l (elt : Expr) | d (k v : Expr)
def Ck.ex (c : Ck) (gens : List Comprehension) (scope : Scope) (pos : Pos) : Expr := match c with
  | .l elt => .ListComp elt gens scope pos
  | .d k v => .DictComp k v gens scope pos
def Ck.emit (c : Ck) (acc : Value) (env : Env) : Sem Unit := match c with
  | .l elt => do let _ ← call (.builtin "list.append") [acc, ← eval elt env]
  | .d k v => do
    let kv ← eval k env
    let vv ← holding [kv] (eval v env)
    match acc with
    | .ref at' => do
      standAt { k.pos with endLine := v.pos.endLine, endCol := v.pos.endCol }
      holding [kv, vv] (dictSet at' kv vv)
    | _ => unsupported "internal:dictcomp"
def TurnEq (e : Expr) (j : Nat) (tg : Expr) (ifs : List Expr) (p : Pos) (m : Value → Env → Sem PySem.Fin → Sem PySem.Fin) : Prop := ∀ it acc env, compTurn e j it acc env = (do
  standAt p
  match ← pyNext it with
  | none => pure (.done .next)
  | some v =>
    letOwnedTupleGo tg it v
    assign tg env v
    let ok ← forIn ifs true fun c r => if r = true then do let ok ← isTrue c env (eval c env); pure (ForInStep.yield ok) else pure (ForInStep.yield r)
    if ok = true then m acc env (again (.compLoop e j it acc env)) else again (.compLoop e j it acc env))
theorem turn_last {c : Ck} {gens : List Comprehension} {scope : Scope} {pos : Pos} {j : Nat} {tg iter : Expr} {ifs : List Expr} (hj : gens[j]? = some ⟨tg, iter, ifs, 0⟩) (hn : gens[j + 1]? = none) :
    TurnEq (c.ex gens scope pos) j tg ifs iter.pos (fun acc env k => c.emit acc env >>= fun _ => k) := fun it acc env => by
  cases c
  all_goals
    unfold compTurn Ck.ex Ck.emit
    simp only [hj, hn]
    rfl
def moreM (e : Expr) (j : Nat) (iter1 : Expr) (acc : Value) (env : Env) (k : Sem PySem.Fin) : Sem PySem.Fin := do
  let x ← eval iter1 env
  standAt iter1.pos
  let x ← foldedSetIterable iter1 env x
  let _ ← runOwn (.compStart e (j + 1) (← holding [x] (pyIter x)) acc env) env
  k
theorem turn_more {c : Ck} {gens : List Comprehension} {scope : Scope} {pos : Pos} {j : Nat} {tg iter tg1 iter1 : Expr} {ifs ifs1 : List Expr} (hj : gens[j]? = some ⟨tg, iter, ifs, 0⟩) (hn : gens[j + 1]? = some ⟨tg1, iter1, ifs1, 0⟩) :
    TurnEq (c.ex gens scope pos) j tg ifs iter.pos (fun acc env k => moreM (c.ex gens scope pos) j iter1 acc env k) := fun it acc env => by
  cases c
  all_goals
    unfold compTurn Ck.ex moreM
    simp only [hj, hn]
    rfl
abbrev TH := L2.St → Hp → (Hp → Prop) → Prop
/-- what is done in a turn, ahead of the rest k; the slots vs may be written -/
structure PAct (Y : Cx) (vs : List Nat) (m : Sem PySem.Fin → Sem PySem.Fin) (t : TH) : Prop where
  run : ∀ (pins : List (Addr × Obj)) (s : Shared) (σ : L2.St) (H : Hp) (Q : Hp → Prop) (k : Sem PySem.Fin) (Qk : PySem.Fin → Shared → Prop) (E : Value → Shared → Prop), Inv Y pins σ H s → t σ H Q →
    (∀ s' H' σ', Inv Y pins σ' H' s' → L2.wipe σ' vs = L2.wipe σ vs → Q H' → wpAny (model Y.prog Y.w) Y.A k Qk E s') → wpAny (model Y.prog Y.w) Y.A (m k) Qk E s
theorem fp_stays {Y : Cx} {pins : List (Addr × Obj)} {b : Addr} (f : FpOk Y pins H b) (h : H' b = none) : FpOk Y pins H' b := ⟨h, f.2⟩
/-- the loop of a clause -/
theorem loop_gen {Y : Cx} {c : Ck} {gens : List Comprehension} {scope : Scope} {pos p : Pos} {pins : List (Addr × Obj)} {σ : L2.St} {vs vd : List Nat} {s : Shared} {j : Nat} {tg : Expr} {ifs : List Expr} {m : Value → Env → Sem PySem.Fin → Sem PySem.Fin} {J : It} {fp : List Addr} {it : Addr} {tn : Nat → Heap → Prop}
    {acc : Value} {g : TG} {tt : TT} {body : TH} {Wm : Nat → Nat → Hp → Prop} {Out : Hp → Prop} {R : Result → Shared → Prop} (hx : Y.xe = fun _ _ => False) (hc : Y.calm = true) (te : TurnEq (c.ex gens scope pos) j tg ifs p m) (T : Turn Y.prog Y.w Y.K tg J fp it tn) (pg : PG Y tg g) (pt : PTs Y ifs tt) (pm : PAct Y vd (m acc Y.env) body) (sub : ∀ l ∈ vd, l ∈ vs)
    (I : Inv Y pins (L2.wipe σ vs) H s) (st : tn 0 s.heap) (hf : ∀ b ∈ fp, FpOk Y pins H b) (m0 : Nat) (w0 : Wm 0 m0 H)
    (turn : ∀ i n H, Wm i n H → (J.stop i H ∧ Out H) ∨ (J.go i H ∧ ∃ Nx : Hp → Prop, (∀ H', Nx H' → ∃ n', n' < n ∧ Wm (i + 1) n' H') ∧ ∀ x H', J.yld i H x H' → g x (L2.wipe σ vs) H' fun σ2 H2 => L2.wipe σ2 vs = L2.wipe σ vs ∧ tt σ2 H2 fun b H3 => if b = true then body σ2 H3 Nx else Nx H3))
    (hR : ∀ s' H', Inv Y pins (L2.wipe σ vs) H' s' → Out H' → R (.ok .next) s') : codeAny (model Y.prog Y.w) Y.A (.compLoop (c.ex gens scope pos) j (.ref it) acc Y.env) R s := by
  have goal : ∀ (hq : (Code.compLoop (c.ex gens scope pos) j (.ref it) acc Y.env).quiet = true) (hu : Y.A.under (.compLoop (c.ex gens scope pos) j (.ref it) acc Y.env) = Y.A)
      (hd : ∀ {Q : PySem.Fin → Shared → Prop} {E : Value → Shared → Prop} {s : Shared}, wpAny (model Y.prog Y.w) Y.A (compTurn (c.ex gens scope pos) j (.ref it) acc Y.env) Q (notedBy (model Y.prog Y.w) Y.A Y.env E) s → wpAny (model Y.prog Y.w) Y.A ((model Y.prog Y.w).den (.compLoop (c.ex gens scope pos) j (.ref it) acc Y.env)) Q E s),
      codeAny (model Y.prog Y.w) Y.A (.compLoop (c.ex gens scope pos) j (.ref it) acc Y.env) R s := fun hq hu hd => by
    refine codeAny_loop hq (fun n s' => ∃ i H', Inv Y pins (L2.wipe σ vs) H' s' ∧ tn i s'.heap ∧ (∀ b ∈ fp, FpOk Y pins H' b) ∧ Wm i n H') (fun n s1 h1 => ?_) m0 ⟨0, H, I, st, hf, w0⟩
    obtain ⟨i, H1, I1, st1, f1, w1⟩ := h1
    rw [hu]
    refine hd ?_
    rw [te]
    refine wpAny_bind (wpAny_standAt (wpAny_bind ?_))
    have up : ∀ {α : Type} {t : Sem α} {Q Q' : α → Shared → Prop} {E' : Value → Shared → Prop} {s : Shared}, wpAny (model Y.prog Y.w) Y.A t Q Y.xe s → (∀ a s, Q a s → Q' a s) → wpAny (model Y.prog Y.w) Y.A t Q' E' s := fun h k => by
      rw [hx] at h
      exact thnF h k
    rcases turn i n H1 w1 with ⟨stop, out⟩ | ⟨go, Nx, hNx, step⟩
    · refine thnF (T.done Y rfl rfl rfl hc i pins s1 _ H1 (fun _ _ => False) I1 f1 st1 stop) fun r s2 ⟨hr, I2⟩ => ?_
      subst hr
      exact wpAny_pure (hR s2 H1 I2 out)
    · refine thnF (T.item Y rfl rfl rfl hc i pins s1 _ H1 (fun _ _ => False) I1 f1 st1 go) fun r s2 ⟨u, hr, h2⟩ => ?_
      subst hr
      refine wpAny_bind (thnF h2 fun _ s3 ⟨x, H3, I3, r3, y3, st3, n3⟩ => ?_)
      have f3 : ∀ b ∈ fp, FpOk Y pins H3 b := fun b hb => fp_stays (f1 b hb) (n3 b hb)
      have I3' := I3.pinned f3 (T.obj _ _ st3)
      refine wpAny_bind (up (pg.run _ s3 _ H3 x u _ I3' r3 (step x H3 y3)) fun _ s4 ⟨σ4, H4, I4, hw4, q4⟩ => ?_)
      refine wpAny_bind (up (pt.run _ s4 σ4 H4 _ I4 q4) fun b s5 ⟨H5, I5, q5⟩ => ?_)
      have fin : ∀ {s' : Shared} {H' : Hp} {σ' : L2.St}, Inv Y (pins ++ pinsAt fp s3.heap) σ' H' s' → L2.wipe σ' vd = L2.wipe σ4 vd → Nx H' → ∃ m', m' < n ∧ ∃ i H', Inv Y pins (L2.wipe σ vs) H' s' ∧ tn i s'.heap ∧ (∀ b ∈ fp, FpOk Y pins H' b) ∧ Wm i m' H' := fun {s' H' σ'} I' hw' nx => by
        obtain ⟨m', hm, w'⟩ := hNx H' nx
        have pin' : ∀ b ∈ fp, ∀ o, s3.heap.get? b = some o → s'.heap.get? b = some o ∧ H' b = none := fun b hb o e => by
          have z := I'.pin (b, o) (List.mem_append_right _ (List.mem_append_right _ (mem_pinsAt hb e)))
          exact ⟨z.1, z.2.1⟩
        have hlen : (L2.wipe σ vs).length = σ'.length := by rw [← hw4, L2.wipe_length, ← L2.wipe_length σ4 vd, ← hw', L2.wipe_length]
        refine ⟨m', hm, i + 1, H', I'.unpinned.weak hlen (fun l v e => by
          rw [← hw4] at e
          obtain ⟨e1, nl⟩ := L2.wipe_some e
          have nd : l ∉ vd := fun h => nl (sub l h)
          rw [← L2.wipe_out nd, ← hw', L2.wipe_out nd] at e1
          exact e1), T.keep _ _ _ st3 fun b hb o e => (pin' b hb o e).1, fun b hb => ?_, w'⟩
        obtain ⟨o, e, _⟩ := T.obj _ _ st3 b hb
        exact fp_stays (f1 b hb) (pin' b hb o e).2
      cases b with
      | false =>
        rw [if_neg Bool.false_ne_true] at q5 ⊢
        exact wpAny_pure ⟨rfl, fin I5 rfl q5⟩
      | true =>
        rw [if_pos rfl] at q5 ⊢
        exact pm.run _ s5 σ4 H5 Nx _ _ _ I5 q5 fun s' H' σ' I' hw' nx => wpAny_pure ⟨rfl, fin I' hw' nx⟩
  cases c with
  | l elt => exact goal rfl rfl fun h => wpAny_noted h
  | d k v => exact goal rfl rfl fun h => wpAny_noted h
/-- a clause begins -/
theorem start_gen {P : Program} {w : World} {A : Around} {c : Ck} {gens : List Comprehension} {scope : Scope} {pos : Pos} {j : Nat} {tg iter : Expr} {ifs : List Expr} {it acc : Value} {env : Env} {R : Result → Shared → Prop} {s : Shared} (hj : gens[j]? = some ⟨tg, iter, ifs, 0⟩)
    (h0 : codeAny (model P w) A (.compLoop (c.ex gens scope pos) j it acc env) R s) (h : wpAny (model P w) A (pyIter it) (fun it' s' => codeAny (model P w) A (.compLoop (c.ex gens scope pos) j it' acc env) R s') (notedBy (model P w) A env fun x s' => R (.error x) s') s) :
    codeAny (model P w) A (.compStart (c.ex gens scope pos) j it acc env) R s := by
  have goal : ∀ (hq : ∀ it', (Code.compLoop (c.ex gens scope pos) j it' acc env).quiet = true) (hcl : clausesOf (c.ex gens scope pos) = gens) (hu : A.under (.compStart (c.ex gens scope pos) j it acc env) = A)
      (hd : ∀ {Q : PySem.Fin → Shared → Prop} {E : Value → Shared → Prop} {s : Shared}, wpAny (model P w) A (compStart (c.ex gens scope pos) j it acc env) Q (notedBy (model P w) A env E) s → wpAny (model P w) A ((model P w).den (.compStart (c.ex gens scope pos) j it acc env)) Q E s),
      codeAny (model P w) A (.compStart (c.ex gens scope pos) j it acc env) R s := fun hq hcl hu hd => by
    refine codeAny_of_tree ?_
    rw [hu]
    refine hd ?_
    unfold compStart
    simp only [hcl, hj]
    show wpAny _ _ (ask >>= _) _ _ s
    refine wpAny_bind (wpAny_askSetting (wpAny_ite ?_))
    split
    · exact wpAny_pure ⟨hq _, h0⟩
    · refine wpAny_bind (wpAny_rule (wpAny_bind (wpAny_standAt (wpAny_bind (wpAny_mono h (fun it' s' h' => wpAny_pure ⟨hq _, h'⟩) fun _ _ x => x)))))
  cases c with
  | l elt => exact goal (fun _ => rfl) rfl rfl fun h => wpAny_notedAt h
  | d k v => exact goal (fun _ => rfl) rfl rfl fun h => wpAny_notedAt h
/-- a further clause -/
def nestT (wi : TI) (g : TG) (tt : TT) (body : TH) (vs : List Nat) : TH := fun σ H Q => wi σ H fun J H1 => ∃ Wm : Nat → Nat → Hp → Prop, (∃ m, Wm 0 m H1) ∧ ∀ i n H, Wm i n H → (J.stop i H ∧ Q H) ∨ (J.go i H ∧ ∃ Nx : Hp → Prop, (∀ H', Nx H' → ∃ n', n' < n ∧ Wm (i + 1) n' H') ∧
  ∀ x H', J.yld i H x H' → g x (L2.wipe σ vs) H' fun σ2 H2 => L2.wipe σ2 vs = L2.wipe σ vs ∧ tt σ2 H2 fun b H3 => if b = true then body σ2 H3 Nx else Nx H3)
theorem wipe_sub {σ : L2.St} {vs : List Nat} : L2.wipe (L2.wipe σ vs) vs = L2.wipe σ vs := wipe_wipe
theorem act_more {Y : Cx} {c : Ck} {gens : List Comprehension} {scope : Scope} {pos p : Pos} {vs vd : List Nat} {j : Nat} {tg iter : Expr} {ifs : List Expr} {m : Value → Env → Sem PySem.Fin → Sem PySem.Fin} {acc : Value} {wi : TI} {g : TG} {tt : TT} {body : TH} (hx : Y.xe = fun _ _ => False) (hc : Y.calm = true)
    (hj : gens[j + 1]? = some ⟨tg, iter, ifs, 0⟩) (te : TurnEq (c.ex gens scope pos) (j + 1) tg ifs p m) (hi : PI Y tg iter wi) (pg : PG Y tg g) (pt : PTs Y ifs tt) (pm : PAct Y vd (m acc Y.env) body) (sub : ∀ l ∈ vd, l ∈ vs) (hs : ∀ x, foldedSetIterable iter Y.env x = pure x) :
    PAct Y vs (moreM (c.ex gens scope pos) j iter acc Y.env) (nestT wi g tt body vs) := ⟨fun pins s σ H Q k Qk E I h hk => by
  have up : ∀ {α : Type} {t : Sem α} {Q Q' : α → Shared → Prop} {E' : Value → Shared → Prop} {s : Shared}, wpAny (model Y.prog Y.w) Y.A t Q Y.xe s → (∀ a s, Q a s → Q' a s) → wpAny (model Y.prog Y.w) Y.A t Q' E' s := fun h k => by
    rw [hx] at h
    exact thnF h k
  unfold moreM
  refine wpAny_bind (up (hi.run pins s σ H _ I h) fun x s1 h1 => wpAny_bind (wpAny_standAt (wpAny_bind (wpAny_of_eq (hs x) (wpAny_bind (wpAny_holding (up h1 fun itv s2 h2 => ?_)))))))
  obtain ⟨it, fp, tn, J, H2, e, I2, T, st2, f2, Wm, ⟨m0, w0⟩, turn⟩ := h2
  subst e
  have I3 : Inv Y pins (L2.wipe σ vs) H2 s2 := I2.weak (L2.wipe_length _ _) fun l v e => (L2.wipe_some e).1
  have loop : codeAny (model Y.prog Y.w) Y.A (.compLoop (c.ex gens scope pos) (j + 1) (.ref it) acc Y.env) (fun r s' => match r with
      | .ok _ => ∃ H', Inv Y pins (L2.wipe σ vs) H' s' ∧ Q H'
      | .error _ => False) s2 := loop_gen hx hc te T pg pt pm sub I3 st2 f2 m0 w0 turn fun s' H' I' q => ⟨H', I', q⟩
  refine wpAny_bind (wpAny_runOwn ?_)
  rw [Around.mark_none]
  refine codeAny_mono (start_gen hj loop (T.self Y.A 0 _ _ _ st2 loop)) fun r s' hr => ?_
  cases r with
  | error e => exact hr.elim
  | ok f =>
    obtain ⟨H', I', q⟩ := hr
    first
      | exact hk s' H' _ I' wipe_wipe q
      | exact wpAny_pure (hk s' H' _ I' wipe_wipe q)
      | exact wpAny_bind (wpAny_pure (hk s' H' _ I' wipe_wipe q))⟩
end G

set_option Elab.async false
set_option linter.all false
set_option maxRecDepth 100000
set_option maxHeartbeats 4000000
namespace G
open PySem L2 PySem.Spec PyProof.Rows
variable {M : Md} {H H' H1 H2 : Hp} {ι ι' ι1 ι2 : List Addr} {X : Cx} {W' : WX}

def Ck.new : Ck → Sem Value
  | .l _ => newList []
  | .d _ _ => newDict
def Ck.ho : Ck → HO
  | .l _ => .lst []
  | .d _ _ => .dK []
def Ck.ob : Ck → O
  | .l _ => .lst []
  | .d _ _ => .dK []
def Ck.obj : Ck → Obj
  | .l _ => { cls := .type "list", data := .seq ([] : List Value).toArray }
  | .d _ _ => { cls := .type "dict", data := .dict #[] }
theorem Ck.new_ok {c : Ck} {md : Model} {A : Around} {E Q : Value → Shared → Prop} {s : Shared} (h : Q (.ref s.heap.objs.size) { s with heap := s.heap.push c.obj }) : wpAny md A c.new Q E s := by
  cases c with
  | l e => exact wpAny_newObj_type h (by show 0 ≤ sizeLine; decide)
  | d k v => exact wpAny_newObj_type h
theorem Ck.ok {c : Ck} {P : Program} {w : World} (h : Heap) (hb : sysModules < h.objs.size) : ObjOk P w H (h.push c.obj) h.objs.size c.ho := by
  cases c with
  | l e => exact ⟨Nat.zero_le _, [], 0, .nil, Heap.get?_push_size _ rfl⟩
  | d k v => exact dk_empty h hb
/-- a comprehension, D what comes of it -/
def tCk (c : Ck) (wi : TI) (g : TG) (tt : TT) (body : Addr → TH) (vs : List Nat) : TE := fun σ H Q => wi σ H fun J H1 => ∀ D, H1 D = none → ∃ Wm : Nat → Nat → Hp → Prop, (∃ m, Wm 0 m (upd H1 D c.ho)) ∧ ∀ i n H, Wm i n H → (J.stop i H ∧ Q (.ref D) H) ∨ (J.go i H ∧ ∃ Nx : Hp → Prop, (∀ H', Nx H' → ∃ n', n' < n ∧ Wm (i + 1) n' H') ∧
  ∀ x H', J.yld i H x H' → g x (L2.wipe σ vs) H' fun σ2 H2 => L2.wipe σ2 vs = L2.wipe σ vs ∧ tt σ2 H2 fun b H3 => if b = true then body D σ2 H3 Nx else Nx H3)
theorem core_gen {c : Ck} {pins : List (Addr × Obj)} {s : Shared} {σ : L2.St} {Q : VK} {tg iter : Expr} {ifs : List Expr} {rest : List Comprehension} {scope : Scope} {own : List (Str × Nat)} {vd : List Nat} {pos pos' p : Pos} {wi : TI} {g : TG} {tt : TT} {body : Addr → TH} {m : Value → Env → Sem PySem.Fin → Sem PySem.Fin} {use : Option (Value → Sem Unit)} {Qf : Value → Shared → Prop}
    (hc : X.calm = true) (hN : X.N.Nodup) (I : Inv X pins σ H s) (hi : PI X tg iter wi) (ok : BlkOk X.N X.env.scope scope own) (sub : ∀ l ∈ vd, l ∈ own.map (·.2))
    (te : TurnEq (c.ex (⟨tg, iter, ifs, 0⟩ :: rest) scope pos) 0 tg ifs p m)
    (hg : Blks X scope fun Y => PG Y tg g) (ht : Blks X scope fun Y => PTs Y ifs tt) (hm : ∀ D, Blks X scope fun Y => PAct Y vd (m (.ref D) Y.env) (body D)) (hs : ∀ x, foldedSetIterable iter X.env x = pure x)
    (h : tCk c wi g tt body (own.map (·.2)) σ H Q)
    (hRR : ∀ D C s' m H', Inv X pins σ H' s' → Q (.ref D) H' → s'.heap.Ns C m → FpOk X pins H' C → compPost (model X.prog X.w) X.A X.xe use Qf (.ref D) C (.ok .next) s') :
    wpAny (model X.prog X.w) X.A (comprehension (c.ex (⟨tg, iter, ifs, 0⟩ :: rest) scope pos) scope X.env pos' c.new false (eval iter X.env) use) Qf X.xe s := by
  have hfree : ∀ y ∈ scope.names, y.2 = .free → ∃ z, X.env.cells.lookup y.1 = some z := fun y hy e => (ok.free y hy e).elim (fun k => I.ok.has _ (.inl k)) (fun k => I.ok.has _ (.inr k))
  have hcl : clausesOf (c.ex (⟨tg, iter, ifs, 0⟩ :: rest) scope pos) = ⟨tg, iter, ifs, 0⟩ :: rest := by cases c <;> rfl
  refine wpAny_comprehension_free (use := use) hcl hs (closure_ok hfree) ok.kind (fun y hy e => by rw [ok.uniq y hy, e]) (thn (hi.run pins s σ H _ I h) fun xv s1 h1 => thn h1 fun itv s2 h2 => ?_)
  obtain ⟨it, fp, tn, J, H2, e, I2, T, st2, f2, q⟩ := h2
  subst e
  refine c.new_ok (newEnv_comp ?_)
  generalize hD : s2.heap.objs.size = D
  have hDn : H2 D = none := I2.hok.fresh (Nat.le_of_eq hD)
  obtain ⟨Wm, ⟨m0, w0⟩, turn⟩ := q D hDn
  generalize hs3 : ({ s2 with heap := s2.heap.push c.obj } : Shared) = s3
  have h3 : s3.heap = s2.heap.push c.obj := by rw [← hs3]
  have I3 : Inv X pins σ (upd H2 D c.ho) s3 := by
    rw [← hs3]
    refine I2.laid (t' := s2.toks) (fun b o e => Heap.get?_push_of_some _ e) (Nat.le_of_eq hD) ?_
    rw [← hD]
    exact Ck.ok s2.heap I2.big
  have f3 : ∀ b ∈ fp, FpOk X pins (upd H2 D c.ho) b ∧ b < s3.heap.objs.size := fun b hb => by
    obtain ⟨o, e, _⟩ := T.obj _ _ st2 b hb
    have lt := Heap.lt_size e
    refine ⟨fp_stays (f2 b hb) ?_, by rw [h3, Heap.size_push]; exact Nat.lt_succ_of_lt lt⟩
    rw [upd_ne (by rw [← hD]; exact Nat.ne_of_lt lt)]
    exact (f2 b hb).1
  have st3 : tn 0 s3.heap := T.keep _ _ _ st2 fun b _ o e => by rw [h3]; exact Heap.get?_push_of_some _ e
  have I4 := block_start I3 ok hN f3
  generalize hcells : cellsFrom (s3.heap.objs.size + 1) scope.names (cloFrom X.env.cells scope.names []) = cl at I4
  have pg := hg s3 (upd H2 D c.ho) s3.heap.objs.size cl fp
  have pt := ht s3 (upd H2 D c.ho) s3.heap.objs.size cl fp
  have pm := hm D s3 (upd H2 D c.ho) s3.heap.objs.size cl fp
  show codeAny _ _ (.compStart (c.ex (⟨tg, iter, ifs, 0⟩ :: rest) scope pos) 0 (.ref it) (.ref D) (compEnvC scope cl s3.heap.objs.size X.env)) (compPost (model X.prog X.w) X.A X.xe use Qf (.ref D) s3.heap.objs.size) { s3 with heap := pushCells (s3.heap.push { cls := .type "dict", data := .dict #[] }) scope.names }
  generalize hH3 : upd H2 D c.ho = H3 at I3 I4 pg pt pm w0 f3
  generalize hs4 : ({ s3 with heap := pushCells (s3.heap.push { cls := .type "dict", data := .dict #[] }) scope.names } : Shared) = s4 at I4 ⊢
  have st4 : tn 0 s4.heap := T.keep _ _ _ st3 fun b _ o e => by rw [← hs4]; exact pushCells_keeps _ _ _ _ (Heap.get?_push_of_some _ e)
  have f4 : ∀ b ∈ fp, FpOk (X.blk s3 H3 scope (compEnvC scope cl s3.heap.objs.size X.env) fp) [] H3 b := fun b hb =>
    ⟨(f3 b hb).1.1, (I4.ok.exf b hb).1, I4.ok.exfs b hb, .inl hb, fun x z e => (I4.ok.exf b hb).2 x z e, fun p hp => absurd (show p ∈ ([] : List (Addr × Obj)) ++ [] from hp) (by simp)⟩
  have loop : codeAny (model X.prog X.w) X.A (.compLoop (c.ex (⟨tg, iter, ifs, 0⟩ :: rest) scope pos) 0 (.ref it) (.ref D) (compEnvC scope cl s3.heap.objs.size X.env)) (compPost (model X.prog X.w) X.A X.xe use Qf (.ref D) s3.heap.objs.size) s4 :=
    loop_gen (Y := X.blk s3 H3 scope (compEnvC scope cl s3.heap.objs.size X.env) fp) (Out := Q (.ref D)) rfl hc te T pg pt pm sub I4 st4 f4 m0 w0 turn fun s6 H6 I6 out => by
      have I7 : Inv X pins σ H6 s6 := I3.call' (ch := fp) I6.os I6.base I6.hok I6.bare fun b hb => ⟨(f3 b hb).1.2.2.2.1, (f3 b hb).1.2.1, (f3 b hb).1.2.2.2.2.1, (f3 b hb).1.2.2.2.2.2⟩
      have nC : H6 s3.heap.objs.size = none := I6.free
      obtain ⟨mm, hn, _⟩ := I6.loc
      exact hRR D s3.heap.objs.size s6 mm H6 I7 out hn (I3.fpOk (Nat.le_refl _) nC)
  exact start_gen rfl loop (T.self X.A 0 _ _ _ st4 loop)
/-- as a value -/
theorem pe_ck {c : Ck} {tg iter : Expr} {ifs : List Expr} {rest : List Comprehension} {scope : Scope} {own : List (Str × Nat)} {vd : List Nat} {pos p : Pos} {wi : TI} {g : TG} {tt : TT} {body : Addr → TH} {m : Value → Env → Sem PySem.Fin → Sem PySem.Fin} (hc : X.calm = true) (hN : X.N.Nodup) (hi : PI X tg iter wi) (ok : BlkOk X.N X.env.scope scope own) (sub : ∀ l ∈ vd, l ∈ own.map (·.2))
    (te : TurnEq (c.ex (⟨tg, iter, ifs, 0⟩ :: rest) scope pos) 0 tg ifs p m) (hg : Blks X scope fun Y => PG Y tg g) (ht : Blks X scope fun Y => PTs Y ifs tt) (hm : ∀ D, Blks X scope fun Y => PAct Y vd (m (.ref D) Y.env) (body D)) (hs : ∀ x, foldedSetIterable iter X.env x = pure x) :
    PE X (c.ex (⟨tg, iter, ifs, 0⟩ :: rest) scope pos) (tCk c wi g tt body (own.map (·.2))) := by
  have hRR : ∀ {pins σ Q} (D C : Addr) (s' : Shared) (m : Str → Option Value) (H' : Hp), Inv X pins σ H' s' → Q (.ref D) H' → s'.heap.Ns C m → FpOk X pins H' C → compPost (model X.prog X.w) X.A X.xe none (EP X pins σ Q) (.ref D) C (.ok .next) s' := fun {pins σ Q} D C s' m H' I' q hn f => ⟨m, hn, fun h'' sb => by
    obtain ⟨f0, f1, f2, f3, f4, f5⟩ := f
    exact ⟨.ref D, H', I'.turned (t' := s'.toks) (fun b o hb e => (sb.2 b hb).trans e) f0 f1 f3 f4 f5, rfl, q⟩⟩
  cases c with
  | l elt => exact ⟨fun pins s σ H Q I h => by
      show wpAny _ _ (eval (.ListComp elt (⟨tg, iter, ifs, 0⟩ :: rest) scope pos) X.env) _ _ s
      rw [arm_eval_ListComp]
      exact core_gen hc hN I hi ok sub te hg ht hm hs h hRR⟩
  | d k v => exact ⟨fun pins s σ H Q I h => by
      show wpAny _ _ (eval (.DictComp k v (⟨tg, iter, ifs, 0⟩ :: rest) scope pos) X.env) _ _ s
      rw [arm_eval_DictComp]
      exact core_gen hc hN I hi ok sub te hg ht hm hs h hRR⟩
/-- given a name at once -/
theorem ps_setCk {c : Ck} {i : Nat} {y : Str} {py spos : Pos} {tg iter : Expr} {ifs : List Expr} {rest : List Comprehension} {scope : Scope} {own : List (Str × Nat)} {vd : List Nat} {pos p : Pos} {wi : TI} {g : TG} {tt : TT} {body : Addr → TH} {m : Value → Env → Sem PySem.Fin → Sem PySem.Fin} (hc : X.calm = true) (hN : X.N.Nodup) (hy : X.N[i]? = some y) (hyl : X.env.scope.names.lookup y = some .local)
    (hsw : swapsWith (c.ex (⟨tg, iter, ifs, 0⟩ :: rest) scope pos) (some (.Name y py)) spos.line X.env = pure true) (hi : PI X tg iter wi) (ok : BlkOk X.N X.env.scope scope own) (sub : ∀ l ∈ vd, l ∈ own.map (·.2))
    (te : TurnEq (c.ex (⟨tg, iter, ifs, 0⟩ :: rest) scope pos) 0 tg ifs p m) (hg : Blks X scope fun Y => PG Y tg g) (ht : Blks X scope fun Y => PTs Y ifs tt) (hm : ∀ D, Blks X scope fun Y => PAct Y vd (m (.ref D) Y.env) (body D)) (hs : ∀ x, foldedSetIterable iter X.env x = pure x) :
    PS X (.Assign [.Name y py] (c.ex (⟨tg, iter, ifs, 0⟩ :: rest) scope pos) spos) (tAsg (tCk c wi g tt body (own.map (·.2))) (gName i)) := by
  refine ⟨fun pins s σ H D I h => ?_⟩
  rw [exec_Assign_Name_used _ _ _ _ hsw]
  refine wpAny_bind (wpAny_standAt (wpAny_bind ?_))
  have h : tCk c wi g tt body (own.map (·.2)) σ H (fun x H1 => gName i x σ H1 D.nx) := h
  have go := fun hRR => core_gen (Qf := fun _ s' => SP X pins D .next s') (use := some (assign (.Name y py) X.env)) (pos' := iter.pos) hc hN I hi ok sub te hg ht hm hs h hRR
  have fin : wpAny (model X.prog X.w) X.A (comprehension (c.ex (⟨tg, iter, ifs, 0⟩ :: rest) scope pos) scope X.env iter.pos c.new false (eval iter X.env) (some (assign (.Name y py) X.env))) (fun _ s' => SP X pins D .next s') X.xe s := go fun L C s' m H' I' q hn f => by
    show wpAny _ _ (assign (.Name y py) X.env (.ref L)) _ _ _
    refine wpAny_assign_Name (store_ok2 (v := V.ref L) I' hN hy (.inl hyl) rfl (fun s2 I2 ⟨a, sb, ha⟩ => ?_) (.inr hyl))
    obtain ⟨f0, f1, f2, f3, f4, f5⟩ := f
    have ne : C ≠ a := by
      rcases ha with z | z
      · rw [z]; exact f1
      · exact fun e => f4 y a z e.symm
    exact ⟨m, hn.sameBut sb ne, fun h3 sb3 => ⟨_, H', I2.turned (t' := s2.toks) (fun b o hb e => (sb3.2 b hb).trans e) f0 f1 f3 f4 f5, q⟩⟩
  cases c with
  | l elt => exact wpAny_bind (thn fin fun _ s' hq => wpAny_pure (wpAny_pure hq))
  | d k v => exact wpAny_bind (thn fin fun _ s' hq => wpAny_pure (wpAny_pure hq))
end G

set_option Elab.async false
set_option linter.all false
set_option maxRecDepth 100000
set_option maxHeartbeats 4000000
namespace G
open PySem L2 PySem.Spec PyProof.Rows
variable {M : Md} {H H' H1 H2 : Hp} {ι ι' ι1 ι2 : List Addr} {X : Cx} {W' : WX}

/-! ### a pair comes into a comprehension's dict -/
def wDset (n : Nat) (y z : W) (E : Hh) : Option Hh := match wSetN (.ref n) y z E with
  | some E' => some E'
  | none => match dKOf E (.ref n) with
    | some (_, kvs) => match keyOf y with
      | some k => if kvs.length ≤ few then some (E.set n (.dK (putKW kvs k z))) else none
      | none => none
    | none => none
theorem dsetN_ok {pins : List (Addr × Obj)} {σ : L2.St} {s : Shared} {E E' : Hh} {n : Nat} {D : Addr} {y z : W} {yv zv : V} {u r : Value} {Q : Unit → Shared → Prop} {Er : Value → Shared → Prop} (aP : X.prog = M.P) (aw : X.w = M.w) (aK : X.K = M.K) (hu : X.A.units + 65 < cLine) (I : Inv X pins σ H s) (R : Rel M ι E H)
    (hD : ι[n]? = some D) (ry : RelW M H ι y yv) (ryu : RelV yv u) (rz : RelW M H ι z zv) (rzu : RelV zv r) (e : wSetN (.ref n) y z E = some E') (k : ∀ ι' H' s', Ext M ι H ι' H' → Rel M ι' E' H' → Inv X pins σ H' s' → Q () s') :
    wpAny (model X.prog X.w) X.A (dictSet D u r) Q Er s := by
  unfold wSetN at e
  cases e1 : dnOf E (.ref n) with
  | none => rw [e1] at e; cases e
  | some p =>
    obtain ⟨n', kvs⟩ := p
    rw [e1] at e
    dsimp only at e
    split at e
    · rename_i hc
      obtain rfl := Option.some.inj e
      obtain ⟨a, xs, en, ea, d⟩ := dn_ok I aK R e1 (show RelW M H ι (.ref n) (.ref D) from ⟨D, hD, rfl⟩)
      obtain rfl : n = n' := by simpa using en
      obtain rfl : D = a := by simpa using ea
      obtain ⟨b, rfl, rfl, kb⟩ := tk_ok I aK hc.1 ry ryu
      have hl := Paired.length d.ent
      have ko : kOk y = true ∧ (nk y).depth ≤ 8 := by
        cases y with
        | tup ws => have q := hc.1; simp only [tkOk, Bool.and_eq_true, decide_eq_true_eq] at q; exact ⟨by simpa [kOk] using q.1, q.2⟩
        | _ => cases hc.1
      obtain ⟨xs', ex, pe⟩ := put_ok d.ent ry ko.1 ko.2 rz rzu
      obtain ⟨ob, hob, hm⟩ := d.obj
      rw [aP, aw]
      refine wpAny_dictSet_heap (hsz := by rw [ents_len hl]; exact d.len) (knd := nestedKind M.P M.w) (by show X.A.units + 8 < cLine; omega) kb d.dict fun h' dd hs => ?_
      rw [← ex] at dd
      have nd : ((putN kvs y z).map fun p => nk p.1).Nodup := by
        rw [← ents_keys (Paired.length pe)]
        exact dd.nodup
      have len2 : (putN kvs y z).length ≤ sizeLine := Nat.le_trans putN_len (few_lt hc.2)
      have new : ObjOk X.prog X.w (upd H D (DkAt M.P M.w D (ents (putN kvs y z) xs'))) h' D (DkAt M.P M.w D (ents (putN kvs y z) xs')) := by
        rw [aP, aw]
        exact ext_new dd
      have I2 : Inv X pins σ (upd H D (DkAt M.P M.w D (ents (putN kvs y z) xs'))) { s with heap := h', toks := s.toks + (nestedKind M.P M.w).draws (nk y) } :=
        d_write I d.mu hs (by obtain ⟨o, _, _, g1, _⟩ := dd; exact ⟨o, g1⟩) new
      obtain ⟨R2, x2⟩ := Rel.put (o := .dN (putN kvs y z)) (ho := DkAt M.P M.w D (ents (putN kvs y z) xs')) R d.at' hob hm d.nt rfl fun x =>
        ⟨xs', upd_same, len2, d.low, nd, Paired.mapP pe fun p q ⟨⟨a1, a2⟩, a3, a4⟩ => ⟨⟨a1.ext x, a2⟩, a3.ext x, a4⟩⟩
      exact k _ _ _ x2 R2 I2
    · cases e
theorem dset_ok {pins : List (Addr × Obj)} {σ : L2.St} {s : Shared} {E E' : Hh} {n : Nat} {D : Addr} {y z : W} {yv zv : V} {u r : Value} {Q : Unit → Shared → Prop} {Er : Value → Shared → Prop} (aP : X.prog = M.P) (aw : X.w = M.w) (aK : X.K = M.K) (hu : X.A.units + 65 < cLine) (I : Inv X pins σ H s) (R : Rel M ι E H)
    (hD : ι[n]? = some D) (ry : RelW M H ι y yv) (ryu : RelV yv u) (rz : RelW M H ι z zv) (rzu : RelV zv r) (e : wDset n y z E = some E') (k : ∀ ι' H' s', Ext M ι H ι' H' → Rel M ι' E' H' → Inv X pins σ H' s' → Q () s') :
    wpAny (model X.prog X.w) X.A (dictSet D u r) Q Er s := by
  unfold wDset at e
  cases e1 : wSetN (.ref n) y z E with
  | some E2 =>
    rw [e1] at e
    obtain rfl := Option.some.inj e
    exact dsetN_ok aP aw aK hu I R hD ry ryu rz rzu e1 k
  | none =>
    rw [e1] at e
    dsimp only at e
    cases e2 : dKOf E (.ref n) with
    | none => rw [e2] at e; cases e
    | some p =>
      obtain ⟨n', kvs⟩ := p
      rw [e2] at e
      dsimp only at e
      cases e3 : keyOf y with
      | none => rw [e3] at e; cases e
      | some key =>
        rw [e3] at e
        dsimp only at e
        split at e
        · rename_i hl
          obtain rfl := Option.some.inj e
          obtain ⟨a, vs, ha, he, ea, h1, rws⟩ := dK_ok R e2 (show RelW M H ι (.ref n) (.ref D) from ⟨D, hD, rfl⟩)
          obtain rfl : D = a := by simpa using ea
          have nn : n' = n := by
            unfold dKOf at e2
            dsimp only at e2
            split at e2
            · obtain ⟨h1, _⟩ : n = n' ∧ _ := by simpa using e2
              exact h1.symm
            · cases e2
          subst nn
          obtain ⟨us, e4, rus⟩ := putKW_ok (k := key) rz rws
          refine d_dictSet I h1 (by rw [List.length_zip, List.length_map, ← rws.length, List.length_map, Nat.min_self]; exact few_lt hl) (by rw [← keyOf_ok e3 ry]; exact ryu) rzu fun s' I' => ?_
          rw [e4] at I'
          obtain ⟨R', x⟩ := Rel.put (o := .dK (putKW kvs key z)) (ho := .dK (((putKW kvs key z).map (·.1)).zip us)) R ha he rfl (fun q hq => by rw [h1] at hq; cases hq; exact ⟨fun _ z => (nomatch z), fun _ _ z => (nomatch z)⟩) rfl fun x => ⟨us, upd_same, rus.ext x⟩
          exact k _ _ s' x R' I'
        · cases e
/-! ### what a turn does -/
/-- D has the number n -/
def SHd (M : Md) (n : Nat) (D : Addr) (c : ActH) : TH := fun σ H Q => ∃ ι E σE E', ι[n]? = some D ∧ Rel M ι E H ∧ RelS M H ι σE σ ∧ c σE E = some E' ∧ ∀ ι' H', Ext M ι H ι' H' → Rel M ι' E' H' → Q H'
theorem PAct.imp {Y : Cx} {vs : List Nat} {m : Sem PySem.Fin → Sem PySem.Fin} {t t' : TH} (h : PAct Y vs m t) (i : ∀ σ H Q, t' σ H Q → t σ H Q) : PAct Y vs m t' := ⟨fun pins s σ H Q k Qk E I q => h.run pins s σ H Q k Qk E I (i σ H Q q)⟩
theorem act_push {n : Nat} {D : Addr} {elt : Expr} {ce : Act W} (hx : X.xe = fun _ _ => False) (he : PE X elt (SE M noW ce)) : PAct X [] (fun k => Ck.emit (.l elt) (.ref D) X.env >>= fun _ => k) (SHd M n D (pushC n ce)) := ⟨fun pins s σ H Q k Qk Er I ⟨ι, E, σE, E', hD, R, rs, e, kq⟩ hk => by
  have up : ∀ {α : Type} {t : Sem α} {Q Q' : α → Shared → Prop} {E' : Value → Shared → Prop} {s : Shared}, wpAny (model X.prog X.w) X.A t Q X.xe s → (∀ a s, Q a s → Q' a s) → wpAny (model X.prog X.w) X.A t Q' E' s := fun h k => by
    rw [hx] at h
    exact thnF h k
  have h := push_ok (Nx := Q) hD R rs e kq
  refine wpAny_bind (wpAny_bind (up (he.run pins s σ H _ I h) fun x s1 ⟨y, H4, I4, r4, acc, e4, hz, nx⟩ => wpAny_bind (app_ok I4 e4 hz r4 fun s5 I5 => wpAny_pure (hk s5 _ σ I5 rfl nx))))⟩
def putC (n : Nat) (ck cv : Act W) : ActH := fun σ E => match ck σ E with
  | some (.ok y E1) => match cv σ E1 with
    | some (.ok z E2) => wDset n y z E2
    | _ => none
  | _ => none
theorem act_put {Γ : Gm} {n : Nat} {D : Addr} {kx vx : Expr} {ck cv : Act W} (a : At M Γ noW X) (hx : X.xe = fun _ _ => False) (hk' : PE X kx (SE M noW ck)) (hv : PE X vx (SE M noW cv)) : PAct X [] (fun k => Ck.emit (.d kx vx) (.ref D) X.env >>= fun _ => k) (SHd M n D (putC n ck cv)) := ⟨fun pins s σ H Q k Qk Er I ⟨ι, E, σE, E', hD, R, rs, e, kq⟩ hk => by
  have up : ∀ {α : Type} {t : Sem α} {Q Q' : α → Shared → Prop} {E' : Value → Shared → Prop} {s : Shared}, wpAny (model X.prog X.w) X.A t Q X.xe s → (∀ a s, Q a s → Q' a s) → wpAny (model X.prog X.w) X.A t Q' E' s := fun h k => by
    rw [hx] at h
    exact thnF h k
  unfold putC at e
  cases e1 : ck σE E with
  | none => rw [e1] at e; cases e
  | some r1 =>
    cases r1 with
    | ex _ _ => rw [e1] at e; cases e
    | ok y E1 =>
      rw [e1] at e
      dsimp only at e
      cases e2 : cv σE E1 with
      | none => rw [e2] at e; cases e
      | some r2 =>
        cases r2 with
        | ex _ _ => rw [e2] at e; cases e
        | ok z E2 =>
          rw [e2] at e
          dsimp only at e
          have h1 : SE M noW ck σ H fun yv H1 => ∃ ι1, Ext M ι H ι1 H1 ∧ Rel M ι1 E1 H1 ∧ RelW M H1 ι1 y yv := ⟨ι, E, σE, R, rs, .give e1 fun ι1 H1 v x1 R1 ry => ⟨ι1, x1, R1, ry⟩⟩
          show wpAny _ _ ((do
            let kv ← eval kx X.env
            let vv ← holding [kv] (eval vx X.env)
            standAt { kx.pos with endLine := vx.pos.endLine, endCol := vx.pos.endCol }
            holding [kv, vv] (dictSet D kv vv)) >>= fun _ => k) _ _ s
          refine wpAny_bind (wpAny_bind (up (hk'.run pins s σ H _ I h1) fun yu s1 ⟨yv, H1, I1, ryu, ι1, x1, R1, ry⟩ => ?_))
          have h2 : SE M noW cv σ H1 fun zv H2 => ∃ ι2, Ext M ι1 H1 ι2 H2 ∧ Rel M ι2 E2 H2 ∧ RelW M H2 ι2 z zv := ⟨ι1, E1, σE, R1, rs.ext x1, .give e2 fun ι2 H2 v x2 R2 rz => ⟨ι2, x2, R2, rz⟩⟩
          refine wpAny_bind (wpAny_holding (up (hv.run pins s1 σ H1 _ I1 h2) fun zu s2 ⟨zv, H2, I2, rzu, ι2, x2, R2, rz⟩ => wpAny_bind (wpAny_standAt (wpAny_holding ?_))))
          have xx := x1.trans x2
          exact dset_ok a.P a.w a.K a.units I2 R2 (pre_get xx.pre hD) (ry.ext x2) ryu rz rzu e fun ι3 H3 s3 x3 R3 I3 => hk s3 H3 σ I3 rfl (kq ι3 H3 (xx.trans x3) R3)⟩
/-- a further clause, by acts -/
theorem nest_imp {n : Nat} {D : Addr} {ci : Act Src} {vs : List Nat} {g : ActG} {ct : Act Bool} {body : ActH} : ∀ (σ : L2.St) (H : Hp) (Q : Hp → Prop), SHd M n D (nestC ci vs g ct body) σ H Q → nestT (SI M noW ci) (SGv M vs g) (ST M noW ct) (SHd M n D body) vs σ H Q := fun σ H Q ⟨ι, E, σE, E', hD, R, rs, e, kq⟩ => by
  unfold nestC at e
  cases e1 : ci σE E with
  | none => rw [e1] at e; cases e
  | some r =>
    cases r with
    | ex _ _ => rw [e1] at e; cases e
    | ok s E1 =>
      rw [e1] at e
      dsimp only at e
      exact ⟨ι, E, σE, R, rs, .give e1 fun ι1 H1 J x1 R1 wk => clause_ok (tb := fun σ2 H3 Nx => SHd M n D body σ2 H3 Nx) wk (Ext.refl _ _) R1 ((rs.ext x1).wipe vs) e (fun ι2 H2 x2 R2 => kq ι2 H2 (x1.trans x2) R2)
        fun ι2 E2 H2 σ1 σ2 E3 Nx x2 R2 rs2 _ eb nx => ⟨ι2, E2, σ1, E3, pre_get (x1.trans x2).pre hD, R2, rs2, eb, nx⟩⟩
/-- the whole, by acts -/
def ckA (c : Ck) (ci : Act Src) (vs : List Nat) (g : ActG) (ct : Act Bool) (body : Nat → ActH) : Act W := fun σ E => andThen (ci σ E) fun s E1 => match loopC s.ls g ct (body E1.length) (wipeE σ vs) s.ws (E1 ++ [c.ob]) with
  | some E' => some (.ok (.ref E1.length) E')
  | none => none
theorem ck_new {c : Ck} {E : Hh} {D : Addr} (R : Rel M ι E H) (hD : H D = none) : Rel M (ι ++ [D]) (E ++ [c.ob]) (upd H D c.ho) ∧ Ext M ι H (ι ++ [D]) (upd H D c.ho) := by
  cases c with
  | l elt => exact Rel.new (ho := .lst []) (o := .lst []) R hD fun _ => ⟨[], upd_same, rfl⟩
  | d k v => exact Rel.new (ho := .dK []) (o := .dK []) R hD fun _ => ⟨[], upd_same, rfl⟩
theorem ck_imp {c : Ck} {ci : Act Src} {vs : List Nat} {g : ActG} {ct : Act Bool} {body : Nat → ActH} : ∀ (σ : L2.St) (H : Hp) (Q : VK), SE M W' (ckA c ci vs g ct body) σ H Q → tCk c (SI M W' ci) (SGv M vs g) (ST M noW ct) (fun D σ H Q => ∃ n, SHd M n D (body n) σ H Q) vs σ H Q := fun σ H Q ⟨ι, E, σE, R, rs, h⟩ =>
  ⟨ι, E, σE, R, rs, (Rs.bind h).imp fun s E1 h1 => fun ι1 H1 J x1 R1 wk D hD => by
    obtain ⟨Ef, hl, k⟩ := optE h1
    obtain ⟨R2, x2⟩ := ck_new (c := c) R1 hD
    have xx := x1.trans x2
    have hn : (ι1 ++ [D])[E1.length]? = some D := by rw [← R1.len]; simp
    exact clause_ok (tb := fun σ2 H3 Nx => ∃ n, SHd M n D (body n) σ2 H3 Nx) wk x2 R2 ((rs.ext xx).wipe vs) hl (fun ι' H' x' R' => k ι' H' _ (xx.trans x') R' ⟨D, pre_get x'.pre hn, rfl⟩)
      fun ι' E' H' σ1 σ2 E'' Nx x' R' rs' _ e nx => ⟨_, ι', E', σ1, E'', pre_get x'.pre hn, R', rs', e, nx⟩⟩
theorem act_ex {Y : Cx} {vs : List Nat} {m : Sem PySem.Fin → Sem PySem.Fin} {t : Nat → TH} (h : ∀ n, PAct Y vs m (t n)) : PAct Y vs m (fun σ H Q => ∃ n, t n σ H Q) := ⟨fun pins s σ H Q k Qk E I ⟨n, q⟩ hk => (h n).run pins s σ H Q k Qk E I q hk⟩
end G

set_option Elab.async false
set_option linter.all false
set_option maxRecDepth 100000
set_option maxHeartbeats 4000000
namespace G
open PySem L2 PySem.Spec PyProof.Rows
variable {M : Md} {H H' H1 H2 : Hp} {ι ι' ι1 ι2 : List Addr} {X : Cx} {W' : WX}

/-! ### what works things out one step less deep -/
structure Rc where
  ev : Gm → Expr → Act W
  te : Gm → Expr → Act Bool
  src : Gm → Expr → Expr → Act Src
/-- a place where things are worked out -/
structure In (M : Md) (P : Pg) (Γ : Gm) (W' : WX) (X : Cx) : Prop where
  at' : At M Γ W' X
  has : Has M P X
  glob : Glob M P
  wind : Wind W'
  hk : ∀ e c, Γ.hk e = some c → PE X e (SE M W' c)
structure RcOk (M : Md) (P : Pg) (r : Rc) : Prop where
  ev : ∀ {Γ : Gm} {W' : WX} {X : Cx}, In M P Γ W' X → ∀ e, PE X e (SE M W' (r.ev Γ e))
  te : ∀ {Γ : Gm} {W' : WX} {X : Cx}, In M P Γ W' X → ∀ e, PT X e (ST M W' (r.te Γ e))
  src : ∀ {Γ : Gm} {W' : WX} {X : Cx}, In M P Γ W' X → ∀ tg e, plainSrc e = true → PI X tg e (SI M W' (r.src Γ tg e))
theorem in_blk {P : Pg} {Γ : Gm} {scope : Scope} {s : Shared} {cl : List (Str × Addr)} {C : Addr} {fp : List Addr} (i : In M P Γ W' X) (hk : scope.kind = .function) : In M P (blkG Γ scope) noW (X.blk s H scope (compEnvC scope cl C X.env) fp) := ⟨at_blk i.at' hk, has_blk i.has, i.glob, wind_no, fun _ _ h => (nomatch h)⟩
/-! ### comprehensions -/
def slotsOf (N : List Str) (gens : List Comprehension) : List Nat := gens.flatMap fun c => tgIx N 9 c.target
def gensOk (gens : List Comprehension) : Bool := gens.all fun c => (match c.is_async with
  | .ofNat 0 => true
  | _ => false) && plainSrc c.iter
def emitC (r : Rc) (Γ : Gm) (c : Ck) (n : Nat) : ActH := match c with
  | .l elt => pushC n (r.ev Γ elt)
  | .d k v => putC n (r.ev Γ k) (r.ev Γ v)
def restB (r : Rc) (Γ : Gm) (c : Ck) : List Comprehension → Nat → ActH
  | [], n => emitC r Γ c n
  | g :: rest, n => nestC (r.src Γ g.target g.iter) (slotsOf Γ.N (g :: rest)) (tgV Γ (slotsOf Γ.N (g :: rest)) 9 g.target) (testsA (r.te Γ) g.ifs) (restB r Γ c rest n)
theorem gen_eq {g : Comprehension} (h : (match g.is_async with
  | .ofNat 0 => true
  | _ => false) = true) : g = ⟨g.target, g.iter, g.ifs, 0⟩ := by
  obtain ⟨tg, it, ifs, a⟩ := g
  dsimp only at h
  split at h
  · rfl
  · cases h
theorem act_rest {P : Pg} {r : Rc} {c : Ck} {gens : List Comprehension} {scope : Scope} {pos : Pos} (ok : RcOk M P r) : ∀ (rest : List Comprehension) (j : Nat) (g : Comprehension), gens[j]? = some g → (match g.is_async with
    | .ofNat 0 => true
    | _ => false) = true → gens.drop (j + 1) = rest → gensOk rest = true → ∃ p m, TurnEq (c.ex gens scope pos) j g.target g.ifs p m ∧
      ∀ {Γ : Gm} {Y : Cx}, In M P Γ noW Y → (Y.xe = fun _ _ => False) → ∀ D n, PAct Y (slotsOf Γ.N rest) (m (.ref D) Y.env) (SHd M n D (restB r Γ c rest n))
  | [], j, g, hj, ha, hd, _ => by
    have hn : gens[j + 1]? = none := by
      have z := List.drop_eq_nil_iff.mp hd
      exact List.getElem?_eq_none z
    rw [gen_eq ha] at hj
    refine ⟨_, _, turn_last hj hn, fun {Γ Y} i hx D n => ?_⟩
    cases c with
    | l elt => exact act_push hx (ok.ev i elt)
    | d k v => exact act_put i.at' hx (ok.ev i k) (ok.ev i v)
  | g1 :: rest, j, g, hj, ha, hd, hg => by
    have h1 : gens[j + 1]? = some g1 := by
      have z : (gens.drop (j + 1))[0]? = some g1 := by rw [hd]; rfl
      rw [List.getElem?_drop] at z
      exact z
    have hd1 : gens.drop (j + 1 + 1) = rest := by
      rw [← List.drop_drop, hd]
      rfl
    simp only [gensOk, List.all_cons, Bool.and_eq_true] at hg
    obtain ⟨⟨ga, gp⟩, gr⟩ := hg
    obtain ⟨p1, m1, te1, hm1⟩ := act_rest ok rest (j + 1) g1 h1 ga hd1 gr
    have hj' := hj
    rw [gen_eq ha] at hj'
    have h1' := h1
    rw [gen_eq ga] at h1'
    refine ⟨_, _, turn_more hj' h1', fun {Γ Y} i hx D n => ?_⟩
    exact PAct.imp (act_more hx i.at'.calm h1' te1 (ok.src i g1.target g1.iter gp) (pg_tgV i.at' 9 g1.target) (pts_G (ok.te i)) (hm1 i hx D n) (fun l hl => List.mem_append_right _ hl) (plainSrc_ok gp Y.env)) nest_imp
/-- a comprehension's value -/
def ckE (r : Rc) (Γ : Gm) (c : Ck) (gens : List Comprehension) (scope : Scope) : Act W := match gens with
  | [] => fun _ _ => none
  | g :: rest => fun σ E => if blkB Γ scope = true ∧ gensOk (g :: rest) = true ∧ ((slotsOf Γ.N rest).all fun i => ((ownIx Γ.N scope).map (·.2)).contains i) = true then
      ckA c (r.src Γ g.target g.iter) ((ownIx Γ.N scope).map (·.2)) (tgV (blkG Γ scope) ((ownIx Γ.N scope).map (·.2)) 9 g.target) (testsA (r.te (blkG Γ scope)) g.ifs) (restB r (blkG Γ scope) c rest) σ E
    else none
section
variable {P : Pg} {r : Rc} {Γ : Gm} {c : Ck} {gens : List Comprehension} {scope : Scope} {pos spos py : Pos} {y : Str}
theorem pe_ckG (ok : RcOk M P r) (i : In M P Γ W' X) : PE X (c.ex gens scope pos) (SE M W' (ckE r Γ c gens scope)) := by
  cases gens with
  | nil => exact pe_no fun _ _ => rfl
  | cons g rest =>
    by_cases hb : blkB Γ scope = true ∧ gensOk (g :: rest) = true ∧ ((slotsOf Γ.N rest).all fun i => ((ownIx Γ.N scope).map (·.2)).contains i) = true
    · have okb := blkB_ok i.at' hb.1
      have hg := hb.2.1
      simp only [gensOk, List.all_cons, Bool.and_eq_true] at hg
      obtain ⟨⟨ga, gp⟩, gr⟩ := hg
      obtain ⟨p, m, te, hm⟩ := act_rest (c := c) (scope := scope) (pos := pos) ok rest 0 g (gens := g :: rest) rfl ga rfl gr
      have eg := gen_eq ga
      have sub : ∀ l ∈ slotsOf Γ.N rest, l ∈ (ownIx Γ.N scope).map (·.2) := fun l hl => by
        have z := List.all_eq_true.mp hb.2.2 l hl
        simpa using z
      have main : PE X (c.ex (⟨g.target, g.iter, g.ifs, 0⟩ :: rest) scope pos) _ := pe_ck (m := m) (p := p) (vd := slotsOf Γ.N rest) (c := c) (pos := pos) (body := fun D σ H Q => ∃ n, SHd M n D (restB r (blkG Γ scope) c rest n) σ H Q) i.at'.calm (by rw [i.at'.N]; exact i.at'.nd)
        (ok.src i g.target g.iter gp) okb sub (by rw [← eg]; exact te) (fun s H C cl fp => pg_tgV (vs := (ownIx Γ.N scope).map (·.2)) (at_blk i.at' okb.kind) 9 g.target) (fun s H C cl fp => pts_G (ok.te (in_blk i okb.kind))) (fun D s H C cl fp => act_ex fun n => hm (in_blk i okb.kind) rfl D n) (plainSrc_ok gp X.env)
      rw [← eg] at main
      refine PE.imp main fun σ H Q q => ck_imp σ H Q ?_
      obtain ⟨ι, E, σE, R, rs, h⟩ := q
      unfold ckE at h
      dsimp only at h
      rw [if_pos hb] at h
      exact ⟨ι, E, σE, R, rs, h⟩
    · exact pe_no fun σ E => by unfold ckE; dsimp only; rw [if_neg hb]
theorem sw_ck (a : At M Γ W' X) {l : Nat} : swapsWith (c.ex gens scope pos) (some (.Name y py)) l X.env = pure (swB Γ y py pos scope) := by
  cases c with
  | l elt => exact sw_lc a
  | d k v => exact sw_dc a
/-- x = [..], x = {..} -/
theorem ps_ckG (ok : RcOk M P r) (i : In M P Γ W' X) : PS X (.Assign [.Name y py] (c.ex gens scope pos) spos) (SS M W' (nameS Γ y (ckE r Γ c gens scope))) := by
  cases hs : swB Γ y py pos scope with
  | false =>
    have nt : swappedStores [.Name y py] (c.ex gens scope pos) X.env = pure none := by cases c <;> rfl
    exact PS.imp (ps_asg (pe_ckG ok i) (pg_nameG i.at') ((sw_ck (gens := gens) (pos := pos) (py := py) (scope := scope) (l := spos.line) i.at').trans (by rw [hs])) nt) fun D σ H q => by
      obtain ⟨_, _, _, k, _⟩ := nameS_key q
      exact k
  | true =>
    have hyl : X.env.scope.names.lookup y = some .local := by
      unfold swB at hs
      rw [Bool.and_eq_true, Bool.and_eq_true] at hs
      rw [i.at'.names]
      simpa using hs.1.1
    cases gens with
    | nil =>
      exact ps_no fun σ E => by
        unfold nameS asgS ckE
        split <;> rfl
    | cons g rest =>
      by_cases hl : ∃ l, ixOf y Γ.N = some l
      · obtain ⟨l, hix⟩ := hl
        by_cases hb : blkB Γ scope = true ∧ gensOk (g :: rest) = true ∧ ((slotsOf Γ.N rest).all fun i => ((ownIx Γ.N scope).map (·.2)).contains i) = true
        · have okb := blkB_ok i.at' hb.1
          have hg := hb.2.1
          simp only [gensOk, List.all_cons, Bool.and_eq_true] at hg
          obtain ⟨⟨ga, gp⟩, gr⟩ := hg
          obtain ⟨p, m, te, hm⟩ := act_rest (c := c) (scope := scope) (pos := pos) ok rest 0 g (gens := g :: rest) rfl ga rfl gr
          have eg := gen_eq ga
          have sub : ∀ l ∈ slotsOf Γ.N rest, l ∈ (ownIx Γ.N scope).map (·.2) := fun l hl => by
            have z := List.all_eq_true.mp hb.2.2 l hl
            simpa using z
          have main : PS X (.Assign [.Name y py] (c.ex (⟨g.target, g.iter, g.ifs, 0⟩ :: rest) scope pos) spos) _ := ps_setCk (i := l) (m := m) (p := p) (vd := slotsOf Γ.N rest) (c := c) (pos := pos) (body := fun D σ H Q => ∃ n, SHd M n D (restB r (blkG Γ scope) c rest n) σ H Q) i.at'.calm (by rw [i.at'.N]; exact i.at'.nd)
            (by rw [i.at'.N]; exact ixOf_ok hix) hyl (by rw [sw_ck i.at', hs]) (ok.src i g.target g.iter gp) okb sub (by rw [← eg]; exact te) (fun s H C cl fp => pg_tgV (vs := (ownIx Γ.N scope).map (·.2)) (at_blk i.at' okb.kind) 9 g.target) (fun s H C cl fp => pts_G (ok.te (in_blk i okb.kind)))
            (fun D s H C cl fp => act_ex fun n => hm (in_blk i okb.kind) rfl D n) (plainSrc_ok gp X.env)
          rw [← eg] at main
          refine PS.imp main fun D σ H q => ?_
          obtain ⟨l', _, hl', _, k⟩ := nameS_key q
          obtain rfl : l = l' := Option.some.inj (hix.symm.trans hl')
          obtain ⟨ι, E, σE, R, rs, h⟩ := k
          unfold ckE at h
          dsimp only at h
          rw [if_pos hb] at h
          exact ck_imp σ H _ ⟨ι, E, σE, R, rs, h⟩
        · refine ps_no fun σ E => ?_
          unfold nameS asgS ckE
          dsimp only
          split
          · first | rfl | (rw [if_neg hb]; rfl)
          · rfl
      · refine ps_no fun σ E => ?_
        unfold nameS
        rw [if_neg fun h => hl (Option.isSome_iff_exists.mp h.2)]
end
end G

set_option Elab.async false
set_option linter.all false
set_option maxRecDepth 100000
set_option maxHeartbeats 4000000
namespace G
open PySem L2 PySem.Spec PyProof.Rows
variable {M : Md} {H H' H1 H2 : Hp} {ι ι' ι1 ι2 : List Addr} {X : Cx} {W' : WX}

/-! ### arguments and items, some of them starred -/
def wArgsS (ev : Expr → Act W) : List Expr → Act (List W)
  | [] => fun _ E => some (.ok [] E)
  | .Starred e _ :: es => fun σ E => andThen (ev e σ E) fun x E1 => match seqOf E1 x with
    | some ws => andThen (wArgsS ev es σ E1) fun xs E2 => some (.ok (ws ++ xs) E2)
    | none => none
  | e :: es => fun σ E => andThen (ev e σ E) fun x E1 => andThen (wArgsS ev es σ E1) fun xs E2 => some (.ok (x :: xs) E2)
theorem wArgsS_plain {ev : Expr → Act W} {e : Expr} {es : List Expr} (h : plainArg e = true) : wArgsS ev (e :: es) = fun σ E => andThen (ev e σ E) fun x E1 => andThen (wArgsS ev es σ E1) fun xs E2 => some (.ok (x :: xs) E2) := by
  cases e <;> first | rfl | cases h
theorem pa_argsS {ev : Expr → Act W} (aK : X.K = M.K) (h : ∀ e, PE X e (SE M W' (ev e))) : ∀ es, PA X es (SA M W' (wArgsS ev es))
  | [] => PA.imp pa_nil fun σ H Q ⟨ι, E, σE, R, rs, k⟩ => k.ok ι H [] (Ext.refl _ _) R rfl
  | e :: es => by
    by_cases hp : plainArg e = true
    · refine PA.imp (pa_cons (h e) (pa_argsS aK h es) (starEach_cons hp)) fun σ H Q ⟨ι, E, σE, R, rs, k⟩ => ?_
      rw [wArgsS_plain hp] at k
      exact ⟨ι, E, σE, R, rs, (Rs.bind k).imp fun x E1 h1 => fun ι1 H1 v x1 R1 rx => ⟨ι1, E1, σE, R1, rs.ext x1, (h1.bind.ext x1).imp fun xs E2 h2 => fun ι2 H2 vs x2 R2 rxs =>
        h2.ok ι2 H2 (v :: vs) (x1.trans x2) R2 ⟨v, vs, rfl, rx.ext x2, rxs⟩⟩⟩
    · cases e with
      | Starred e p =>
        refine PA.imp (StX.pa_star (h e) (pa_argsS aK h es) rfl) fun σ H Q ⟨ι, E, σE, R, rs, k⟩ => ⟨ι, E, σE, R, rs, (Rs.bind k).imp fun x E1 h1 => fun ι1 H1 v x1 R1 rx => ?_⟩
        cases es1 : seqOf E1 x with
        | none => rw [es1] at h1; exact h1.none.elim
        | some ws =>
          rw [es1] at h1
          obtain ⟨a, us, rfl, hs, rws⟩ := seq_ok R1 es1 rx
          refine ⟨a, us, rfl, by rw [aK]; exact hs.symm, ι1, E1, σE, R1, rs.ext x1, ((Rs.bind h1).ext x1).imp fun xs E2 h2 => fun ι2 H2 vs x2 R2 rxs => ?_⟩
          exact h2.ok ι2 H2 _ (x1.trans x2) R2 ((rws.ext x2).append rxs)
      | _ => exact absurd rfl hp
/-! ### {} -/
theorem pe_dnewG {pos : Pos} : PE X (.Dict [] [] pos) (SE M W' fun _ E => some (.ok (.ref E.length) (E ++ [.dK []]))) :=
  PE.imp pe_dnewK fun σ H Q ⟨ι, E, σE, R, rs, k⟩ p hp => by
    obtain ⟨R', x⟩ := Rel.new (ho := .dK []) (o := .dK []) R hp fun _ => ⟨[], upd_same, rfl⟩
    exact k.ok _ _ _ x R' ⟨p, by rw [← R.len]; simp, rfl⟩
/-! ### a list or a tuple is taken apart -/
theorem PG.or2 {e : Expr} {t1 t2 : TG} (h1 : PG X e t1) (h2 : PG X e t2) : PG X e (fun v σ H Q => t1 v σ H Q ∨ t2 v σ H Q) := ⟨fun pins s σ H v u Q I r q => q.elim (h1.run pins s σ H v u Q I r) (h2.run pins s σ H v u Q I r)⟩
def unG (n : Nat) (d : ActGs) : ActG := fun w σ E => match seqOf E w with
  | some ws => if ws.length = n then d ws σ E else none
  | none => none
theorem pg_unG {es : List Expr} {k : Nat} {pos : Pos} {d : ActGs} (aK : X.K = M.K) (hc : X.calm = true) (hp : es.all plainTg = true) (h : PGs X es (SGs M W' d)) : PG X (.Tuple es k pos) (SG M W' (unG es.length d)) :=
  PG.imp (PG.or2 (pg_tup hc h assignEach_len (assignEach_plain hp)) (pg_lst hc h assignEach_len (assignEach_plain hp))) fun v σ H Q ⟨ι, E, σE, w, R, rs, rw', k⟩ => by
    unfold unG at k
    cases e : seqOf E w with
    | none => rw [e] at k; exact k.none.elim
    | some ws =>
      rw [e] at k
      dsimp only at k
      split at k
      · rename_i hl
        obtain ⟨a, us, rfl, hs, rws⟩ := seq_ok R e rw'
        rcases hs with hs | hs
        · exact .inr ⟨a, us, rfl, by rw [aK]; exact hs, by rw [← rws.length]; exact hl, ι, E, σE, ws, R, rs, rws, k⟩
        · exact .inl ⟨a, us, rfl, by rw [aK]; exact hs, by rw [← rws.length]; exact hl, ι, E, σE, ws, R, rs, rws, k⟩
      · exact k.none.elim
/-! ### a, b = x, y -/
def isStarE : Expr → Bool
  | .Starred _ _ => true
  | _ => false
def lnOf (ts : List Expr) : Nat := (ts.head?.map (·.pos.line)).getD 0
def nmsOf (names : List (Str × NameKind)) (ts : List Expr) : List Str := ts.filterMap fun
  | .Name id pos => if (names.lookup id == some .local && pos.line == lnOf ts) = true then some id else none
  | _ => none
def swF (names : List (Str × NameKind)) (ts vs : List Expr) : Option (Option (List Str)) :=
  if (!(ts.length == 2 || ts.length == 3) || vs.length != ts.length) = true then some none
  else if vs.any isStarE = true then some none
  else if ((nmsOf names ts).length != ts.length || (nmsOf names ts).eraseDups.length != (nmsOf names ts).length) = true then some none
  else if vs.all (foldedForSure 8) = true then some none
  else if vs.all (constantsAlone 8) = true then none
  else some (some (nmsOf names ts))
def nmsX (env : Env) (ts : List Expr) : List Str := ts.filterMap fun
  | .Name id pos => if (env.kindOf id == some .local && pos.line == lnOf ts) = true then some id else none
  | _ => none
theorem sw_st {Γ : Gm} {ts vs : List Expr} {kt k2 : Nat} {pt pt2 : Pos} {o : Option (List Str)} (a : At M Γ W' X) (h : swF Γ.names ts vs = some o) : swappedStores [.Tuple ts kt pt] (.Tuple vs k2 pt2) X.env = pure o := by
  have hb : X.env.blockKind = .function := by unfold Env.blockKind; rw [a.kind]; rfl
  have hn : nmsX X.env ts = nmsOf Γ.names ts := by
    unfold nmsX nmsOf Env.kindOf
    rw [a.names]
  unfold swF at h
  unfold swappedStores
  dsimp only
  rw [hb]
  split at h
  · rename_i c
    obtain rfl := Option.some.inj h
    have c' : (!(ts.length == 2 || ts.length == 3) || vs.length != ts.length || ScopeKind.function != ScopeKind.function) = true := by rw [c]; rfl
    rw [if_pos c']
  · rename_i c
    have c' : ¬ (!(ts.length == 2 || ts.length == 3) || vs.length != ts.length || ScopeKind.function != ScopeKind.function) = true := by
      rw [Bool.or_eq_true]
      rintro (z | z)
      · exact c z
      · cases z
    rw [if_neg c']
    change (if vs.any isStarE = true then (pure none : Sem (Option (List Str))) else if ((nmsX X.env ts).length != ts.length || (nmsX X.env ts).eraseDups.length != (nmsX X.env ts).length) = true then pure none else if vs.all (foldedForSure 8) = true then pure none
      else if vs.all (constantsAlone 8) = true then _ else pure (some (nmsX X.env ts))) = _
    rw [hn]
    split at h
    · rename_i c1
      obtain rfl := Option.some.inj h
      rw [if_pos c1]
    · rename_i c1
      rw [if_neg c1]
      split at h
      · rename_i c2
        obtain rfl := Option.some.inj h
        rw [if_pos c2]
      · rename_i c2
        rw [if_neg c2]
        split at h
        · rename_i c3
          obtain rfl := Option.some.inj h
          rw [if_pos c3]
        · rename_i c3
          rw [if_neg c3]
          split at h
          · cases h
          · rename_i c4
            obtain rfl := Option.some.inj h
            rw [if_neg c4]
/-- where the names' slots lie -/
def par2 (Γ : Gm) (x y : Str) (ca : Act (List W)) : ActS := fun σ E => match ixOf x Γ.N, ixOf y Γ.N with
  | some i, some j => if i ≠ j ∧ (Γ.names.lookup x == some .local && Γ.names.lookup y == some .local) = true then andThen (ca σ E) fun ws E1 => match ws with
    | [v, w] => some (.ok (.nx ((σ.set i (some v)).set j (some w))) E1)
    | _ => none
    else none
  | _, _ => none
theorem ps_par2G {Γ : Gm} {x y : Str} {e f : Expr} {px py pt pt2 pos : Pos} {kt k2 : Nat} {ca : Act (List W)} (a : At M Γ W' X) (hsw : swF Γ.names [.Name x px, .Name y py] [e, f] = some (some [x, y])) (ha : PA X [e, f] (SA M W' ca)) :
    PS X (.Assign [.Tuple [.Name x px, .Name y py] kt pt] (.Tuple [e, f] k2 pt2) pos) (SS M W' (par2 Γ x y ca)) := by
  cases hx : ixOf x Γ.N with
  | none => exact ps_no fun σ E => by unfold par2; rw [hx]
  | some i =>
    cases hy : ixOf y Γ.N with
    | none => exact ps_no fun σ E => by unfold par2; rw [hx, hy]
    | some j =>
      by_cases hc : i ≠ j ∧ (Γ.names.lookup x == some .local && Γ.names.lookup y == some .local) = true
      · have h2 := hc.2
        rw [Bool.and_eq_true] at h2
        refine PS.imp (ps_par (i := i) (j := j) a.calm (by rw [a.N]; exact a.nd) (by rw [a.N]; exact ixOf_ok hx) (by rw [a.N]; exact ixOf_ok hy) hc.1 (by rw [a.names]; simpa using h2.1) (by rw [a.names]; simpa using h2.2) ha (sw_st a hsw) rfl) fun D σ H ⟨ι, E, σE, R, rs, k⟩ => ?_
        unfold par2 at k
        rw [hx, hy] at k
        dsimp only at k
        rw [if_pos hc] at k
        refine ⟨ι, E, σE, R, rs, (Rs.bind k).imp fun ws E1 h1 => fun ι1 H1 vs x1 R1 rws => ?_⟩
        match ws, rws, h1 with
        | [v, w], rws, h1 =>
          obtain ⟨vv, wv, rfl, rv, rw'⟩ := two_ok rws
          exact ⟨vv, wv, rfl, h1.ok ι1 H1 x1 R1 _ (((rs.ext x1).set rv).set rw')⟩
        | [], rws, h1 => exact h1.none.elim
        | [_], rws, h1 => exact h1.none.elim
        | _ :: _ :: _ :: _, rws, h1 => exact h1.none.elim
      · exact ps_no fun σ E => by unfold par2; rw [hx, hy]; dsimp only; rw [if_neg hc]
/-- the pair is made, and taken apart -/
theorem ps_tupG {Γ : Gm} {ts vs : List Expr} {pt pt2 pos : Pos} {kt k2 : Nat} {ca : Act W} {g : ActG} (a : At M Γ W' X) (hsw : swF Γ.names ts vs = some none) (he : PE X (.Tuple vs k2 pt2) (SE M W' ca)) (hg : PG X (.Tuple ts kt pt) (SG M W' g)) :
    PS X (.Assign [.Tuple ts kt pt] (.Tuple vs k2 pt2) pos) (SS M W' (asgS ca g)) :=
  PS.imp (ps_asg he hg rfl (sw_st a hsw) rfl) fun D σ H ⟨ι, E, σE, R, rs, k⟩ => ⟨ι, E, σE, R, rs, (Rs.bind k).imp fun w E1 h1 => fun ι1 H1 v x1 R1 rv =>
    ⟨ι1, E1, σE, w, R1, rs.ext x1, rv, (h1.bind.ext x1).imp fun σ1 E2 h2 => fun ι2 H2 σ' x2 R2 rs2 => h2.ok ι2 H2 (x1.trans x2) R2 σ' rs2⟩⟩
end G

set_option Elab.async false
set_option linter.all false
set_option maxRecDepth 100000
set_option maxHeartbeats 4000000
namespace G
open PySem L2 PySem.Spec PyProof.Rows
variable {M : Md} {H H' H1 H2 : Hp} {ι ι' ι1 ι2 : List Addr} {X : Cx} {W' : WX}

/-! ### any and all, by the items' truth -/
/-- truth, at any depth of the stack -/
theorem tru_at {pins : List (Addr × Obj)} {σ : L2.St} {s : Shared} {x : V} {v : Value} {b : Bool} {A : Around} {E : Value → Shared → Prop} {Q : Bool → Shared → Prop} (I : Inv X pins σ H s) (r : RelV x v) (e : TruV X.K x H b) (k : ∀ t, Q b { s with toks := t }) : wpAny (model X.prog X.w) A (truthy v) Q E s := by
  have hs : sizeLine = 16777216 := sizeLine_eq
  cases x with
  | non =>
    cases r
    obtain rfl : b = false := e
    exact truthy_none (k s.toks)
  | bl c =>
    cases r
    obtain rfl : b = c := e
    exact wpAny_truthy_bool (k s.toks)
  | int i =>
    obtain ⟨t, rfl⟩ := r
    obtain rfl : b = (i != 0) := e
    exact PySem.P.truthy_int (k s.toks)
  | str y =>
    obtain ⟨t, rfl⟩ := r
    obtain ⟨hy, rfl⟩ : y.length ≤ sizeLine ∧ b = ((y.length : Int) != 0) := e
    exact PySem.P.truthy_str (by omega) (k _)
  | byt y =>
    obtain ⟨t, rfl⟩ := r
    obtain ⟨hy, rfl⟩ : y.size ≤ sizeLine ∧ b = ((y.size : Int) != 0) := e
    exact PySem.W.truthy_bytes (by omega) (k _)
  | ref p =>
    cases r
    have e : (∃ xs, SqL X.K H p xs ∧ b = !xs.isEmpty) ∨ (∃ xs, SqT X.K H p xs ∧ b = !xs.isEmpty) ∨ ∃ kvs, H p = some (.dK kvs) ∧ b = !kvs.isEmpty := e
    rcases e with ⟨xs, hx, rfl⟩ | ⟨xs, hx, rfl⟩ | ⟨kvs, hx, rfl⟩
    · obtain ⟨its, r, pl, hz⟩ := I.list hx
      have hlen := r.length
      exact wpAny_truthy_list pl.isList (by simp only [List.size_toArray]; omega) (by rw [isEmpty_of r]; exact k _)
    · obtain ⟨its, r, pl, hz⟩ := I.tuple hx
      have hlen := r.length
      exact truthy_tuple pl (by simp only [List.size_toArray]; omega) (by rw [isEmpty_of r]; exact k _)
    · obtain ⟨hz, hS, vs, r, m⟩ : kvs.length ≤ sizeLine ∧ (p == sysModules) = false ∧ ∃ vs, KV kvs vs ∧ s.heap.DictOf (mixKind X.prog X.w) p vs := I.hok p _ hx
      have hlen : kvs.length = vs.length := Paired.length r
      exact wpAny_truthy_dict hS m (by omega) (by rw [isEmpty_kv r]; exact k _)
  | _ => exact (show False from e).elim
section
variable {P : Program} {w : World} {A : Around} {R : Result → Shared → Prop} {it : Addr} {fp wr : List Addr} {n : Nat} {Pi : Nat → Value → Prop} {St : Nat → Heap → Prop} {tr : Nat → Bool} {s0 : Shared}
/-- the state s0, walked on -/
def Onw (wr : List Addr) (s0 s : Shared) : Prop := ∃ h' tk, s = { s0 with heap := h', toks := tk } ∧ ∀ b o, b ∉ wr → s0.heap.get? b = some o → h'.get? b = some o
abbrev TruOn (P : Program) (w : World) (A : Around) (wr : List Addr) (s0 : Shared) (Pi : Nat → Value → Prop) (tr : Nat → Bool) : Prop := ∀ i v (s : Shared) (Q : Bool → Shared → Prop) (E : Value → Shared → Prop), Pi i v → Onw wr s0 s → (∀ t, Q (tr i) { s with toks := t }) → wpAny (model P w) A (truthy v) Q E s
theorem any_loop (Wk : PySem.Walks P w A.in1 it fp wr n Pi St) (htr : TruOn P w A.in1 wr s0 Pi tr) : ∀ (k i : Nat) (s : Shared), n - i = k → i ≤ n → St i s.heap → Onw wr s0 s →
    (∀ s', Onw wr s0 s' → R (.ok (.ret (.bool (((List.range n).drop i).any tr)))) s') → codeAny (model P w) A (.builtin "any.loop" ⟨[.ref it], []⟩) R s
  | 0, i, s, hk, hi, st, on, hR => by
    obtain rfl : i = n := by omega
    refine codeAny_builtin PySem.F.entry_any_loop ?_
    rw [Around.under_plainId PySem.F.plain_any_loop _]
    show wpAny _ A.in1 (pyNext (.ref it) >>= _) _ _ s
    refine wpAny_bind (Wk.done s _ _ st fun h' tk hk' => wpAny_bind (wpAny_rule (wpAny_pure ?_)))
    obtain ⟨h0, t0, rfl, e0⟩ := on
    have z := hR _ ⟨h', tk, rfl, fun b o hb e => hk' b o hb (e0 b o hb e)⟩
    rw [List.drop_of_length_le (by simp)] at z
    exact z
  | k + 1, i, s, hk, hi, st, on, hR => by
    have hlt : i < n := by omega
    have hd : (List.range n).drop i = i :: (List.range n).drop (i + 1) := by
      rw [List.drop_eq_getElem_cons (by simpa using hlt)]; simp
    refine codeAny_builtin PySem.F.entry_any_loop ?_
    rw [Around.under_plainId PySem.F.plain_any_loop _]
    show wpAny _ A.in1 (pyNext (.ref it) >>= _) _ _ s
    refine wpAny_bind (Wk.item i s _ _ hlt st fun v h' tk hP st' hk' => ?_)
    obtain ⟨h0, t0, rfl, e0⟩ := on
    have on' : ∀ t, Onw wr s0 { s0 with heap := h', toks := t } := fun t => ⟨h', t, rfl, fun b o hb e => hk' b o hb (e0 b o hb e)⟩
    refine wpAny_bind (wpAny_holding (htr i v _ _ _ hP (on' tk) fun t => wpAny_bind (wpAny_letGo ?_)))
    cases hb : tr i with
    | false =>
      rw [if_neg Bool.false_ne_true]
      refine wpAny_pure ⟨plainId_quiet PySem.F.plain_any_loop _, any_loop Wk htr k (i + 1) _ (by omega) hlt st' (on' t) fun s' q => ?_⟩
      have z := hR s' q
      rw [hd, List.any_cons, hb, Bool.false_or] at z
      exact z
    | true =>
      rw [if_pos rfl]
      refine wpAny_bind (wpAny_rule (wpAny_pure ?_))
      have z := hR _ (on' t)
      rw [hd, List.any_cons, hb, Bool.true_or] at z
      exact z
theorem all_loop (Wk : PySem.Walks P w A.in1 it fp wr n Pi St) (htr : TruOn P w A.in1 wr s0 Pi tr) : ∀ (k i : Nat) (s : Shared), n - i = k → i ≤ n → St i s.heap → Onw wr s0 s →
    (∀ s', Onw wr s0 s' → R (.ok (.ret (.bool (((List.range n).drop i).all tr)))) s') → codeAny (model P w) A (.builtin "all.loop" ⟨[.ref it], []⟩) R s
  | 0, i, s, hk, hi, st, on, hR => by
    obtain rfl : i = n := by omega
    refine codeAny_builtin PySem.F.entry_all_loop ?_
    rw [Around.under_plainId PySem.F.plain_all_loop _]
    show wpAny _ A.in1 (pyNext (.ref it) >>= _) _ _ s
    refine wpAny_bind (Wk.done s _ _ st fun h' tk hk' => wpAny_bind (wpAny_rule (wpAny_pure ?_)))
    obtain ⟨h0, t0, rfl, e0⟩ := on
    have z := hR _ ⟨h', tk, rfl, fun b o hb e => hk' b o hb (e0 b o hb e)⟩
    rw [List.drop_of_length_le (by simp)] at z
    exact z
  | k + 1, i, s, hk, hi, st, on, hR => by
    have hlt : i < n := by omega
    have hd : (List.range n).drop i = i :: (List.range n).drop (i + 1) := by
      rw [List.drop_eq_getElem_cons (by simpa using hlt)]; simp
    refine codeAny_builtin PySem.F.entry_all_loop ?_
    rw [Around.under_plainId PySem.F.plain_all_loop _]
    show wpAny _ A.in1 (pyNext (.ref it) >>= _) _ _ s
    refine wpAny_bind (Wk.item i s _ _ hlt st fun v h' tk hP st' hk' => ?_)
    obtain ⟨h0, t0, rfl, e0⟩ := on
    have on' : ∀ t, Onw wr s0 { s0 with heap := h', toks := t } := fun t => ⟨h', t, rfl, fun b o hb e => hk' b o hb (e0 b o hb e)⟩
    refine wpAny_bind (wpAny_holding (htr i v _ _ _ hP (on' tk) fun t => wpAny_bind (wpAny_letGo ?_)))
    cases hb : tr i with
    | true =>
      rw [if_pos rfl]
      refine wpAny_pure ⟨plainId_quiet PySem.F.plain_all_loop _, all_loop Wk htr k (i + 1) _ (by omega) hlt st' (on' t) fun s' q => ?_⟩
      have z := hR s' q
      rw [hd, List.all_cons, hb, Bool.true_and] at z
      exact z
    | false =>
      rw [if_neg Bool.false_ne_true]
      refine wpAny_bind (wpAny_rule (wpAny_pure ?_))
      have z := hR _ (on' t)
      rw [hd, List.all_cons, hb, Bool.false_and] at z
      exact z
end
def rTruths (K : PySem.W.Frag) (f : List Bool → Bool) : List V → Hp → VK → Prop := fun vs H Q => ∃ (a : Addr) (xs : List V) (bs : List Bool), vs = [V.ref a] ∧ SqL K H a xs ∧ Paired (fun x b => TruV K x H b) xs bs ∧ Q (.bl (f bs)) H
theorem truths_on {pins : List (Addr × Obj)} {σ : L2.St} {s : Shared} {xs : List V} {its : List Value} {bs : List Bool} {A : Around} {s2 : Shared} {it : Addr} (I : Inv X pins σ H s) (rv : Vals xs its) (pb : Paired (fun x b => TruV X.K x H b) xs bs) (hit : it = s.heap.objs.size) (e2 : ∀ h' tk, { s2 with heap := h', toks := tk } = ({ s with heap := h', toks := tk } : Shared)) (k2 : ∀ b o, s.heap.get? b = some o → s2.heap.get? b = some o) :
    TruOn X.prog X.w A [it] s2 (fun i v => its.toArray[i]? = some v) (fun i => bs.getD i false) := fun i v s' Q E hv ⟨h', tk, es, hk⟩ kq => by
  subst es
  have hv' : its[i]? = some v := by simpa using hv
  have hi : i < xs.length := by rw [rv.length]; exact (List.getElem?_eq_some_iff.mp hv').1
  obtain ⟨b, hb, tb⟩ := paired_get pb (List.getElem?_eq_getElem hi)
  obtain ⟨u, hu, ru⟩ := rv.get (List.getElem?_eq_getElem hi)
  obtain rfl : u = v := Option.some.inj (hu.symm.trans hv')
  have hg : bs.getD i false = b := by rw [List.getD_eq_getElem?_getD, hb]; rfl
  rw [e2]
  have I' : Inv X pins σ H { s with heap := h', toks := tk } := I.kept fun b o eo => hk b o (fun hm => by
    rw [List.mem_singleton.mp hm, hit] at eo
    exact absurd (Heap.lt_size eo) (Nat.lt_irrefl _)) (k2 b o eo)
  refine tru_at I' ru tb fun t => ?_
  have z := kq t
  simp only [hg] at z
  rw [e2] at z
  exact z
theorem cr_anyT (hc : X.calm = true) : CallR X (.builtin "any") (rTruths X.K fun bs => bs.any id) := by
  intro pins s σ H vs us Q I r ⟨a, xs, bs, ev, hs, pb, q⟩
  subst ev
  obtain ⟨its, rv, hl, _⟩ := I.list hs
  rw [Vals.ref1 r]
  refine call_function_tree PySem.F.kind_any PySem.F.plain_any PySem.F.entry_any (PySem.F.args_any1 _) ?_
  unfold Builtin.«any»
  refine wpAny_bind (m := oneArg "any" _) (wpAny_pure ?_)
  refine wpAny_bind (iter_any hl.isList fun s₂ e2 st hne => ?_)
  have k2 : ∀ b o, s.heap.get? b = some o → s₂.heap.get? b = some o := fun b o e => by rw [e2]; exact Heap.get?_push_of_some _ e
  refine wpAny_pure ⟨plainId_quiet PySem.F.plain_any_loop _, any_loop (s0 := s₂) (tr := fun i => bs.getD i false) (PySem.Walks.list (A := X.A.in1) (I.ok.hd hc) _ a hne its.toArray) (truths_on I rv pb rfl (fun h' tk => by rw [e2]) k2) _ 0 s₂ rfl (Nat.zero_le _) st ⟨s₂.heap, s₂.toks, rfl, fun _ _ _ e => e⟩ fun s' on => ?_⟩
  obtain ⟨h', tk, es, hk⟩ := on
  subst es
  rw [show ({ s₂ with heap := h', toks := tk } : Shared) = { s with heap := h', toks := tk } by rw [e2]]
  refine ⟨.bl _, H, I.kept fun b o eo => hk b o (fun hm => ?_) (k2 b o eo), ?_, q⟩
  · rw [List.mem_singleton.mp hm] at eo
    exact absurd (Heap.lt_size eo) (Nat.lt_irrefl _)
  · show Value.bool _ = Value.bool _
    show Value.bool _ = Value.bool (bs.any id)
    rw [← any_range bs, List.size_toArray, ← rv.length, Paired.length pb]
    rfl
theorem cr_allT (hc : X.calm = true) : CallR X (.builtin "all") (rTruths X.K fun bs => bs.all id) := by
  intro pins s σ H vs us Q I r ⟨a, xs, bs, ev, hs, pb, q⟩
  subst ev
  obtain ⟨its, rv, hl, _⟩ := I.list hs
  rw [Vals.ref1 r]
  refine call_function_tree PySem.F.kind_all PySem.F.plain_all PySem.F.entry_all (PySem.F.args_all1 _) ?_
  unfold Builtin.«all»
  refine wpAny_bind (m := oneArg "all" _) (wpAny_pure ?_)
  refine wpAny_bind (iter_any hl.isList fun s₂ e2 st hne => ?_)
  have k2 : ∀ b o, s.heap.get? b = some o → s₂.heap.get? b = some o := fun b o e => by rw [e2]; exact Heap.get?_push_of_some _ e
  refine wpAny_pure ⟨plainId_quiet PySem.F.plain_all_loop _, all_loop (s0 := s₂) (tr := fun i => bs.getD i false) (PySem.Walks.list (A := X.A.in1) (I.ok.hd hc) _ a hne its.toArray) (truths_on I rv pb rfl (fun h' tk => by rw [e2]) k2) _ 0 s₂ rfl (Nat.zero_le _) st ⟨s₂.heap, s₂.toks, rfl, fun _ _ _ e => e⟩ fun s' on => ?_⟩
  obtain ⟨h', tk, es, hk⟩ := on
  subst es
  rw [show ({ s₂ with heap := h', toks := tk } : Shared) = { s with heap := h', toks := tk } by rw [e2]]
  refine ⟨.bl _, H, I.kept fun b o eo => hk b o (fun hm => ?_) (k2 b o eo), ?_, q⟩
  · rw [List.mem_singleton.mp hm] at eo
    exact absurd (Heap.lt_size eo) (Nat.lt_irrefl _)
  · show Value.bool _ = Value.bool _
    show Value.bool _ = Value.bool (bs.all id)
    rw [← all_range bs, List.size_toArray, ← rv.length, Paired.length pb]
    rfl
end G

set_option Elab.async false
set_option linter.all false
set_option maxRecDepth 100000
set_option maxHeartbeats 4000000
namespace G
open PySem L2 PySem.Spec PyProof.Rows
variable {M : Md} {H H' H1 H2 : Hp} {ι ι' ι1 ι2 : List Addr} {X : Cx} {W' : WX}

/-! ### calls of what is built in, once more -/
def trus (E : Hh) (ws : List W) : Option (List Bool) := match ws with
  | [] => some []
  | w :: r => match wTru w E, trus E r with
    | some b, some bs => some (b :: bs)
    | _, _ => none
theorem trus_ok {E : Hh} (R : Rel M ι E H) : ∀ {ws : List W} {bs : List Bool} {vs : List V}, trus E ws = some bs → RelWs M H ι ws vs → Paired (fun x b => TruV M.K x H b) vs bs
  | [], bs, vs, h, r => by
    obtain rfl : [] = bs := Option.some.inj h
    rw [show vs = [] from r]
    exact .nil
  | w :: ws, bs, vs, h, r => by
    obtain ⟨v, us, rfl, r1, r2⟩ := r
    unfold trus at h
    cases e1 : wTru w E with
    | none => rw [e1] at h; cases h
    | some b =>
      cases e2 : trus E ws with
      | none => rw [e1, e2] at h; cases h
      | some cs =>
        rw [e1, e2] at h
        obtain rfl : b :: cs = bs := Option.some.inj h
        exact .cons (tru_okW e1 R r1) (trus_ok R e2 r2)
def wBiX (f : Bi) (xs : List W) (E : Hh) : Option (W × Hh) := match f, xs with
  | .len, [x] => match dnOf E x with
    | some (_, kvs) => some (.int kvs.length, E)
    | none => wBi .len xs E
  | .any, [x] => match lstOf E x with
    | some (_, ws) => match trus E ws with
      | some bs => some (.bl (bs.any id), E)
      | none => none
    | none => none
  | .all, [x] => match lstOf E x with
    | some (_, ws) => match trus E ws with
      | some bs => some (.bl (bs.all id), E)
      | none => none
    | none => none
  | f, xs => wBi f xs E
def rBiX (M : Md) (f : Bi) : List V → Hp → VK → Prop := fun xs H Q => (match f with
  | .len => rLenN M xs H Q
  | .any => rTruths M.K (fun bs => bs.any id) xs H Q
  | .all => rTruths M.K (fun bs => bs.all id) xs H Q
  | _ => False) ∨ rBi M.K f xs H Q
theorem cr_biX {Γ : Gm} (a : At M Γ W' X) (f : Bi) : CallR X f.val (rBiX M f) := by
  have base := cr_bi a.calm f
  rw [a.K] at base
  intro pins s σ H xs us Q I r h
  rcases h with h | h
  · cases f with
    | len => exact cr_lenN a.K pins s σ H xs us Q I r h
    | any => exact cr_anyT a.calm pins s σ H xs us Q I r (by rw [a.K]; exact h)
    | all => exact cr_allT a.calm pins s σ H xs us Q I r (by rw [a.K]; exact h)
    | _ => exact h.elim
  · exact base pins s σ H xs us Q I r h
theorem biX_ok {f : Bi} {E E' : Hh} {xs : List W} {z : W} {vs : List V} {Q : VK} (h : wBiX f xs E = some (z, E')) (R : Rel M ι E H) (r : RelWs M H ι xs vs) (k : Fin M ι H z E' Q) : rBiX M f vs H Q := by
  unfold wBiX at h
  split at h
  · rename_i x
    split at h
    · rename_i n kvs e
      obtain ⟨rfl, rfl⟩ : (.int kvs.length : W) = z ∧ E = E' := by simpa using h
      obtain ⟨v, rfl, rx⟩ := one_ok r
      exact .inl ⟨ι, E, v, x, n, kvs, rfl, R, rx, e, k.now R rfl⟩
    · exact .inr (bi_ok (f := .len) h R r k)
  · rename_i x
    split at h
    · rename_i n ws e
      split at h
      · rename_i bs e2
        obtain ⟨rfl, rfl⟩ : (.bl (bs.any id) : W) = z ∧ E = E' := by simpa using h
        obtain ⟨v, rfl, rx⟩ := one_ok r
        obtain ⟨a, us, _, _, _, rfl, h1, rws⟩ := lst_ok R e rx
        exact .inl ⟨a, us, bs, rfl, SqL.of h1, trus_ok R e2 rws, k.now R rfl⟩
      · cases h
    · cases h
  · rename_i x
    split at h
    · rename_i n ws e
      split at h
      · rename_i bs e2
        obtain ⟨rfl, rfl⟩ : (.bl (bs.all id) : W) = z ∧ E = E' := by simpa using h
        obtain ⟨v, rfl, rx⟩ := one_ok r
        obtain ⟨a, us, _, _, _, rfl, h1, rws⟩ := lst_ok R e rx
        exact .inl ⟨a, us, bs, rfl, SqL.of h1, trus_ok R e2 rws, k.now R rfl⟩
      · cases h
    · cases h
  · exact .inr (bi_ok h R r k)
def wBiXA (f : Bi) (ca : Act (List W)) : Act W := fun σ E => andThen (ca σ E) fun ws E1 => lift (wBiX f ws E1)
theorem pe_biXG {Γ : Gm} {x : Str} {p pos : Pos} {f : Bi} {e : Expr} {es : List Expr} {ca : Act (List W)} (a : At M Γ W' X) (hb : biOf x = some f) (hg : Gl X x) (hm : X.mg x = none) (hp : (e :: es).all plainArg = true) (ha : PA X (e :: es) (SA M W' ca)) :
    PE X (.Call (.Name x p) (e :: es) [] pos) (SE M W' (wBiXA f ca)) := by
  rw [List.all_cons, Bool.and_eq_true] at hp
  have t : ∀ (σ : L2.St) (H : Hp) (Q : VK), SE M W' (wBiXA f ca) σ H Q → tCB (rBiX M f) (SA M W' ca) σ H Q := fun σ H Q ⟨ι, E, σE, R, rs, k⟩ => ⟨ι, E, σE, R, rs, (Rs.bind k).imp fun ws E1 h1 => fun ι1 H1 vs x1 R1 rws => by
    obtain ⟨w, E', e, g⟩ := h1.lift
    exact biX_ok e R1 rws fun ι2 H2 u x2 => g ι2 H2 u (x1.trans x2)⟩
  have ex : x = "len" ∧ f = .len ∨ x = "isinstance" ∧ f = .isi ∨ x = "all" ∧ f = .all ∨ x = "any" ∧ f = .any ∨ x = "sum" ∧ f = .sum ∨ x = "abs" ∧ f = .abs ∨ x = "int" ∧ f = .int ∨ x = "list" ∧ f = .list ∨ x = "tuple" ∧ f = .tuple := by
    unfold biOf at hb
    repeat' split at hb
    all_goals first | (cases hb; done) | (obtain rfl := Option.some.inj hb; simp [*])
  have cr := cr_biX a f
  rcases ex with ⟨rfl, rfl⟩ | ⟨rfl, rfl⟩ | ⟨rfl, rfl⟩ | ⟨rfl, rfl⟩ | ⟨rfl, rfl⟩ | ⟨rfl, rfl⟩ | ⟨rfl, rfl⟩ | ⟨rfl, rfl⟩ | ⟨rfl, rfl⟩
  · exact PE.imp (pe_callB cr hg hm PySem.boot_len ha (by decide +kernel) (by decide +kernel) (starEach_cons hp.1) (starEach_plain hp.2)) t
  · exact PE.imp (pe_callB cr hg hm (by decide +kernel) ha (by decide +kernel) (by decide +kernel) (starEach_cons hp.1) (starEach_plain hp.2)) t
  · exact PE.imp (pe_callB cr hg hm (by decide +kernel) ha (by decide +kernel) (by decide +kernel) (starEach_cons hp.1) (starEach_plain hp.2)) t
  · exact PE.imp (pe_callB cr hg hm (by decide +kernel) ha (by decide +kernel) (by decide +kernel) (starEach_cons hp.1) (starEach_plain hp.2)) t
  · exact PE.imp (pe_callB cr hg hm (by decide +kernel) ha (by decide +kernel) (by decide +kernel) (starEach_cons hp.1) (starEach_plain hp.2)) t
  · exact PE.imp (pe_callB cr hg hm (by decide +kernel) ha (by decide +kernel) (by decide +kernel) (starEach_cons hp.1) (starEach_plain hp.2)) t
  · exact PE.imp (pe_callTy cr hg hm (by decide +kernel) ha (by decide +kernel) (by decide +kernel) (starEach_cons hp.1) (starEach_plain hp.2)) t
  · exact PE.imp (pe_callTy cr hg hm (by decide +kernel) ha (by decide +kernel) (by decide +kernel) (starEach_cons hp.1) (starEach_plain hp.2)) t
  · exact PE.imp (pe_callTy cr hg hm (by decide +kernel) ha (by decide +kernel) (by decide +kernel) (starEach_cons hp.1) (starEach_plain hp.2)) t
end G

set_option Elab.async false
set_option linter.all false
set_option maxRecDepth 100000
set_option maxHeartbeats 4000000
namespace G
open PySem L2 PySem.Spec PyProof.Rows
variable {M : Md} {H H' H1 H2 : Hp} {ι ι' ι1 ι2 : List Addr} {X : Cx} {W' : WX}

/-! ### raise -/
def raiseS (P : Pg) (x : Str) : ActS := fun _ E => if P.exc x = true ∧ ¬ x = dbg then some (.ex x E) else none
theorem ps_raiseG {P : Pg} {Γ : Gm} {x m : Str} {j : Nat} {p p2 pos pos2 : Pos} (i : In M P Γ W' X) (hg : Gl X x) : PS X (.Raise (some (.Call (.Name x p) [.Constant (.str m) j p2] [] pos)) none pos2) (SS M W' (raiseS P x)) := by
  by_cases hx : P.exc x = true ∧ ¬ x = dbg
  · obtain ⟨C, hm, ec⟩ := i.glob.exc x hx.1
    have aK := i.at'.K
    refine PS.imp (L2N.ps_raise i.at'.calm i.at'.tk (L2N.pmk_own PySem.F.excBase_ValueError (C := C) (by rw [aK]; exact ec.make) (by rw [i.at'.mg]; exact hm) (by rw [aK]; exact ec.kp) (raises_own (by rw [aK]; exact ec.sub) (by rw [aK]; exact ec.ty)) hg (str_ne hx.2))) fun D σ H ⟨ι, E, σE, R, rs, k⟩ => ?_
    unfold raiseS at k
    rw [if_pos hx] at k
    rcases k with ⟨_, _, e, _⟩ | ⟨y, E', e, g⟩
    · cases e
    · cases e
      obtain ⟨C', h1, h2⟩ := g ι H (Ext.refl _ _) R
      rw [hm] at h1
      cases h1
      exact h2
  · exact ps_no fun σ E => by unfold raiseS; rw [if_neg hx]
end G

set_option Elab.async false
set_option linter.all false
set_option maxRecDepth 100000
set_option maxHeartbeats 4000000
namespace G
open PySem L2 PySem.Spec PyProof.Rows
variable {M : Md} {H H' H1 H2 : Hp} {ι ι' ι1 ι2 : List Addr} {X : Cx} {W' : WX}

/-! ### D.get(e), D a dict that the module's text writes -/
def getK (kvs : List (Str × W)) : W → Option W
  | .str z => some ((kvs.lookup z).getD .non)
  | _ => none
theorem getK_ok {kvs : List (Str × W)} {y w : W} (h : getK kvs y = some w) : ∃ z, y = .str z ∧ w = (kvs.lookup z).getD .non := by
  cases y with
  | str z =>
    unfold getK at h
    exact ⟨z, rfl, (Option.some.inj h).symm⟩
  | _ => cases h
def kgetA (kvs : List (Str × W)) (ca : Act W) : Act W := fun σ E => andThen (ca σ E) fun y E1 => lift ((getK kvs y).map fun w => (w, E1))
theorem pe_kgetG {Γ : Gm} {x : Str} {e : Expr} {p apos cpos : Pos} {kvs : List (Str × W)} {a : Addr} {ca : Act W} (at' : At M Γ W' X) (hg : Gl X x) (hm : M.mg x = some (.ref a)) (hd : (x == ("__debug__" : Str)) = false) (hk : Kd M a kvs) (hp : plainArg e = true) (hline : (apos.endLine == cpos.line) = true) (he : PE X e (SE M W' ca)) :
    PE X (.Call (.Attribute (.Name x p) "get" apos) [e] [] cpos) (SE M W' (kgetA kvs ca)) := by
  refine ⟨fun pins s σ H Q I ⟨ι, E, σE, R, rs, k⟩ => ?_⟩
  obtain ⟨es, n, hl, hkl, hz⟩ := hk.at_
  rw [← at'.K] at hl
  rw [← at'.w] at hkl
  have trees : backTo cpos (starEach [e] X.env) = [(false, eval e X.env)] := by
    rw [starEach_cons hp]
    rfl
  refine wpAny_Call_method (plainBase_ok rfl) (by rw [trees]; rfl) hline PySem.F.plainAttrs_dict PySem.F.slot_dict_get PySem.F.type_dict_get (thn ((pe_glob (v := .ref a) (u := .ref a) (pos := p) hg (by rw [at'.mg]; exact hm) rfl hd).run pins s σ H (fun v H1 => v = .ref a ∧ H1 = H) I ⟨rfl, rfl⟩) fun u s1 ⟨x', H1, I1, rx, ex, eH⟩ => ?_)
  subst ex
  subst eH
  obtain rfl : u = Value.ref a := rx
  have hm1 := PySem.W.mapOf_K (prog := X.prog) (w := X.w) I1.kIn hl hkl
  refine ⟨hm1.typeIs, hm1.noDict, ?_⟩
  rw [trees]
  refine Calls.callWith_builtin rfl (Calls.evalArgs_plain (Calls.spliced_cons (thn (he.run pins s1 σ H1 (fun v H2 => ∃ ι2 E2 y w, Ext M ι H1 ι2 H2 ∧ Rel M ι2 E2 H2 ∧ RelW M H2 ι2 y v ∧ getK kvs y = some w ∧ Fin M ι H1 w E2 Q) I1 ⟨ι, E, σE, R, rs, (Rs.bind k).imp fun y E2 h1 => fun ι2 H2 v x2 R2 ry => by
    obtain ⟨w, E3, ew, kq⟩ := h1.lift
    cases eg : getK kvs y with
    | none => rw [eg] at ew; cases ew
    | some w' =>
      rw [eg] at ew
      obtain ⟨rfl, rfl⟩ : w' = w ∧ E2 = E3 := by simpa using ew
      exact ⟨ι2, E2, y, w', x2, R2, ry, eg, kq⟩⟩) fun iv s2 ⟨yv, H2, I2, ry, ι2, E2, y, w, x2, R2, rw2, eg, kq⟩ => Calls.spliced_nil ?_)))
  obtain ⟨z, rfl, rfl⟩ := getK_ok eg
  obtain rfl : yv = V.str z := rw2
  obtain ⟨t, rfl⟩ := (show ∃ t, iv = Value.str z t from ry)
  have hm2 := PySem.W.mapOf_K (prog := X.prog) (w := X.w) I2.kIn hl hkl
  obtain ⟨r, er, hv⟩ := hz z
  rw [← at'.K] at er
  refine call_meetsIn PySem.F.slot_dict_get hm2.typeIs PySem.F.entry_dict_get (PySem.F.args_dict_get_2 _ _) (meets_dict_get (strKind X.prog X.w) a (strKind_is X.prog X.w z t) hk.low) ⟨_, hm2, ?_⟩
  rw [PySem.W.find_K hl er]
  unfold KdV at hv
  cases ez : kvs.lookup z with
  | none =>
    rw [ez] at hv kq
    subst hv
    exact ⟨.non, H2, I2.tok _, rfl, kq ι2 H2 .non x2 R2 rfl⟩
  | some w =>
    rw [ez] at hv kq
    obtain ⟨u, v, rfl, rv, rw3⟩ := hv
    exact ⟨v, H2, I2.tok _, rv, kq ι2 H2 v x2 R2 (rw3 H2 ι2)⟩
end G

set_option Elab.async false
set_option linter.all false
set_option maxRecDepth 100000
set_option maxHeartbeats 4000000
namespace G
open PySem L2 PySem.Spec PyProof.Rows
variable {M : Md} {H H' H1 H2 : Hp} {ι ι' ι1 ι2 : List Addr} {X : Cx} {W' : WX}

/-! ### a statement under a lock -/
theorem PS.or2 {s : Stmt} {t1 t2 : TS} (h1 : PS X s t1) (h2 : PS X s t2) : PS X s (fun D σ H => t1 D σ H ∨ t2 D σ H) := ⟨fun pins s σ H D I q => q.elim (h1.run pins s σ H D I) (h2.run pins s σ H D I)⟩
theorem RelS.tps {σE : Sg} {σ : L2.St} (tp : ∀ b xs, SqT M.K H b xs → SqT M.K H' b xs) (rs : RelS M H ι σE σ) : RelS M H' ι σE σ := ⟨rs.1, fun i w e => by
  obtain ⟨v, ev, rv⟩ := rs.2 i w e
  exact ⟨v, ev, RelW.tps tp rv⟩⟩
def lockS (ix : Sg → Hh → Option Nat) (ca : ActS) : ActS := fun σ E => match (ix σ E).bind fun i => ((E : List O)[i]?).bind fun o => (lockO o).map fun o' => (i, o') with
  | some (i, o') => andThen (ca σ (E.set i o')) fun f E1 => match ((E1 : List O)[i]?).bind freeO with
    | some u => some (.ok f (E1.set i u))
    | none => none
  | none => ca σ E
theorem ps_lockG {st : Stmt} {ix : Sg → Hh → Option Nat} {ca : ActS} (h : PS X st (SS M W' ca)) : PS X st (SS M W' (lockS ix ca)) := by
  refine PS.imp (PS.or2 h (ps_lock h)) fun D σ H ⟨ι, E, σE, R, rs, k⟩ => ?_
  unfold lockS at k
  split at k
  · rename_i p i o' hp
    right
    obtain ⟨i0, _, hp⟩ := Option.bind_eq_some_iff.mp hp
    obtain ⟨o, he, hp⟩ := Option.bind_eq_some_iff.mp hp
    obtain ⟨o1, hl, hp⟩ := Option.map_eq_some_iff.mp hp
    obtain ⟨rfl, rfl⟩ : i0 = i ∧ o1 = o' := by simpa using hp
    obtain ⟨a, ha, ro⟩ := R.obj i0 o he
    obtain ⟨u, hu, du, lk⟩ := lock_rel R ha he hl
    have h0 : ∀ q w, H a ≠ some (.frz q w) := fun q w z => by
      rw [hu] at z
      cases z
      exact du.nt.2.1 _ _ rfl
    refine ⟨a, u, hu, du.mut, fun od => ?_⟩
    obtain ⟨R0, x0⟩ := lk od
    refine ⟨ι, E.set i0 o1, σE, R0, rs.ext x0, ((Rs.bind k).ext x0).imp fun f E1 h1 => fun ι1 H1 x1 R1 => ?_⟩
    have hf : H1 a = some (.frz od u) := x1.frz _ _ _ upd_same
    have ha1 := pre_get x1.pre ha
    cases e1 : (E1 : List O)[i0]? with
    | none => rw [e1] at h1; exact h1.none.elim
    | some o2 =>
      rw [e1] at h1
      dsimp only [Option.bind] at h1
      cases e2 : freeO o2 with
      | none => rw [e2] at h1; exact h1.none.elim
      | some o3 =>
        rw [e2] at h1
        obtain ⟨R2, x2⟩ := free_rel R1 ha1 e1 e2 hf du (x0.trans x1) h0
        have tp : ∀ b xs, SqT M.K H1 b xs → SqT M.K (upd H1 a u) b xs := fun b xs h => by
          obtain ⟨n1, n2, n3⟩ := du.nt
          rcases h with (h | ⟨ob, h⟩) | h
          · exact .inl (.inl (by rw [upd_ne (fun z => by rw [z, hf] at h; cases h)]; exact h))
          · exact .inl (.inr ⟨ob, by rw [upd_ne (fun z => by rw [z, hf] at h; cases h; exact n1 _ rfl)]; exact h⟩)
          · exact .inr h
        have g := h1.ok ι1 _ x2 R2
        cases f with
        | nx σ1 => exact fun σ' rs' => ⟨hf, g σ' (RelS.tps tp rs')⟩
        | rt w => exact fun v rv => ⟨hf, g v (RelW.tps tp rv)⟩
        | bk σ1 => exact fun σ' rs' => ⟨hf, g σ' (RelS.tps tp rs')⟩
        | ct σ1 => exact fun σ' rs' => ⟨hf, g σ' (RelS.tps tp rs')⟩
  · exact .inl ⟨ι, E, σE, R, rs, k⟩
end G

set_option Elab.async false
set_option linter.all false
set_option maxRecDepth 100000
set_option maxHeartbeats 4000000
namespace G
open PySem L2 PySem.Spec PyProof.Rows
variable {M : Md} {H H' H1 H2 : Hp} {ι ι' ι1 ι2 : List Addr} {X : Cx} {W' : WX}

/-! ### x, y, z = a, b, c -/
theorem three_ok {x y z : W} {vs : List V} (r : RelWs M H ι [x, y, z] vs) : ∃ a b c, vs = [a, b, c] ∧ RelW M H ι x a ∧ RelW M H ι y b ∧ RelW M H ι z c := by
  obtain ⟨a, r1, rfl, h1, h2⟩ := r
  obtain ⟨b, c, rfl, h3, h4⟩ := two_ok h2
  exact ⟨a, b, c, rfl, h1, h3, h4⟩
def okPar3 (Γ : Gm) (x y z : Str) (i j l : Nat) : Bool := decide (i ≠ j) && decide (i ≠ l) && decide (j ≠ l) && (Γ.names.lookup x == some .local) && (Γ.names.lookup y == some .local) && (Γ.names.lookup z == some .local)
def par3 (Γ : Gm) (x y z : Str) (ca : Act (List W)) : ActS := fun σ E => match ixOf x Γ.N, ixOf y Γ.N, ixOf z Γ.N with
  | some i, some j, some l => if okPar3 Γ x y z i j l = true then andThen (ca σ E) fun ws E1 => match ws with
    | [u, v, w] => some (.ok (.nx (((σ.set i (some u)).set j (some v)).set l (some w))) E1)
    | _ => none
    else none
  | _, _, _ => none
theorem ps_par3G {Γ : Gm} {x y z : Str} {e f g : Expr} {px py pz pt pt2 pos : Pos} {kt k2 : Nat} {ca : Act (List W)} (a : At M Γ W' X) (hsw : swF Γ.names [.Name x px, .Name y py, .Name z pz] [e, f, g] = some (some [x, y, z])) (ha : PA X [e, f, g] (SA M W' ca)) :
    PS X (.Assign [.Tuple [.Name x px, .Name y py, .Name z pz] kt pt] (.Tuple [e, f, g] k2 pt2) pos) (SS M W' (par3 Γ x y z ca)) := by
  have no : ∀ {c : Prop}, (¬ c → ∀ σ E, par3 Γ x y z ca σ E = none) → (c → PS X (.Assign [.Tuple [.Name x px, .Name y py, .Name z pz] kt pt] (.Tuple [e, f, g] k2 pt2) pos) (SS M W' (par3 Γ x y z ca))) → PS X (.Assign [.Tuple [.Name x px, .Name y py, .Name z pz] kt pt] (.Tuple [e, f, g] k2 pt2) pos) (SS M W' (par3 Γ x y z ca)) := fun {c} h1 h2 => by
    by_cases h : c
    · exact h2 h
    · exact ps_no (h1 h)
  refine no (c := ∃ i j l, ixOf x Γ.N = some i ∧ ixOf y Γ.N = some j ∧ ixOf z Γ.N = some l ∧ okPar3 Γ x y z i j l = true) (fun h σ E => ?_) fun ⟨i, j, l, hx, hy, hz, hc⟩ => ?_
  · unfold par3
    split
    · rename_i i j l hx hy hz
      exact if_neg fun hc => h ⟨i, j, l, hx, hy, hz, hc⟩
    · rfl
  · have h2 := hc
    simp only [okPar3, Bool.and_eq_true, decide_eq_true_eq, beq_iff_eq] at h2
    obtain ⟨⟨⟨⟨⟨n1, n2⟩, n3⟩, l1⟩, l2⟩, l3⟩ := h2
    refine PS.imp (ps_par3 (i := i) (j := j) (l := l) a.calm (by rw [a.N]; exact a.nd) (by rw [a.N]; exact ixOf_ok hx) (by rw [a.N]; exact ixOf_ok hy) (by rw [a.N]; exact ixOf_ok hz) n1 n2 n3 (by rw [a.names]; exact l1) (by rw [a.names]; exact l2) (by rw [a.names]; exact l3) ha (sw_st a hsw) rfl) fun D σ H ⟨ι, E, σE, R, rs, k⟩ => ?_
    unfold par3 at k
    rw [hx, hy, hz] at k
    dsimp only at k
    rw [if_pos hc] at k
    refine ⟨ι, E, σE, R, rs, (Rs.bind k).imp fun ws E1 h1 => fun ι1 H1 vs x1 R1 rws => ?_⟩
    match ws, rws, h1 with
    | [u, v, w], rws, h1 =>
      obtain ⟨uu, vv, ww, rfl, ru, rv, rw'⟩ := three_ok rws
      exact ⟨uu, vv, ww, rfl, h1.ok ι1 H1 x1 R1 _ ((((rs.ext x1).set ru).set rv).set rw')⟩
    | [], rws, h1 => exact h1.none.elim
    | [_], rws, h1 => exact h1.none.elim
    | [_, _], rws, h1 => exact h1.none.elim
    | _ :: _ :: _ :: _ :: _, rws, h1 => exact h1.none.elim
end G

set_option Elab.async false
set_option linter.all false
set_option maxRecDepth 100000
set_option maxHeartbeats 4000000
namespace G
open PySem L2 PySem.Spec PyProof.Rows
variable {M : Md} {H H' H1 H2 : Hp} {ι ι' ι1 ι2 : List Addr} {X : Cx} {W' : WX}

/-! ### max -/
def topI : Int → List Int → Int
  | m, [] => m
  | m, n :: r => topI (if n > m then n else m) r
theorem topI_ge : ∀ (r : List Int) (m : Int), m ≤ topI m r ∧ ∀ y ∈ r, y ≤ topI m r
  | [], m => ⟨Int.le_refl _, fun y h => nomatch h⟩
  | n :: r, m => by
    obtain ⟨h1, h2⟩ := topI_ge r (if n > m then n else m)
    have h0 : m ≤ (if n > m then n else m) ∧ n ≤ (if n > m then n else m) := by split <;> omega
    refine ⟨Int.le_trans h0.1 h1, fun y hy => ?_⟩
    rcases List.mem_cons.mp hy with rfl | hy
    · exact Int.le_trans h0.2 h1
    · exact h2 y hy
theorem topI_mem : ∀ (r : List Int) (m : Int), topI m r = m ∨ topI m r ∈ r
  | [], m => .inl rfl
  | n :: r, m => by
    unfold topI
    rcases topI_mem r (if n > m then n else m) with h | h
    · split at h
      · rename_i c
        rw [if_pos c]
        exact .inr (by rw [h]; exact List.mem_cons_self)
      · rename_i c
        rw [if_neg c]
        exact .inl h
    · exact .inr (List.mem_cons_of_mem _ h)
def wMax (xs : List W) (E : Hh) : Option (W × Hh) := match xs with
  | [.int i, .int j] => some (.int (if j > i then j else i), E)
  | [x] => match lstOf E x with
    | some (_, ws) => match ws.mapM intW with
      | some (n :: ns) => some (.int (topI n ns), E)
      | _ => none
    | none => none
  | _ => none
def rMaxG (K : PySem.W.Frag) : List V → Hp → VK → Prop := fun vs H Q => (∃ i j, vs = [.int i, .int j] ∧ Q (.int (if j > i then j else i)) H) ∨ rMax K vs H Q
theorem max_ok {E E' : Hh} {xs : List W} {z : W} {vs : List V} {Q : VK} (h : wMax xs E = some (z, E')) (R : Rel M ι E H) (r : RelWs M H ι xs vs) (k : Fin M ι H z E' Q) : rMaxG M.K vs H Q := by
  unfold wMax at h
  split at h
  · rename_i i j
    obtain ⟨v, u, rfl, rv, ru⟩ := two_ok r
    obtain ⟨rfl, rfl⟩ : (.int (if j > i then j else i) : W) = z ∧ E = E' := by simpa using h
    rw [show v = .int i from rv, show u = .int j from ru]
    exact .inl ⟨i, j, rfl, k.now R rfl⟩
  · rename_i x
    obtain ⟨v, rfl, rx⟩ := one_ok r
    split at h
    · rename_i p i ws e
      split at h
      · rename_i n ns e2
        obtain ⟨rfl, rfl⟩ : (.int (topI n ns) : W) = z ∧ E = E' := by simpa using h
        obtain ⟨a, us, _, _, _, rfl, h1, rw⟩ := lst_ok R e rx
        rw [ints_ok e2 rw] at h1
        refine .inr ⟨a, n :: ns, rfl, SqL.of h1, Nat.succ_pos _, fun m hm hall => ?_⟩
        have g := topI_ge ns n
        have e3 : topI n ns = m := by
          have a1 : topI n ns ≤ m := hall _ (by
            rcases topI_mem ns n with h | h
            · rw [h]; exact List.mem_cons_self
            · exact List.mem_cons_of_mem _ h)
          have a2 : m ≤ topI n ns := by
            rcases List.mem_cons.mp hm with rfl | hm
            · exact g.1
            · exact g.2 m hm
          omega
        rw [← e3]
        exact k.now R rfl
      · cases h
    · cases h
  · cases h
theorem cr_maxG (hc : X.calm = true) : CallR X (.builtin "max") (rMaxG X.K) := fun pins s σ H vs us Q I r h => h.elim (call_max2 hc pins s σ H vs us Q I r) (cr_max hc pins s σ H vs us Q I r)
def wMaxA (ca : Act (List W)) : Act W := fun σ E => andThen (ca σ E) fun ws E1 => lift (wMax ws E1)
theorem pe_maxG {Γ : Gm} {p pos : Pos} {e : Expr} {es : List Expr} {ca : Act (List W)} (a : At M Γ W' X) (hg : Gl X "max") (hm : X.mg "max" = none) (hp : (e :: es).all plainArg = true) (ha : PA X (e :: es) (SA M W' ca)) :
    PE X (.Call (.Name "max" p) (e :: es) [] pos) (SE M W' (wMaxA ca)) := by
  rw [List.all_cons, Bool.and_eq_true] at hp
  refine PE.imp (pe_callB (cr_maxG a.calm) hg hm boot_max ha (by decide +kernel) (by decide +kernel) (starEach_cons hp.1) (starEach_plain hp.2)) fun σ H Q ⟨ι, E, σE, R, rs, k⟩ => ⟨ι, E, σE, R, rs, (Rs.bind k).imp fun ws E1 h1 => fun ι1 H1 vs x1 R1 rws => ?_⟩
  obtain ⟨w, E', e, g⟩ := h1.lift
  rw [a.K]
  exact max_ok e R1 rws fun ι2 H2 u x2 => g ι2 H2 u (x1.trans x2)
end G

set_option Elab.async false
set_option linter.all false
set_option maxRecDepth 100000
set_option maxHeartbeats 4000000
namespace G
open PySem L2 PySem.Spec PyProof.Rows
section
variable {P0 : Program} {w : World} {A : Around} {E : Value → Shared → Prop} {s : Shared}

/-! ### list(enumerate(x)): the walk, whose pairs are kept -/
/-- the object of an enumerate whose last pair, at a, is kept by someone (f: it has noticed) -/
def enO (it : Addr) (i : Nat) (a : Addr) (f : Bool) (old : Value) : Obj := { cls := .type "enumerate", dict := none, data := .fields #[rawInt a, .bool f, .ref it, rawInt i, .none, old], slots := #[] }
def EnS (h : Heap) (e it S : Addr) (i : Nat) : Prop :=
  (i = 0 ∧ ∃ old, IsEnum h e it 0 old) ∨ ∃ a f old oa, h.get? e = some (enO it i a f old) ∧ h.get? a = some oa ∧ a ≠ e ∧ a ≠ it ∧ a ≠ S
theorem en_out {e it a : Addr} {fp : List Addr} {n i : Nat} {P : Nat → Value → Prop} {St : Nat → Heap → Prop} {old : Value} {f : Bool} {oa : Obj} {Q : Option Value → Shared → Prop}
    (D : Draws P0 w A.in1 it fp n P St) (he : s.heap.get? e = some (enO it i a f old)) (ha : s.heap.get? a = some oa) (hae : a ≠ e) (hai : a ≠ it) (hst : St i s.heap) (hlt : i < n) (hne : e ≠ it) (hef : e ∉ fp)
    (hQ : ∀ x h' tk, P i x → h'.get? e = some (enO it (i + 1) a true old) → St (i + 1) h' → h'.get? s.heap.objs.size = some { cls := .type "tuple", data := .seq #[.int i tk, x] } → h'.objs.size = s.heap.objs.size + 1 →
      (∀ b o, b ≠ e → b ≠ it → s.heap.get? b = some o → h'.get? b = some o) → Q (some (.ref s.heap.objs.size)) { s with heap := h', toks := tk + 1 }) :
    wpAny (model P0 w) A (pyNext (.ref e)) Q E s := by
  obtain ⟨h0, gn, dr, t0, os⟩ := s
  have hT : Shared.TypeIs ⟨h0, gn, dr, t0, os⟩ (.ref e) "enumerate" := ⟨_, he, rfl⟩
  unfold pyNext
  refine wpAny_bind (wpAny_attempt (wpAny_callSpecial?_slot (name := Str.ofString "__next__") hT F.slot_enumerate_next (wpAny_call_entry F.slot_enumerate_next hT F.entry_enumerate_next ?_ (F.args_enumerate_next_1 _))))
  have lte : e < h0.objs.size := Heap.lt_size he
  refine wpAny_bind (wpAny_pure ?_)
  refine wpAny_bind (wpAny_field he rfl (x := .ref it) rfl ?_)
  refine wpAny_bind (D.item i _ _ _ hlt hst fun x h1 tk px st1 sb1 => ?_)
  replace sb1 : Heap.SameBut it h0 h1 := sb1
  have e1 : h1.get? e = some (enO it i a f old) := (sb1.2 e hne).trans he
  refine wpAny_bind (wpAny_field (s := ⟨h1, gn, dr, tk, os⟩) e1 rfl (x := rawInt i) rfl ?_)
  refine wpAny_bind (wpAny_field (s := ⟨h1, gn, dr, tk, os⟩) e1 rfl (x := .none) rfl ?_)
  refine wpAny_bind (m := mkInt i) (wpAny_mkInt ?_)
  refine wpAny_bind (wpAny_setField_rec (s := ⟨h1, gn, dr, tk + 1, os⟩) e1 (by simp) fun h2 e2 sb2 => ?_)
  replace sb2 : Heap.SameBut e h1 h2 := sb2
  replace e2 : h2.get? e = some (enO it (i + 1) a f old) := by
    have z : ((i + 1 : Nat) : Int) = (i : Int) + 1 := by omega
    unfold enO; rw [z]; simpa [rawInt, enO] using e2
  refine wpAny_bind (wpAny_setField_rec (s := ⟨h2, gn, dr, tk + 1, os⟩) e2 (by simp) fun h3 e3 sb3 => ?_)
  replace sb3 : Heap.SameBut e h2 h3 := sb3
  replace e3 : h3.get? e = some (enO it (i + 1) a f old) := e3
  refine wpAny_bind (m := newTuple [.int i tk, x]) (wpAny_newTuple ?_)
  show wpAny _ _ (Builtin.SmallTypes.ownedTupleIsFree (.ref e) >>= _) _ _ ⟨h3.push { cls := .type "tuple", data := .seq #[.int i tk, x] }, gn, dr, tk + 1, os⟩
  have e4 : (h3.push { cls := .type "tuple", data := .seq #[.int i tk, x] }).get? e = some (enO it (i + 1) a f old) := Heap.get?_push_of_some _ e3
  generalize q4 : h3.push { cls := .type "tuple", data := .seq #[.int i tk, x] } = h4 at e4 ⊢
  have sz3 : h3.objs.size = h0.objs.size := by rw [sb3.1, sb2.1, sb1.1]
  have tup4 : h4.get? h0.objs.size = some { cls := .type "tuple", data := .seq #[.int i tk, x] } := by rw [← q4, ← sz3]; exact Heap.get?_push_size _ rfl
  have sz4 : h4.objs.size = h0.objs.size + 1 := by rw [← q4, Heap.size_push, sz3]
  have kp4 : ∀ b o, b ≠ e → b ≠ it → h0.get? b = some o → h4.get? b = some o := fun b o n1 n2 z => by
    rw [← q4]
    exact Heap.get?_push_of_some _ (sb3.extBut b o n1 (sb2.extBut b o n1 (sb1.extBut b o n2 z)))
  have st4 : St (i + 1) h4 := D.frame _ _ _ st1 fun b hb o y => by
    have n1 : b ≠ e := fun z => hef (z ▸ hb)
    rw [← q4]
    exact Heap.get?_push_of_some _ (sb3.extBut b o n1 (sb2.extBut b o n1 y))
  rw [sz3]
  clear q4 e3 sb3 e2 sb2 e1 sb1 st1 sz3 h3 h2 h1
  have a4 : h4.get? a = some oa := kp4 a oa hae hai ha
  have fin : ∀ h5 : Heap, h5.get? e = some (enO it (i + 1) a true old) → Heap.SameBut e h4 h5 → Q (some (.ref h0.objs.size)) ⟨h5, gn, dr, tk + 1, os⟩ := fun h5 e5 sb5 =>
    hQ x h5 tk px e5 (D.frame _ _ _ st4 fun b hb o y => sb5.extBut b o (fun z => hef (z ▸ hb)) y) (sb5.extBut _ _ (Nat.ne_of_gt lte) tup4) (by show h5.objs.size = h0.objs.size + 1; rw [sb5.1, sz4]) fun b o n1 n2 y => sb5.extBut b o n1 (kp4 b o n1 n2 y)
  refine wpAny_bind (m := Builtin.SmallTypes.ownedTupleIsFree (.ref e)) ?_
  unfold Builtin.SmallTypes.ownedTupleIsFree
  refine wpAny_bind (wpAny_field (s := ⟨h4, gn, dr, tk + 1, os⟩) e4 rfl (x := rawInt a) rfl ?_)
  show wpAny _ _ (loadIfAlive ((a : Int).toNat) >>= _) _ _ _
  rw [Int.toNat_natCast]
  refine wpAny_bind (PySem.W.kdx_alive a4 ?_)
  simp only [Option.isNone_some, Bool.false_eq_true, if_false]
  refine wpAny_bind (wpAny_field (s := ⟨h4, gn, dr, tk + 1, os⟩) e4 rfl (x := .bool f) rfl ?_)
  cases f with
  | true =>
    rw [if_neg (show ¬ ((Value.bool true != Value.bool true) = true) from Bool.false_ne_true)]
    refine wpAny_pure ?_
    simp only [Bool.false_eq_true, if_false]
    exact wpAny_pure ⟨_, rfl, wpAny_pure (fin h4 e4 (Heap.SameBut.refl _ _))⟩
  | false =>
    rw [if_pos (show (Value.bool false != Value.bool true) = true from rfl)]
    refine wpAny_bind (wpAny_setField_rec (s := ⟨h4, gn, dr, tk + 1, os⟩) e4 (by simp) fun h5 e5 sb5 => ?_)
    refine wpAny_pure ?_
    simp only [Bool.false_eq_true, if_false]
    exact wpAny_pure ⟨_, rfl, wpAny_pure (fin h5 e5 sb5)⟩
theorem en_end {e it a : Addr} {fp : List Addr} {n i : Nat} {P : Nat → Value → Prop} {St : Nat → Heap → Prop} {old : Value} {f : Bool} {Q : Option Value → Shared → Prop}
    (D : Draws P0 w A.in1 it fp n P St) (he : s.heap.get? e = some (enO it i a f old)) (hst : St n s.heap) (hQ : ∀ h', Heap.ExtBut it s.heap h' → Q none { s with heap := h' }) : wpAny (model P0 w) A (pyNext (.ref e)) Q E s := by
  have hT : s.TypeIs (.ref e) "enumerate" := ⟨_, he, rfl⟩
  unfold pyNext
  refine wpAny_bind (wpAny_attempt (wpAny_callSpecial?_slot (name := Str.ofString "__next__") hT F.slot_enumerate_next (wpAny_call_entry F.slot_enumerate_next hT F.entry_enumerate_next ?_ (F.args_enumerate_next_1 _))))
  refine wpAny_bind (wpAny_pure ?_)
  refine wpAny_bind (wpAny_field he rfl (x := .ref it) rfl ?_)
  refine wpAny_bind (D.done _ _ _ hst fun h' x k1 ⟨o, ho, hc⟩ => ?_)
  exact wpAny_bind (wpAny_isInstance (T := "StopIteration") (b := true) ⟨o, ho, hc⟩ isSubtype_stop (wpAny_pure (hQ _ k1)))
theorem EnS.keep {h h' : Heap} {e it S : Addr} {i : Nat} (x : EnS h e it S i) (k : ∀ b o, b ≠ S → h.get? b = some o → h'.get? b = some o) (ne : e ≠ S) : EnS h' e it S i := by
  rcases x with ⟨z, old, q⟩ | ⟨a, f, old, oa, q, qa, n1, n2, n3⟩
  · exact .inl ⟨z, old, k _ _ ne q⟩
  · exact .inr ⟨a, f, old, oa, k _ _ ne q, k _ _ n3 qa, n1, n2, n3⟩
theorem en_item {e it S : Addr} {fp : List Addr} {n i : Nat} {P : Nat → Value → Prop} {St : Nat → Heap → Prop} {Q : Option Value → Shared → Prop}
    (D : Draws P0 w A.in1 it fp n P St) (x : EnS s.heap e it S i) (hS : S < s.heap.objs.size) (hit : it < s.heap.objs.size) (hst : St i s.heap) (hlt : i < n) (hne : e ≠ it) (hef : e ∉ fp)
    (hQ : ∀ x h' tk, P i x → EnS h' e it S (i + 1) → St (i + 1) h' → h'.get? s.heap.objs.size = some { cls := .type "tuple", data := .seq #[.int i tk, x] } → h'.objs.size = s.heap.objs.size + 1 →
      (∀ b o, b ≠ e → b ≠ it → s.heap.get? b = some o → h'.get? b = some o) → Q (some (.ref s.heap.objs.size)) { s with heap := h', toks := tk + 1 }) :
    wpAny (model P0 w) A (pyNext (.ref e)) Q E s := by
  rcases x with ⟨rfl, old, q⟩ | ⟨a, f, old, oa, q, qa, n1, n2, n3⟩
  · refine wpAny_pyNext_enum_itemD D q hst hlt hne hef fun x h' tk px o1 st tup sz k => hQ x h' tk px (.inr ⟨s.heap.objs.size, false, x, _, ?_, tup, Nat.ne_of_gt (Heap.lt_size q), Nat.ne_of_gt hit, Nat.ne_of_gt hS⟩) st tup sz k
    simpa [enO] using o1
  · exact en_out D q qa n1 n2 hst hlt hne hef fun x h' tk px o1 st tup sz k => hQ x h' tk px (.inr ⟨a, true, old, oa, o1, k a oa n1 n2 qa, n1, n2, n3⟩) st tup sz k
theorem en_done {e it S : Addr} {fp : List Addr} {n : Nat} {P : Nat → Value → Prop} {St : Nat → Heap → Prop} {Q : Option Value → Shared → Prop}
    (D : Draws P0 w A.in1 it fp n P St) (x : EnS s.heap e it S n) (hst : St n s.heap) (hQ : ∀ h', Heap.ExtBut it s.heap h' → Q none { s with heap := h' }) : wpAny (model P0 w) A (pyNext (.ref e)) Q E s := by
  rcases x with ⟨z, old, q⟩ | ⟨a, f, old, oa, q, qa, n1, n2, n3⟩
  · exact wpAny_pyNext_enum_endD D q hst hQ
  · exact en_end D q hst hQ
/-- the pairs so far -/
structure EnG (P : Nat → Value → Prop) (lo : Addr) (h : Heap) (as : List Addr) : Prop where
  up : as.Pairwise (· < ·)
  ab : ∀ a ∈ as, lo < a
  is : ∀ (j : Nat) (a : Addr), as[j]? = some a → ∃ t x, P j x ∧ h.get? a = some { cls := .type "tuple", data := .seq #[.int j t, x] }
theorem EnG.lt {P : Nat → Value → Prop} {lo : Addr} {h : Heap} {as : List Addr} (g : EnG P lo h as) {a : Addr} (ha : a ∈ as) : a < h.objs.size := by
  obtain ⟨j, hj⟩ := List.mem_iff_getElem?.mp ha
  obtain ⟨_, _, _, z⟩ := g.is j a hj
  exact Heap.lt_size z
theorem en_loop {R : Result → Shared → Prop} {S e it : Addr} {fp : List Addr} {n : Nat} {P : Nat → Value → Prop} {St : Nat → Heap → Prop} (D : Draws P0 w A.in1.in1 it fp n P St) (heS : e < S) (hie : it < e) (hSi : S ≠ it) (hSf : S ∉ fp) (hef : e ∉ fp) (hn : n ≤ sizeLine) (res : Value) {h₁ : Heap}
    (hR : ∀ h' tk acc c as, (∀ b o, b ≠ S → b ≠ e → b ≠ it → h₁.get? b = some o → h'.get? b = some o) → h'.get? S = some { cls := .type "list", dict := none, data := .seq acc c, slots := #[] } → as.length = n → EnG P S h' as →
      acc.toList = as.map Value.ref → R (.ok (.ret res)) { s with heap := h', toks := tk }) :
    ∀ (k i : Nat) (h : Heap) (tk c : Nat) (acc : Array Value) (as : List Addr), n - i = k → i ≤ n → EnS h e it S i → St i h → (∀ b o, b ≠ S → b ≠ e → b ≠ it → h₁.get? b = some o → h.get? b = some o) →
      h.get? S = some { cls := .type "list", dict := none, data := .seq acc c, slots := #[] } → acc.toList = as.map Value.ref → as.length = i → EnG P S h as →
      codeAny (model P0 w) A (.builtin "list.extend.loop" ⟨[.ref S, .ref e, res], []⟩) R { s with heap := h, toks := tk } := by
  have nSe : S ≠ e := Nat.ne_of_gt heS
  have nei : e ≠ it := Nat.ne_of_gt hie
  intro k
  induction k with
  | zero =>
    intro i h tk c acc as hk hi x st kp hS ha hl g
    obtain rfl : i = n := by omega
    refine codeAny_builtin PySem.F.entry_extend_loop ?_
    rw [Around.under_plainId PySem.F.plain_extend_loop _]
    refine wpAny_bind (m := pyNext (.ref e)) (en_done (s := { s with heap := h, toks := tk }) (A := A.in1) D x st fun h' z => ?_)
    refine wpAny_pure (hR h' tk acc c as (fun b o n1 n2 n3 q => z b o n3 (kp b o n1 n2 n3 q)) (z S _ hSi hS) hl ⟨g.up, g.ab, fun j a hj => ?_⟩ ha)
    obtain ⟨t, y, py, q⟩ := g.is j a hj
    exact ⟨t, y, py, z a _ (Nat.ne_of_gt (Nat.lt_trans hie (Nat.lt_trans heS (g.ab a (List.mem_of_getElem? hj))))) q⟩
  | succ k ih =>
    intro i h tk c acc as hk hi x st kp hS ha hl g
    have hlt : i < n := by omega
    have sz : acc.size = i := by rw [← Array.length_toList, ha, List.length_map, hl]
    refine codeAny_builtin PySem.F.entry_extend_loop ?_
    rw [Around.under_plainId PySem.F.plain_extend_loop _]
    refine wpAny_bind (m := pyNext (.ref e)) (en_item (s := { s with heap := h, toks := tk }) (A := A.in1) (S := S) D x (Heap.lt_size hS) (Nat.lt_trans (Nat.lt_trans hie heS) (Heap.lt_size hS)) st hlt nei hef fun y h' t py x' st' tup sz' kp' => ?_)
    dsimp only at tup sz' kp' ⊢
    have hS' := kp' S _ nSe hSi hS
    have upS : ∀ b o, b ≠ S → h'.get? b = some o → (h'.update S (Obj.mapSeq (·.push (Value.ref h.objs.size)))).get? b = some o := fun b o n1 q => (Heap.get?_update_other _ _ (Ne.symm n1)).trans q
    have ltS : S < h.objs.size := Heap.lt_size hS
    refine wpAny_bind (m := updateSeq S (·.push (Value.ref h.objs.size))) ?_
    refine wpAny_updateSeq (s := { s with heap := h', toks := t + 1 }) hS' rfl (wpAny_pure ⟨plainId_quiet PySem.F.plain_extend_loop _, ih (i + 1) _ (t + 1) _ (acc.push (Value.ref h.objs.size)) (as ++ [h.objs.size]) (by omega) hlt (x'.keep upS nSe.symm)
      (D.frame _ _ _ st' fun b hb o q => upS b o (fun z => hSf (z ▸ hb)) q) (fun b o n1 n2 n3 q => upS b o n1 (kp' b o n2 n3 (kp b o n1 n2 n3 q))) (Heap.get?_update_self _ hS' rfl) (by rw [Array.toList_push, ha, List.map_append]; rfl) (by rw [List.length_append, hl]; rfl) ⟨?_, ?_, ?_⟩⟩) (by rw [sz]; omega)
      (by show (acc.push (Value.ref h.objs.size)).size ≤ sizeLine + 1; rw [Array.size_push, sz]; omega)
    · exact List.pairwise_append.mpr ⟨g.up, List.pairwise_singleton _ _, fun a h1 b h2 => by rw [List.mem_singleton.mp h2]; exact g.lt h1⟩
    · intro a h1
      rcases List.mem_append.mp h1 with h1 | h1
      · exact g.ab a h1
      · rw [List.mem_singleton.mp h1]; exact Heap.lt_size hS
    · intro j b hj
      by_cases h1 : j < as.length
      · rw [List.getElem?_append_left h1] at hj
        obtain ⟨t', y', py', q⟩ := g.is j b hj
        have gb := g.ab b (List.mem_of_getElem? hj)
        exact ⟨t', y', py', upS b _ (Nat.ne_of_gt gb) (kp' b _ (Nat.ne_of_gt (Nat.lt_trans heS gb)) (Nat.ne_of_gt (Nat.lt_trans hie (Nat.lt_trans heS gb))) q)⟩
      · have h2 : j = i := by
          have z := (List.getElem?_eq_some_iff.mp hj).1
          rw [List.length_append, List.length_singleton] at z
          omega
        subst h2
        rw [List.getElem?_append_right (by omega), hl, Nat.sub_self] at hj
        obtain rfl : h.objs.size = b := by simpa using hj
        exact ⟨t, y, py, upS _ _ (Nat.ne_of_gt ltS) tup⟩
end
end G

set_option Elab.async false
set_option linter.all false
set_option maxRecDepth 100000
set_option maxHeartbeats 4000000
namespace G
open PySem L2 PySem.Spec PyProof.Rows
theorem en_nolen : typeLookup (.type "enumerate") "__len__" = pure none := by rw [typeLookup_type, builtinLookup_eq_fast]; kernel_rfl
theorem en_nohint : typeLookup (.type "enumerate") "__length_hint__" = pure none := by rw [typeLookup_type, builtinLookup_eq_fast]; kernel_rfl
section
variable {P0 : Program} {w : World} {A : Around} {E : Value → Shared → Prop} {s : Shared}
theorem en_hint {e : Addr} {Q : Bool → Shared → Prop} (hT : s.TypeIs (.ref e) "enumerate") (h : Q true s) : wpAny (model P0 w) A (Builtin.List.listLengthHint (.ref e)) Q E s := by
  unfold Builtin.List.listLengthHint
  refine wpAny_bind (wpAny_specialOf hT en_nolen ?_)
  refine PySem.W.KFB.if_not rfl ?_
  refine PySem.W.KFB.if_not rfl ?_
  refine wpAny_bind (wpAny_specialOf hT en_nohint ?_)
  exact wpAny_pure h
theorem EnS.type {e it S : Addr} {i : Nat} (x : EnS s.heap e it S i) : s.TypeIs (.ref e) "enumerate" := by
  rcases x with ⟨_, _, q⟩ | ⟨_, _, _, _, q, _⟩
  · exact ⟨_, q, rfl⟩
  · exact ⟨_, q, rfl⟩
theorem en_list {e it : Addr} {fp : List Addr} {n : Nat} {P : Nat → Value → Prop} {St : Nat → Heap → Prop} {old : Value} {Q : Value → Shared → Prop} (D : Draws P0 w A.in1.in1.in1 it fp n P St) (he : IsEnum s.heap e it 0 old) (hst : St 0 s.heap) (hie : it < e) (hef : e ∉ fp) (hfp : ∀ b ∈ fp, b < s.heap.objs.size) (hn : n ≤ sizeLine)
    (hQ : ∀ h' tk acc c as, (∀ b o, b ≠ e → b ≠ it → s.heap.get? b = some o → h'.get? b = some o) → h'.get? s.heap.objs.size = some { cls := .type "list", dict := none, data := .seq acc c, slots := #[] } → as.length = n → EnG P s.heap.objs.size h' as →
      acc.toList = as.map Value.ref → Q (.ref s.heap.objs.size) { s with heap := h', toks := tk }) :
    wpAny (model P0 w) A (call (.type "list") [.ref e]) Q E s := by
  have lte : e < s.heap.objs.size := Heap.lt_size he
  refine callType_codes (Q₁ := fun obj s₁ => obj = .ref s.heap.objs.size ∧ s₁ = { s with heap := s.heap.push { cls := .type "list", data := .seq #[] } }) PySem.F.called_list (PySem.F.typeCall_list_1 _) PySem.F.entry_list_init (code_list_new _ ⟨rfl, rfl⟩) fun obj s₁ h₁ => ?_
  obtain ⟨rfl, rfl⟩ := h₁
  have hS : (s.heap.push { cls := .type "list", data := .seq #[] }).get? s.heap.objs.size = some { cls := .type "list", data := .seq #[] } := Heap.get?_push_size _ rfl
  refine ⟨⟨_, hS, rfl⟩, PySem.F.args_list_init_2 _ _, ?_⟩
  have neS : e ≠ s.heap.objs.size := Nat.ne_of_lt lte
  have nfS : s.heap.objs.size ∉ fp := fun z => Nat.lt_irrefl _ (hfp _ z)
  show wpAny _ _ (do let old ← Builtin.List.listItems (.ref s.heap.objs.size); Builtin.List.listUpdate (.ref s.heap.objs.size) (fun _ => #[]); letGo old.toList.reverse; Builtin.List.listExtendWith (.ref s.heap.objs.size) (.ref e) .none) _ _ _
  refine wpAny_bind ?_
  unfold Builtin.List.listItems
  refine wpAny_bind (wpAny_seqItems hS rfl (wpAny_pure ?_))
  show wpAny _ _ (updateSeq s.heap.objs.size (fun _ => #[]) >>= fun _ => letGo (#[] : Array Value).toList.reverse >>= fun _ => Builtin.List.listExtendWith (.ref s.heap.objs.size) (.ref e) .none) _ _ _
  refine wpAny_bind (wpAny_updateSeq hS rfl ?_)
  have hS2 := Heap.get?_update_self (Obj.mapSeq (fun _ => (#[] : Array Value))) hS rfl
  have k2 : ∀ b o, b ≠ s.heap.objs.size → s.heap.get? b = some o → ((s.heap.push { cls := .type "list", data := .seq #[] }).update s.heap.objs.size (Obj.mapSeq (fun _ => (#[] : Array Value)))).get? b = some o := fun b o nb q => (Heap.get?_update_other _ _ (Ne.symm nb)).trans (Heap.get?_push_of_some _ q)
  generalize (s.heap.push { cls := .type "list", data := .seq #[] }).update s.heap.objs.size (Obj.mapSeq (fun _ => (#[] : Array Value))) = h2 at hS2 k2 ⊢
  refine wpAny_bind (wpAny_letGo ?_)
  have e2 : IsEnum h2 e it 0 old := k2 _ _ neS he
  have T2 : Shared.TypeIs { s with heap := h2 } (.ref e) "enumerate" := ⟨_, e2, rfl⟩
  have st2 : St 0 h2 := D.frame _ _ _ hst fun b hb o q => k2 b o (fun z => nfS (z ▸ hb)) q
  unfold Builtin.List.listExtendWith
  refine wpAny_bind (wpAny_typeOf T2 ?_)
  have ns : Builtin.List.listSameRef (.ref s.heap.objs.size) (.ref e) = false := by simp [Builtin.List.listSameRef, Ne.symm neS]
  have nl : (Value.type "enumerate" == Value.type "list") = false := by decide
  have nt : (Value.type "enumerate" == Value.type "tuple") = false := by decide
  simp only [ns, nl, nt, Bool.or_false, Bool.false_eq_true, if_false]
  refine wpAny_bind (wpAny_pyIter_enum e2 ?_)
  have hit : it < s.heap.objs.size := Nat.lt_trans hie lte
  have go : ∀ (h : Heap) (c tk : Nat), EnS h e it s.heap.objs.size 0 → St 0 h → (∀ b o, b ≠ s.heap.objs.size → h2.get? b = some o → h.get? b = some o) → h.get? s.heap.objs.size = some { cls := .type "list", data := .seq #[] c } →
      codeAny (model P0 w) A.in1 (.builtin "list.extend.loop" ⟨[.ref s.heap.objs.size, .ref e, .none], []⟩) (wants (fun r s₂ => r = Value.none ∧ Q (Value.ref s.heap.objs.size) s₂) E) { s with heap := h, toks := tk } := fun h c tk x st kp hSx =>
    en_loop (A := A.in1) D lte hie (Nat.ne_of_gt hit) nfS hef hn .none (h₁ := h2) (fun h' tk' acc c' as kk hS' hl g ha => ⟨rfl, hQ h' tk' acc c' as (fun b o n1 n2 q => kk b o (Nat.ne_of_lt (Heap.lt_size q)) n1 n2 (k2 b o (Nat.ne_of_lt (Heap.lt_size q)) q)) hS' hl g ha⟩)
      n 0 h tk c #[] [] (by omega) (Nat.zero_le _) x st (fun b o n1 n2 n3 q => kp b o n1 q) hSx rfl rfl ⟨.nil, fun a ha => (by simp at ha), fun j a hj => (by simp at hj)⟩
  refine wpAny_bind (wpAny_holding (en_hint T2 ?_))
  refine wpAny_ite_split (fun _ => ?_) (fun no => absurd rfl no)
  refine wpAny_bind (wpAny_rule ?_)
  refine wpAny_bind ?_
  show wpAny _ _ (updateSeq s.heap.objs.size (·.push .none) >>= fun _ => updateSeq s.heap.objs.size (·.pop)) _ _ _
  refine wpAny_bind (wpAny_updateSeq hS2 rfl ?_)
  have hS3 := Heap.get?_update_self (Obj.mapSeq (·.push Value.none)) hS2 rfl
  refine wpAny_updateSeq (hz := by seq_fits) hS3 rfl ?_
  have hS4 := Heap.get?_update_self (Obj.mapSeq (·.pop)) hS3 rfl
  have k4 : ∀ b o, b ≠ s.heap.objs.size → h2.get? b = some o → ((h2.update s.heap.objs.size (Obj.mapSeq (·.push Value.none))).update s.heap.objs.size (Obj.mapSeq (·.pop))).get? b = some o := fun b o nb q =>
    (Heap.get?_update_other _ _ (Ne.symm nb)).trans ((Heap.get?_update_other _ _ (Ne.symm nb)).trans q)
  exact wpAny_pure ⟨plainId_quiet PySem.F.plain_extend_loop _, go _ _ _ (.inl ⟨rfl, old, k4 _ _ neS e2⟩) (D.frame _ _ _ st2 fun b hb o q => k4 b o (fun z => nfS (z ▸ hb)) q) k4 hS4⟩
end
end G

set_option Elab.async false
set_option linter.all false
set_option maxRecDepth 100000
set_option maxHeartbeats 4000000
namespace G
open PySem L2 PySem.Spec PyProof.Rows
section
variable {P0 : Program} {w : World} {κ : Type} [DecidableEq κ] {knd : PySem.KeyKind P0 w κ} {A : Around} {E : Value → Shared → Prop} {s : Shared}

/-! ### {**a, **b}: a dict goes into another one -/
theorem put_one {d : Addr} {kvs : List (κ × Value)} {k : κ} {key v : Value} {Q : Unit → Shared → Prop} (hkey : knd.is k key = true) (hm : s.heap.DictOf knd d kvs) (hsz : kvs.length ≤ sizeLine)
    (hQ : ∀ h', h'.DictOf knd d (stored kvs k v) → Heap.SameBut d s.heap h' → Q () { s with heap := h' }) : wpAny (model P0 w) A (dictPut d (knd.hash k) key v) Q E s := by
  obtain ⟨o, es, ep, ho, hc, hd, hk, hp, hn⟩ := hm
  have few : es.size ≤ sizeLine := by
    have z := hp.length
    rw [Array.length_toList] at z
    omega
  unfold dictPut
  refine wpAny_bind (wpAny_dictFind_of hkey ho hd hk ?_)
  have same : (es.findIdx? fun e => knd.is k e.key) = kvs.findIdx? fun kv => decide (kv.1 = k) := by
    rw [← hp.findIdx k]
    obtain ⟨l⟩ := es
    simp
  cases hi : es.findIdx? fun e => knd.is k e.key with
  | some i =>
    refine wpAny_updateDict ho hd (hQ _ ⟨_, _, ep, Heap.get?_update_self _ ho (Obj.isFreed_of_dict (Obj.data_mapDict hd _)), hc.mapDict _, Obj.data_mapDict hd _, hk.modify _ _, ?_, ?_⟩ (Heap.SameBut.update ..))
    · rw [stored, if_pos (any_of_findIdx_some (same ▸ hi))]
      have hl : (es.toList.findIdx? fun e => knd.is k e.key) = some i := by
        rw [← hi]
        obtain ⟨l⟩ := es
        simp
      have z := hp.modify hn hl v
      obtain ⟨l⟩ := es
      simpa using z
    · rw [stored, if_pos (any_of_findIdx_some (same ▸ hi)), keys_map_store]
      exact hn
  | none =>
    have out : k ∉ kvs.map (·.1) := not_mem_of_findIdx_none (same ▸ hi)
    have no : ¬ (kvs.any fun kv => decide (kv.1 = k)) = true := fun z => by
      obtain ⟨kv, m, q⟩ := List.any_eq_true.mp z
      exact out (List.mem_map.mpr ⟨kv, m, of_decide_eq_true q⟩)
    refine wpAny_updateDictKeys (hz := few) ho hd (hQ _ ⟨_, _, ep + 1, Heap.get?_update_self _ ho (Obj.isFreed_of_dict (Obj.data_mapDictKeys hd _)), hc.mapDictKeys _, Obj.data_mapDictKeys hd _, hk.push hkey _, ?_, ?_⟩ (Heap.SameBut.update ..))
    · rw [stored, if_neg no]
      have z := hp.append hkey (knd.hash k) v
      obtain ⟨l⟩ := es
      simpa using z
    · rw [stored, if_neg no, List.map_append, List.nodup_append]
      refine ⟨hn, by simp, fun a ha b hb => ?_⟩
      obtain rfl : b = k := by simpa using hb
      exact fun z => out (z ▸ ha)
theorem merge_in {d o : Addr} {kvs more : List (κ × Value)} {Q : Unit → Shared → Prop} (nr : ∀ k a, knd.is k (.ref a) = false) (hdo : d ≠ o) (hoS : (o == sysModules) = false) (hd : s.heap.DictOf knd d kvs) (ho : s.heap.DictOf knd o more) (hsz : kvs.length + more.length ≤ sizeLine)
    (hQ : ∀ h', h'.DictOf knd d (merged kvs more) → Heap.SameBut d s.heap h' → Q () { s with heap := h' }) : wpAny (model P0 w) A (mergeMapping d (.ref o) false) Q E s := by
  obtain ⟨od, esd, epd, hod, hcd, hdd, hkd, hpd, hnd⟩ := id hd
  obtain ⟨oo, es, ep, hoo, hco, hdo', hko, hpo, hno⟩ := id ho
  unfold mergeMapping
  refine wpAny_bind (wpAny_isInstance ho.typeIs isSubtype_dict_dict ?_)
  rw [if_pos rfl]
  refine wpAny_bind (wpAny_specialOf ho.typeIs F.slot_dict_iter.lookup ?_)
  rw [show (some (Value.builtin "dict.__iter__") == some (Value.builtin "dict.__iter__")) = true from by decide +kernel]
  refine wpAny_bind (wpAny_pure ?_)
  dsimp only
  rw [hoS, if_neg Bool.false_ne_true]
  have len : more.length = es.size := by rw [← hpo.length]; simp
  have keys : ∀ e ∈ es, ∀ a, e.key ≠ .ref a := fun e he a z => by
    obtain ⟨k, hk, _⟩ := hko e he
    rw [z, nr] at hk
    cases hk
  have rest : wpAny (model P0 w) A (do
      let size := (← dictEntries o).size
      let epoch ← dictEpoch o
      for i in List.range size do
        let some e := (← dictEntries o)[i]? | unsupported "dict.changed-during-merge"
        holding [e.key, e.val] do
          if false then
            if (← dictFind d e.key e.hash).isSome then rule "dict.merge.duplicate-key"; raiseNew (← newExc (.type "KeyError") [e.key])
          dictPut d e.hash e.key e.val
        if (← dictEpoch o) != epoch then unsupported "dict.changed-during-merge") Q E s := by
    refine wpAny_bind (wpAny_dictEntries hoo hdo' ?_)
    refine wpAny_bind (wpAny_dictEpoch hoo hdo' ?_)
    refine wpAny_bind ?_
    refine wpAny_forIn_list _ (fun l _ s' => ∃ h' i, s' = { s with heap := h' } ∧ l = List.range' i (es.size - i) ∧ i ≤ es.size ∧ h'.DictOf knd d (merged kvs (more.take i)) ∧ h'.get? o = some oo ∧ Heap.SameBut d s.heap h') _ ?_ ?_ _ _
      ⟨s.heap, 0, rfl, by rw [List.range_eq_range', Nat.sub_zero], Nat.zero_le _, by simpa [merged] using hd, hoo, Heap.SameBut.refl _ _⟩
    · rintro x l b s' ⟨h', i, rfl, hr, hi, hd', hoo', hs'⟩
      have lt : i < es.size := Nat.lt_of_not_ge fun z => by rw [Nat.sub_eq_zero_of_le z] at hr; simp at hr
      obtain ⟨rfl, hl⟩ : x = i ∧ l = List.range' (i + 1) (es.size - (i + 1)) := by
        rw [show es.size - i = (es.size - (i + 1)) + 1 by omega, List.range'_succ] at hr
        exact List.cons.inj hr
      refine wpAny_bind (wpAny_dictEntries hoo' hdo' ?_)
      rw [Array.getElem?_eq_getElem lt]
      obtain ⟨⟨k, v⟩, hkv⟩ : ∃ kv, more[x]? = some kv := ⟨more[x]'(by rw [len]; exact lt), List.getElem?_eq_getElem _⟩
      obtain ⟨hkey, hval⟩ := hpo.get? (e := es[x]) (by simp [lt]) hkv
      obtain ⟨k', hkey', hhash⟩ := hko es[x] (Array.getElem_mem lt)
      obtain rfl : k' = k := knd.inj _ _ _ hkey' hkey
      dsimp only
      rw [hhash, hval]
      have mx : (merged kvs (more.take x)).length ≤ sizeLine := by
        have e1 := merged_length_le kvs (more.take x)
        have e2 : (more.take x).length ≤ more.length := by rw [List.length_take]; omega
        omega
      refine wpAny_bind (wpAny_holding ?_)
      simp only [Bool.false_eq_true, if_false]
      first
        | refine put_one (s := { s with heap := h' }) hkey hd' mx fun h2 hd2 sb2 => ?_
        | refine wpAny_bind (wpAny_pure (put_one (s := { s with heap := h' }) hkey hd' mx fun h2 hd2 sb2 => ?_))
      have hoo2 : h2.get? o = some oo := (sb2.2 o (Ne.symm hdo)).trans hoo'
      refine wpAny_bind (wpAny_dictEpoch hoo2 hdo' ?_)
      rw [if_neg (by simp)]
      exact wpAny_pure ⟨h2, x + 1, rfl, hl, lt, by rw [merged_take_succ kvs more x (k', v) hkv]; exact hd2, hoo2, hs'.trans sb2⟩
    · rintro b s' ⟨h', i, rfl, hr, hi, hd', hoo', hs'⟩
      have hin : i = es.size := Nat.le_antisymm hi (Nat.le_of_not_lt fun z => by
        rw [show es.size - i = (es.size - (i + 1)) + 1 by omega, List.range'_succ] at hr
        cases hr)
      refine wpAny_pure (hQ h' ?_ hs')
      rw [hin, ← len, List.take_length] at hd'
      exact hd'
  refine wpAny_bind (wpAny_dictEntries hod hdd ?_)
  by_cases he : esd.isEmpty = true
  · rw [if_pos he]
    refine wpAny_bind (wpAny_dictEntries hoo hdo' ?_)
    refine wpAny_bind ?_
    refine PySem.MeetsSeq2.wpAny_forIn_array _ (fun l _ s' => s' = s ∧ ∀ e ∈ l, e ∈ es) _ ?_ ?_ _ _ ⟨rfl, fun e he => by simpa using he⟩
    · rintro e l b s' ⟨rfl, hl⟩
      have ne := keys e (hl e List.mem_cons_self)
      split
      · rename_i a z
        exact absurd z (ne a)
      · exact wpAny_pure ⟨rfl, fun e' h' => hl e' (List.mem_cons_of_mem _ h')⟩
    · rintro b s' ⟨rfl, _⟩
      exact rest
  · rw [if_neg he]
    exact rest
end
end G

set_option Elab.async false
set_option linter.all false
set_option maxRecDepth 100000
set_option maxHeartbeats 4000000
namespace G
open PySem L2 PySem.Spec PyProof.Rows
theorem dd_two {M : PySem.Model} {A : Around} {E : Value → Shared → Prop} {s : Shared} {v1 v2 : Sem Value} {Q : Value → Shared → Prop}
    (h : wpAny M A v1 (fun m1 s1 => wpAny M A (mergeMapping s.heap.objs.size m1 false) (fun _ s2 => wpAny M A v2 (fun m2 s3 => wpAny M A (mergeMapping s.heap.objs.size m2 false) (fun _ s4 => Q (.ref s.heap.objs.size) s4) (fun _ _ => False) s3) E s2) (fun _ _ => False) s1) E
      { s with heap := s.heap.push { cls := .type "dict", data := .dict #[] } }) : wpAny M A (dictDisplay [(none, v1), (none, v2)]) Q E s := by
  have no : ∀ {α : Type} {m : Sem α} {Q : α → Shared → Prop} {E : Value → Shared → Prop} {s : Shared}, wpAny M A m Q (fun _ _ => False) s → wpAny M A m Q E s := fun h => wpAny_mono h (fun _ _ x => x) fun _ _ x => x.elim
  unfold dictDisplay
  refine wpAny_bind ?_
  rw [List.forIn_cons]
  refine wpAny_bind ?_
  refine wpAny_bind (wpAny_pure ?_)
  refine wpAny_bind (wpAny_alloc ?_)
  refine wpAny_bind (wpAny_holding (wpAny_mono h (fun m1 s1 h1 => ?_) fun _ _ x => x))
  refine wpAny_bind (wpAny_onRaise (wpAny_tryCatch (wpAny_onRaise (wpAny_holding (no (wpAny_mono h1 (fun _ s2 h2 => ?_) fun _ _ x => x))))))
  refine wpAny_pure ?_
  dsimp only
  rw [List.forIn_cons]
  refine wpAny_bind ?_
  refine wpAny_bind (wpAny_pure ?_)
  refine wpAny_bind (wpAny_pure ?_)
  refine wpAny_bind (wpAny_holding (wpAny_mono h2 (fun m2 s3 h3 => ?_) fun _ _ x => x))
  refine wpAny_bind (wpAny_onRaise (wpAny_tryCatch (wpAny_onRaise (wpAny_holding (no (wpAny_mono h3 (fun _ s4 h4 => ?_) fun _ _ x => x))))))
  refine wpAny_pure ?_
  dsimp only
  rw [List.forIn_nil]
  refine wpAny_pure ?_
  refine wpAny_bind (wpAny_pure ?_)
  exact wpAny_pure h4
end G

set_option Elab.async false
set_option linter.all false
set_option maxRecDepth 100000
set_option maxHeartbeats 4000000
namespace G
open PySem L2 PySem.Spec PyProof.Rows
variable {M : Md} {H H' H1 H2 : Hp} {ι ι' ι1 ι2 : List Addr} {X : Cx} {W' : WX}

/-! ### {**a, **b}: the rule -/
def mrgW (kvs more : List (Key × W)) : List (Key × W) := more.foldl (fun acc p => putKW acc p.1 p.2) kvs
theorem mrgW_ok : ∀ {more kvs : List (Key × W)} {vs us : List V}, RelWs M H ι (kvs.map (·.2)) vs → RelWs M H ι (more.map (·.2)) us →
    ∃ rs, mergeK ((kvs.map (·.1)).zip vs) ((more.map (·.1)).zip us) = ((mrgW kvs more).map (·.1)).zip rs ∧ RelWs M H ι ((mrgW kvs more).map (·.2)) rs
  | [], kvs, vs, us, r, q => ⟨vs, rfl, r⟩
  | (k, w) :: more, kvs, vs, us, r, q => by
    obtain ⟨u, us', rfl, q1, q2⟩ := q
    obtain ⟨zs, e, rz⟩ := putKW_ok (k := k) q1 r
    obtain ⟨rs, e2, rr⟩ := mrgW_ok (more := more) rz q2
    refine ⟨rs, ?_, rr⟩
    rw [← e] at e2
    exact e2
theorem putKW_len (kvs : List (Key × W)) (k : Key) (w : W) : (putKW kvs k w).length ≤ kvs.length + 1 := by
  unfold putKW
  split
  · rw [List.length_map]; omega
  · rw [List.length_append]; exact Nat.le_refl _
def mrgO (E : Hh) (d : Nat) (x : W) : Option Hh := match dKOf E (.ref d), dKOf E x with
  | some (_, kvs), some (i, more) => if kvs.length + more.length ≤ few ∧ i ≠ d then some (E.set d (.dK (mrgW kvs more))) else none
  | _, _ => none
theorem zipK_len {κ : Type} {kvs : List (κ × W)} {vs : List V} (r : RelWs M H ι (kvs.map (·.2)) vs) : ((kvs.map (·.1)).zip vs).length = kvs.length := by
  have z := r.length
  rw [List.length_map] at z
  rw [List.length_zip, List.length_map, ← z, Nat.min_self]
theorem mix_noref {P : Program} {w : World} : ∀ k a, (mixKind P w).is k (.ref a) = false := fun k a => by
  cases e : (mixKind P w).is k (.ref a) with
  | false => rfl
  | true =>
    rcases keyIs_shape (show keyIs k (.ref a) = true from e) with ⟨_, _, _, z⟩ | ⟨_, _, _, z⟩ <;> cases z
theorem mrg_step {pins : List (Addr × Obj)} {σ : L2.St} {s : Shared} {E E2 : Hh} {d : Nat} {p : Addr} {x : W} {v : V} {u : Value} {Q : Unit → Shared → Prop} {Ex : Value → Shared → Prop} (I : Inv X pins σ H s) (R : Rel M ι E H) (rx : RelW M H ι x v) (ru : RelV v u) (hp : ι[d]? = some p)
    (h : mrgO E d x = some E2) (q : ∀ s2 H2, Inv X pins σ H2 s2 → Ext M ι H ι H2 → Rel M ι E2 H2 → Q () s2) : wpAny (model X.prog X.w) X.A (mergeMapping p u false) Q Ex s := by
  unfold mrgO at h
  split at h
  · rename_i j kvs i more e1 e2
    split at h
    · rename_i hc
      obtain rfl := Option.some.inj h
      have rd : RelW M H ι (.ref d) (.ref p) := ⟨p, hp, rfl⟩
      obtain ⟨p', vs, hp', he', z, h1, r1⟩ := dK_ok R e1 rd
      obtain rfl : p = p' := V.ref.inj z
      have jd : j = d := by
        unfold dKOf at e1
        dsimp only at e1
        split at e1
        · cases e1; rfl
        · cases e1
      subst jd
      obtain ⟨o, us, ho, heo, rfl, h2, r2⟩ := dK_ok R e2 rx
      obtain rfl : u = Value.ref o := ru
      obtain ⟨z1, hd1, rs1, k1, dd1⟩ := dk_of I.hok h1
      obtain ⟨z2, hd2, rs2, k2, dd2⟩ := dk_of I.hok h2
      have ne : p ≠ o := fun z => hc.2 (R.inj i j p _ _ (z ▸ ho) hp heo he' rfl rfl)
      have l1 : rs1.length = kvs.length := by rw [← k1.length, zipK_len r1]
      have l2 : rs2.length = more.length := by rw [← k2.length, zipK_len r2]
      refine merge_in mix_noref ne hd2 dd1 dd2 (by rw [l1, l2]; exact few_le hc.1) fun h' dd' hs => ?_
      obtain ⟨ws, ew, rw'⟩ := mrgW_ok r1 r2
      have fin : mergeK ((kvs.map (·.1)).zip vs) ((more.map (·.1)).zip us) = ((mrgW kvs more).map (·.1)).zip ws := ew
      have hz : (mergeK ((kvs.map (·.1)).zip vs) ((more.map (·.1)).zip us)).length ≤ sizeLine := by
        have a1 := length_mergeK ((more.map (·.1)).zip us) ((kvs.map (·.1)).zip vs)
        rw [zipK_len r1, zipK_len r2] at a1
        exact Nat.le_trans a1 (few_le hc.1)
      have he : ∃ q, h'.get? p = some q := let ⟨q, _, _, hq, _⟩ := dd'; ⟨q, hq⟩
      have I2 := d_write (t' := s.toks) (ob := .dK (mergeK ((kvs.map (·.1)).zip vs) ((more.map (·.1)).zip us))) I (by rw [h1]; exact True.intro) hs he (dk_new hz hd1 (k2.merge k1) dd')
      obtain ⟨R', x'⟩ := Rel.put (o := .dK (mrgW kvs more)) (ho := .dK (mergeK ((kvs.map (·.1)).zip vs) ((more.map (·.1)).zip us))) R hp he' rfl (fun q hq => by rw [h1] at hq; cases hq; exact ⟨fun _ z => (nomatch z), fun _ _ z => (nomatch z)⟩) rfl
        fun x => ⟨ws, by rw [upd_same, fin], rw'.ext x⟩
      exact q _ _ I2 x' R'
    · cases h
  · cases h
def ddA (ca cb : Act W) : Act W := fun σ E => andThen (ca σ (E ++ [.dK []])) fun x E1 => match mrgO E1 E.length x with
  | some E2 => andThen (cb σ E2) fun y E3 => match mrgO E3 E.length y with
    | some E4 => some (.ok (.ref E.length) E4)
    | none => none
  | none => none
theorem pe_ddG {a b : Expr} {ca cb : Act W} {pos : Pos} (ha : PE X a (SE M W' ca)) (hb : PE X b (SE M W' cb)) : PE X (.Dict [none, none] [a, b] pos) (SE M W' (ddA ca cb)) := by
  refine ⟨fun pins s σ H Q I ⟨ι, E, σE, R, rs, k⟩ => ?_⟩
  show wpAny _ _ (standAt pos >>= fun _ => dictDisplay [(none, (do let x ← eval a X.env; standAt pos; pure x)), (none, (do let x ← eval b X.env; standAt pos; pure x))]) _ _ s
  refine wpAny_bind (wpAny_standAt (dd_two ?_))
  have hn := I.hok.fresh (Nat.le_refl s.heap.objs.size)
  have I0 := I.laid (a := s.heap.objs.size) (o := .dK []) (h' := s.heap.push { cls := .type "dict", data := .dict #[] }) (t' := s.toks) (fun _ _ q => Heap.get?_push_of_some _ q) (Nat.le_refl _) (dk_empty s.heap I.big)
  obtain ⟨R0, x0⟩ := Rel.new (ho := .dK []) (o := .dK []) R hn fun _ => ⟨[], upd_same, rfl⟩
  have p0 : (ι ++ [s.heap.objs.size])[E.length]? = some s.heap.objs.size := by rw [← R.len]; simp
  refine wpAny_bind (thn (ha.run pins _ σ _ (fun v H1 => ∃ ι1 E1 x, Ext M (ι ++ [s.heap.objs.size]) (upd H s.heap.objs.size (.dK [])) ι1 H1 ∧ Rel M ι1 E1 H1 ∧ RelW M H1 ι1 x v ∧ Rs M W' ι σ H (match mrgO E1 E.length x with
    | some E2 => andThen (cb σE E2) fun y E3 => match mrgO E3 E.length y with
      | some E4 => some (.ok (.ref E.length) E4)
      | none => none
    | none => none) fun w E' => Fin M ι H w E' Q) I0 ⟨ι ++ [s.heap.objs.size], E ++ [.dK []], σE, R0, rs.ext x0, ((Rs.bind k).ext x0).imp fun x E1 h1 => fun ι1 H1 v x1 R1 rx => ⟨ι1, E1, x, x1, R1, rx, h1⟩⟩) fun u1 s1 ⟨v1, H1, I1, ru1, ι1, E1, x, x1, R1, rx, h1⟩ => ?_)
  refine wpAny_bind (wpAny_standAt (wpAny_pure ?_))
  cases e1 : mrgO E1 E.length x with
  | none => rw [e1] at h1; exact h1.none.elim
  | some E2 =>
    rw [e1] at h1
    refine mrg_step I1 R1 rx ru1 (pre_get x1.pre p0) e1 fun s2 H2 I2 x2 R2 => ?_
    have xx := (x0.trans x1).trans x2
    refine wpAny_bind (thn (hb.run pins s2 σ H2 (fun v H3 => ∃ ι3 E3 y, Ext M ι1 H2 ι3 H3 ∧ Rel M ι3 E3 H3 ∧ RelW M H3 ι3 y v ∧ Rs M W' ι σ H (match mrgO E3 E.length y with
      | some E4 => some (.ok (.ref E.length) E4)
      | none => none) fun w E' => Fin M ι H w E' Q) I2 ⟨ι1, E2, σE, R2, rs.ext xx, (h1.bind.ext xx).imp fun y E3 h2 => fun ι3 H3 v x3 R3 ry => ⟨ι3, E3, y, x3, R3, ry, h2⟩⟩) fun u2 s3 ⟨v2, H3, I3, ru2, ι3, E3, y, x3, R3, ry, h2⟩ => ?_)
    refine wpAny_bind (wpAny_standAt (wpAny_pure ?_))
    cases e2 : mrgO E3 E.length y with
    | none => rw [e2] at h2; exact h2.none.elim
    | some E4 =>
      rw [e2] at h2
      have p3 := pre_get x3.pre (pre_get x1.pre p0)
      refine mrg_step I3 R3 ry ru2 p3 e2 fun s4 H4 I4 x4 R4 => ?_
      exact ⟨.ref s.heap.objs.size, H4, I4, rfl, h2.ok ι3 H4 _ ((xx.trans x3).trans x4) R4 ⟨_, p3, rfl⟩⟩
end G

set_option Elab.async false
set_option linter.all false
set_option maxRecDepth 100000
set_option maxHeartbeats 4000000
namespace G
open PySem L2 PySem.Spec PyProof.Rows
variable {M : Md} {H H' H1 H2 : Hp} {ι ι' ι1 ι2 : List Addr} {X : Cx} {W' : WX}

/-! ### many new objects are told at once -/
def updL (H : Hp) : List (Addr × HO) → Hp
  | [] => H
  | p :: L => updL (upd H p.1 p.2) L
theorem updL_out {b : Addr} : ∀ {L : List (Addr × HO)} {H : Hp}, b ∉ L.map (·.1) → updL H L b = H b
  | [], _, _ => rfl
  | p :: L, H, h => by
    rw [List.map_cons, List.mem_cons, not_or] at h
    show updL (upd H p.1 p.2) L b = H b
    rw [updL_out h.2, upd_ne h.1]
theorem updL_in {b : Addr} {u : HO} : ∀ {L : List (Addr × HO)} {H : Hp}, updL H L b = some u → (b, u) ∈ L ∨ H b = some u
  | [], _, h => .inr h
  | p :: L, H, h => by
    rcases updL_in (L := L) (H := upd H p.1 p.2) h with h | h
    · exact .inl (List.mem_cons_of_mem _ h)
    · by_cases e : b = p.1
      · subst e
        rw [upd_same] at h
        exact .inl (by rw [← Option.some.inj h]; exact List.mem_cons_self)
      · rw [upd_ne e] at h
        exact .inr h
theorem updL_at : ∀ {L : List (Addr × HO)} {H : Hp} {p : Addr × HO}, (L.map (·.1)).Nodup → p ∈ L → updL H L p.1 = some p.2
  | q :: L, H, p, nd, h => by
    rw [List.map_cons, List.nodup_cons] at nd
    show updL (upd H q.1 q.2) L p.1 = some p.2
    rcases List.mem_cons.mp h with e | h
    · subst e
      rw [updL_out nd.1, upd_same]
    · exact updL_at nd.2 h
theorem updL_app : ∀ (L K : List (Addr × HO)) (H : Hp), updL H (L ++ K) = updL (updL H L) K
  | [], _, _ => rfl
  | p :: L, K, H => updL_app L K (upd H p.1 p.2)
theorem inv_laidL {pins : List (Addr × Obj)} {σ : L2.St} {s : Shared} {h' : Heap} {t' : Nat} {L : List (Addr × HO)} (I : Inv X pins σ H s) (k : ∀ b u, s.heap.get? b = some u → h'.get? b = some u) (hp : ∀ p ∈ L, s.heap.objs.size ≤ p.1)
    (new : ∀ p ∈ L, ObjOk X.prog X.w (updL H L) h' p.1 p.2) : Inv X pins σ (updL H L) { s with heap := h', toks := t' } := by
  have out : ∀ b u, s.heap.get? b = some u → b ∉ L.map (·.1) := fun b u e z => by
    obtain ⟨p, hp', rfl⟩ := List.mem_map.mp z
    exact Nat.lt_irrefl _ (Nat.lt_of_lt_of_le (Heap.lt_size e) (hp p hp'))
  have oth : ∀ b u, H b = some u → updL H L b = some u := fun b u e => by
    rw [updL_out fun z => ?_]
    · exact e
    · obtain ⟨p, hp', rfl⟩ := List.mem_map.mp z
      exact Nat.lt_irrefl _ (Nat.lt_of_lt_of_le (I.hok.lt e) (hp p hp'))
  refine I.un ⟨fun b u q _ _ _ => k b u q, fun b u q _ _ _ => ⟨u.slots, k b u q⟩, fun b u q n _ => ?_, fun b u q _ => ⟨u, k b u q⟩, fun b xs q => oth _ _ q, fun b o u q => oth _ _ q, fun b ps q => ⟨#[], by rw [oth _ _ q]; simp⟩⟩ fun b u e => ?_
  · rw [updL_out (out b u q)]
    exact n
  · rcases updL_in e with h | h
    · exact new (b, u) h
    · exact (I.hok b u h).stay (fun c v _ q => k c v q) (fun c q => oth _ _ q) fun c xs q => oth _ _ q
theorem rel_tups {E : Hh} : ∀ {L : List (Addr × HO)} {H : Hp}, Rel M ι E H → (L.map (·.1)).Nodup → (∀ p ∈ L, H p.1 = none) → Rel M ι E (updL H L) ∧ Ext M ι H ι (updL H L)
  | [], H, R, _, _ => ⟨R, Ext.refl _ _⟩
  | p :: L, H, R, nd, hn => by
    rw [List.map_cons, List.nodup_cons] at nd
    obtain ⟨R1, x1⟩ := Rel.newT (ho := p.2) R (hn p List.mem_cons_self)
    obtain ⟨R2, x2⟩ := rel_tups (L := L) R1 nd.2 fun q hq => by
      rw [upd_ne (fun z => nd.1 (by rw [← z]; exact List.mem_map_of_mem hq))]
      exact hn q (List.mem_cons_of_mem _ hq)
    exact ⟨R2, x1.trans x2⟩

/-! ### list(enumerate(x)) -/
def pl : Nat → List Addr → List V → List (Addr × HO)
  | i, a :: as, x :: xs => (a, .tup [.int i, x]) :: pl (i + 1) as xs
  | _, _, _ => []
def wPair (i : Nat) (w : W) : W := .tup [.int i, w]
theorem pl_keys : ∀ (i : Nat) {as : List Addr} {xs : List V}, as.length = xs.length → (pl i as xs).map (·.1) = as
  | _, [], [], _ => rfl
  | i, a :: as, x :: xs, h => by
    show a :: (pl (i + 1) as xs).map (·.1) = a :: as
    rw [pl_keys (i + 1) (by simpa using h)]
theorem pl_mem : ∀ (i : Nat) {as : List Addr} {xs : List V} {p : Addr × HO}, p ∈ pl i as xs → ∃ j x, as[j]? = some p.1 ∧ xs[j]? = some x ∧ p.2 = .tup [.int (i + j : Nat), x]
  | _, [], _, p, h => by simp [pl] at h
  | _, _ :: _, [], p, h => by simp [pl] at h
  | i, a :: as, x :: xs, p, h => by
    rcases List.mem_cons.mp h with e | h
    · subst e
      exact ⟨0, x, rfl, rfl, rfl⟩
    · obtain ⟨j, y, e1, e2, e3⟩ := pl_mem (i + 1) h
      exact ⟨j + 1, y, e1, e2, by rw [e3, show i + 1 + j = i + (j + 1) by omega]⟩
theorem pl_rel : ∀ (i : Nat) {as : List Addr} {ws : List W} {vs : List V}, as.length = vs.length → RelWs M H ι ws vs → (∀ p ∈ pl i as vs, H p.1 = some p.2) → RelWs M H ι (ws.mapIdx fun j w => wPair (i + j) w) (as.map .ref)
  | _, [], [], vs, h, r, q => rfl
  | _, a :: as, [], vs, h, r, q => by rw [show vs = [] from r] at h; simp at h
  | _, [], w :: ws, vs, h, r, q => by obtain ⟨v, rs, rfl, _, _⟩ := r; simp at h
  | i, a :: as, w :: ws, vs, h, r, q => by
    obtain ⟨v, rs, rfl, r1, r2⟩ := r
    have e : H a = some (.tup [.int i, v]) := q (a, .tup [.int i, v]) List.mem_cons_self
    have ih := pl_rel (i + 1) (as := as) (by simpa using h) r2 fun p hp => q p (List.mem_cons_of_mem _ hp)
    rw [List.mapIdx_cons]
    refine ⟨.ref a, as.map .ref, rfl, ⟨a, _, rfl, SqT.of e, .int i, [v], rfl, rfl, v, [], rfl, r1, rfl⟩, ?_⟩
    rw [show (fun j w => wPair (i + (j + 1)) w) = (fun j w => wPair (i + 1 + j) w) by funext j w; rw [show i + (j + 1) = i + 1 + j by omega]]
    exact ih
theorem vals_refs : ∀ as : List Addr, Vals (as.map V.ref) (as.map Value.ref)
  | [] => .nil
  | a :: r => .cons rfl (vals_refs r)
def enuLA (ca : Act W) : Act W := fun σ E => andThen (ca σ E) fun x E1 => match seqOf E1 x with
  | some ws => if ws.length ≤ few then some (.ok (.ref E1.length) (E1 ++ [.lst (ws.mapIdx fun i w => wPair i w)])) else none
  | none => none
theorem pe_enuL {e : Expr} {p p2 q pos : Pos} {ca : Act W} (at' : X.K = M.K) (hc : X.calm = true) (hg : Gl X "list") (hm : X.mg "list" = none) (hg2 : Gl X "enumerate") (hm2 : X.mg "enumerate" = none) (hp : plainArg e = true) (ha : PE X e (SE M W' ca)) :
    PE X (.Call (.Name "list" p) [.Call (.Name "enumerate" p2) [e] [] q] [] pos) (SE M W' (enuLA ca)) := by
  refine ⟨fun pins s σ H Q I ⟨ι, E, σE, R, rs, k⟩ => ?_⟩
  refine Call_ (ld_blt I hg hm PyProof.Rows.boot_list (callWith_type1 (args_cons (Call_ (ld_blt I hg2 hm2 PyProof.Rows.boot_enumerate (callWith_type1 (args_cons (thn (ha.run pins s σ H (fun v H1 => ∃ ι1 E1 x, Ext M ι H ι1 H1 ∧ Rel M ι1 E1 H1 ∧ RelW M H1 ι1 x v ∧ Rs M W' ι σ H (match seqOf E1 x with
    | some ws => if ws.length ≤ few then some (.ok (.ref E1.length) (E1 ++ [.lst (ws.mapIdx fun i w => wPair i w)])) else none
    | none => none) fun w E' => Fin M ι H w E' Q) I ⟨ι, E, σE, R, rs, (Rs.bind k).imp fun x E1 h1 => fun ι1 H1 v x1 R1 rx => ⟨ι1, E1, x, x1, R1, rx, h1⟩⟩) fun v s1 hh => args_nil ?_) (starEach_cons hp)) (starEach_cons hp) rfl))) rfl) rfl rfl))
  obtain ⟨xv, H1, I1, ru, ι1, E1, x, x1, R1, rx, h1⟩ := hh
  cases e1 : seqOf E1 x with
  | none => rw [e1] at h1; exact h1.none.elim
  | some ws =>
    rw [e1] at h1
    dsimp only at h1
    by_cases hl : ws.length ≤ few
    · rw [if_pos hl] at h1
      obtain ⟨a, vs, rfl, hs, rws⟩ := seq_ok R1 e1 rx
      obtain rfl : v = Value.ref a := ru
      obtain ⟨kb, hs'⟩ : ∃ kb, SqB X.K kb H1 a vs := by
        rw [at']
        rcases hs with hs | hs
        · exact ⟨false, hs⟩
        · exact ⟨true, hs⟩
      obtain ⟨us, rv, px⟩ := seqB_of I1 hs'
      have l1 := isB_lt px
      refine enum_beginsB (beginsB kb a _) px fun h' z' j1 hk => args_nil ?_
      have zl : vs.length = us.length := rv.length
      have hh0 : X.A.handled = none := I1.ok.hd hc
      refine en_list (s := { s1 with heap := h' }) (drawsB (by simp [hh0]) kb s1.heap.objs.size a (Nat.ne_of_lt l1) us.toArray) z' ⟨itB_new j1, ?_⟩ (Nat.lt_succ_self _) (fun z => ?_) (fun b hb => ?_) ?_ fun h2 tk acc c as kp hS hla g hacc => ?_
      · cases kb with
        | true => obtain ⟨o, e, z⟩ := px; exact ⟨o, hk _ _ e, z⟩
        | false => obtain ⟨o, e, z⟩ := px; exact ⟨o, hk _ _ e, z⟩
      · rcases List.mem_cons.mp z with z | z
        · exact absurd z (Nat.succ_ne_self _)
        · rw [List.mem_singleton] at z
          rw [← z] at l1
          exact absurd l1 (Nat.not_lt.mpr (Nat.le_succ _))
      · rcases List.mem_cons.mp hb with rfl | hb
        · exact Heap.lt_size j1
        · rw [List.mem_singleton.mp hb]
          exact Nat.lt_of_lt_of_le l1 (Nat.le_of_lt (Heap.lt_size j1))
      · rw [List.size_toArray, ← zl, ← rws.length]
        exact few_le hl
      dsimp only at kp hS g ⊢
      have lo : s1.heap.objs.size ≤ h'.objs.size := Nat.le_of_lt (Heap.lt_size j1)
      have kk : ∀ b o, s1.heap.get? b = some o → h2.get? b = some o := fun b o q => kp b o (Nat.ne_of_lt (Nat.lt_succ_of_lt (Heap.lt_size q))) (Nat.ne_of_lt (Heap.lt_size q)) (hk b o q)
      have la : as.length = vs.length := by rw [hla, List.size_toArray, zl]
      have ks := pl_keys 0 la
      have nd : ((pl 0 as vs).map (·.1)).Nodup := by rw [ks]; exact g.up.imp fun h => Nat.ne_of_lt h
      have nS : h'.objs.size ∉ as := fun z => Nat.lt_irrefl _ (g.ab _ z)
      have H2S : updL H1 (pl 0 as vs ++ [(h'.objs.size, .lst (as.map V.ref))]) = upd (updL H1 (pl 0 as vs)) h'.objs.size (.lst (as.map V.ref)) := updL_app _ _ _
      have hi : ∀ p ∈ pl 0 as vs ++ [(h'.objs.size, HO.lst (as.map V.ref))], s1.heap.objs.size ≤ p.1 := fun p hp => by
        rcases List.mem_append.mp hp with hp | hp
        · obtain ⟨j, x, e, _⟩ := pl_mem 0 hp
          exact Nat.le_of_lt (Nat.lt_of_le_of_lt lo (g.ab _ (List.mem_of_getElem? e)))
        · rw [List.mem_singleton.mp hp]; exact lo
      have I2 : Inv X pins σ (updL H1 (pl 0 as vs ++ [(h'.objs.size, .lst (as.map V.ref))])) { s1 with heap := h2, toks := tk } := inv_laidL I1 kk hi fun p hp => by
        rcases List.mem_append.mp hp with hp | hp
        · obtain ⟨j, x, ea, ex, e2⟩ := pl_mem 0 hp
          rw [e2]
          obtain ⟨t, y, py, q⟩ := g.is j _ ea
          have py : us[j]? = some y := by simpa using py
          obtain ⟨y', ey, ry⟩ := rv.get ex
          rw [py] at ey
          obtain rfl := Option.some.inj ey
          refine ⟨by rw [sizeLine_eq]; simp, [.int j t, y], .cons ⟨t, by simp⟩ (.cons ry .nil), _, q, rfl, _, rfl⟩
        · rw [List.mem_singleton.mp hp]
          refine ⟨by rw [List.length_map, la, ← rws.length]; exact few_le hl, as.map Value.ref, c, vals_refs as, by rw [hS, ← hacc]⟩
      have hnone : ∀ p ∈ pl 0 as vs, H1 p.1 = none := fun p hp => I1.hok.fresh (hi p (List.mem_append_left _ hp))
      obtain ⟨R2, x2⟩ := rel_tups R1 nd hnone
      have rel := pl_rel 0 la (rws.ext x2) fun p hp => updL_at nd hp
      have nS2 : updL H1 (pl 0 as vs) h'.objs.size = none := by
        rw [updL_out (by rw [ks]; exact nS)]
        exact I1.hok.fresh lo
      rw [H2S] at I2
      refine ⟨.ref h'.objs.size, _, I2, rfl, ?_⟩
      have rel' : RelWs M (updL H1 (pl 0 as vs)) ι1 (ws.mapIdx fun i w => wPair i w) (as.map .ref) := by simpa using rel
      exact Fin.lst (M := M) (fun ι' H' v x' R' rv' => h1.ok ι' H' v ((x1.trans x2).trans x') R' rv') R2 rel' _ nS2
    · rw [if_neg hl] at h1
      exact h1.none.elim
end G

set_option Elab.async false
set_option linter.all false
set_option maxRecDepth 100000
set_option maxHeartbeats 4000000
namespace G
open PySem L2 PySem.Spec PyProof.Rows PySem.W
variable {M : Md} {H H' H1 H2 : Hp} {ι ι' ι1 ι2 : List Addr} {X : Cx} {W' : WX}

/-! ### list(d.values()), d with tuples as keys -/
theorem ent_vals : ∀ {kvs : List (W × W)} {xs : List (Addr × V × Value)}, Paired (EntR M H ι) kvs xs → RelWs M H ι (kvs.map (·.2)) (xs.map (·.2.1)) ∧ Vals (xs.map (·.2.1)) ((ents kvs xs).map (·.2.2))
  | [], [], _ => ⟨rfl, .nil⟩
  | p :: kvs, q :: xs, h => by
    cases h with
    | cons e r =>
      obtain ⟨h1, h2⟩ := ent_vals r
      exact ⟨⟨q.2.1, _, rfl, e.2.1, h1⟩, .cons e.2.2 h2⟩
def valLA (ca : Act W) : Act W := fun σ E => andThen (ca σ E) fun x E1 => match dnOf E1 x with
  | some (_, kvs) => if kvs.length ≤ few then some (.ok (.ref E1.length) (E1 ++ [.lst (kvs.map (·.2))])) else none
  | none => none
theorem pe_valL {Γ : Gm} {o : Expr} {p apos cpos pos : Pos} {ca : Act W} (a : At M Γ W' X) (hg : Gl X "list") (hm : X.mg "list" = none) (hb : plainBase o = true) (hline : (apos.endLine == cpos.line) = true) (ho : PE X o (SE M W' ca)) :
    PE X (.Call (.Name "list" p) [.Call (.Attribute o "values" apos) [] [] cpos] [] pos) (SE M W' (valLA ca)) := by
  refine ⟨fun pins s σ H Q I ⟨ι, E, σE, R, rs, k⟩ => ?_⟩
  refine Call_ (ld_blt I hg hm PyProof.Rows.boot_list (callWith_type1 (args_cons (wpAny_Call_method (T := "dict") (id := "dict.values") (plainBase_ok hb) rfl hline PySem.F.plainAttrs_dict PySem.F.slot_dict_values PySem.F.type_dict_values (thn (ho.run pins s σ H (fun v H1 => ∃ ι1 E1 x, Ext M ι H ι1 H1 ∧ Rel M ι1 E1 H1 ∧ RelW M H1 ι1 x v ∧ Rs M W' ι σ H (match dnOf E1 x with
    | some (_, kvs) => if kvs.length ≤ few then some (.ok (.ref E1.length) (E1 ++ [.lst (kvs.map (·.2))])) else none
    | none => none) fun w E' => Fin M ι H w E' Q) I ⟨ι, E, σE, R, rs, (Rs.bind k).imp fun x E1 h1 => fun ι1 H1 v x1 R1 rx => ⟨ι1, E1, x, x1, R1, rx, h1⟩⟩) fun v s1 hh => ?_)) rfl) rfl rfl))
  obtain ⟨xv, H1, I1, ru, ι1, E1, x, x1, R1, rx, h1⟩ := hh
  cases e1 : dnOf E1 x with
  | none => rw [e1] at h1; exact h1.none.elim
  | some pk =>
    obtain ⟨i, kvs⟩ := pk
    rw [e1] at h1
    dsimp only at h1
    by_cases hl : kvs.length ≤ few
    · rw [if_pos hl] at h1
      obtain ⟨d, xs, rfl, rfl, D⟩ := dn_ok I1 a.K R1 e1 rx
      obtain rfl : v = Value.ref d := ru
      obtain ⟨es, ep, raw, hs, he⟩ := D.dict.raw
      refine ⟨raw.typeIs, fun b z => ?_, ?_⟩
      · cases z
        obtain ⟨ob, hob, hx, _⟩ := raw
        exact ⟨ob, hob, hx.2.1⟩
      · refine method_meetsIn PySem.F.slot_dict_values PySem.F.entry_dict_values rfl (PySem.evalArgs_none ⟨rfl, raw.typeIs, PySem.F.args_dict_values_1 _, _, meets_dict_values_raw d D.low, ⟨⟨es, ep, raw⟩, ?_⟩⟩)
        refine args_nil ?_
        have hd : X.A.handled = none := I1.ok.hd a.calm
        have zl := Paired.length D.ent
        have n1 : es.size = kvs.length := by rw [hs, ents_len zl]
        refine kdl_call (s := { s1 with heap := s1.heap.push { cls := .type "dict_values", data := .fields #[.ref d] } }) (KdlSrc.rawValues (es := es) (ep := ep)) hd ⟨⟨_, Heap.get?_push_size _ rfl, rfl, rfl⟩, raw.push _⟩ (by rw [n1]; exact few_le hl) fun h' tk acc c kp hS hit => ?_
        dsimp only at kp hS ⊢
        obtain ⟨rw', rv⟩ := ent_vals D.ent
        have ea : acc.toList = (ents kvs xs).map (·.2.2) := by
          obtain ⟨sz, itm⟩ := hit
          refine List.ext_getElem? fun j => ?_
          by_cases hj : j < es.size
          · obtain ⟨y, ey, _, ev, _⟩ := he j hj
            have hj' : j < acc.size := by rw [sz]; exact hj
            obtain ⟨_, z⟩ := itm j acc[j] (Array.getElem?_eq_getElem hj')
            rw [List.getElem?_map, ey, Array.getElem?_toList, Array.getElem?_eq_getElem hj', z, ev]
            rfl
          · rw [List.getElem?_eq_none (by rw [Array.length_toList, sz]; omega), List.getElem?_eq_none (by rw [List.length_map, ← hs]; omega)]
        rw [← ea] at rv
        have lo : s1.heap.objs.size ≤ (s1.heap.push { cls := .type "dict_values", data := .fields #[.ref d] }).objs.size := by rw [Heap.size_push]; exact Nat.le_succ _
        have hn := I1.hok.fresh lo
        have few' : (xs.map (·.2.1)).length ≤ sizeLine := by rw [List.length_map, ← zl]; exact few_le hl
        have I2 := I1.laid (t' := tk) (o := .lst (xs.map (·.2.1))) (h' := h') (fun b u q => kp b u (Heap.get?_push_of_some _ q)) lo ⟨few', acc.toList, c, rv, by rw [hS]⟩
        refine ⟨.ref _, _, I2, rfl, ?_⟩
        exact Fin.lst (M := M) (fun ι' H' v x' R' rv' => h1.ok ι' H' v (x1.trans x') R' rv') R1 rw' _ hn
    · rw [if_neg hl] at h1
      exact h1.none.elim
end G

set_option Elab.async false
set_option linter.all false
set_option maxRecDepth 100000
set_option maxHeartbeats 4000000
namespace G
open PySem L2 PySem.Spec PyProof.Rows
/-! ### t[::-1], t a tuple -/
section
variable {P0 : Program} {w : World} {A : Around} {E : Value → Shared → Prop} {s : Shared}
theorem places_rev (n : Nat) : Builtin.Slice.slicePlaces ((n : Int) - 1) (-1) (-1) = n := by
  unfold Builtin.Slice.slicePlaces
  rw [if_neg (by omega)]
  by_cases h : (n : Int) - 1 > -1
  · rw [if_pos h]
    show (((n : Int) - 1 - -1 - 1) / 1 + 1).toNat = n
    rw [Int.ediv_one]
    omega
  · rw [if_neg h]; omega
theorem applied_rev {sl : Addr} {vl vu vs : Value} {n : Nat} {Q : Int × Int × Nat → Shared → Prop} (hs : s.heap.IsSliceOf sl vl vu vs) (pl : IsPart vl none) (pu : IsPart vu none) (ps : IsPart vs (some (-1))) (h : Q ((n : Int) - 1, -1, n) s) :
    wpAny (model P0 w) A (Builtin.Slice.sliceApplied (.ref sl) (pure (n : Int))) Q E s := by
  obtain ⟨os, hos, hcs, hds⟩ := id hs
  unfold Builtin.Slice.sliceApplied Builtin.Slice.sliceFields
  refine wpAny_bind (wpAny_bind (wpAny_field hos hds (x := vl) rfl (wpAny_bind (wpAny_field hos hds (x := vu) rfl (wpAny_bind (wpAny_field hos hds (x := vs) rfl (wpAny_pure ?_)))))))
  refine wpAny_bind (HT.slicePart_ ps ?_)
  show wpAny _ _ (if ((-1 : Int) == 0) = true then _ else _) _ _ s
  rw [if_neg (by decide)]
  refine wpAny_bind (HT.slicePart_ pl (wpAny_bind (HT.slicePart_ pu (wpAny_bind (wpAny_pure ?_)))))
  show wpAny _ _ (pure ((n : Int) - 1, (-1 : Int), Builtin.Slice.slicePlaces ((n : Int) - 1) (-1) (-1))) _ _ s
  rw [places_rev]
  exact wpAny_pure h
theorem pick_back (xs : Array Value) : ((List.range xs.size).filterMap fun (m : Nat) => xs[((xs.size : Int) - 1 + (m : Int) * (-1)).toNat]?).toArray = xs.toList.reverse.toArray := by
  congr 1
  obtain ⟨l⟩ := xs
  simp only [List.size_toArray, List.getElem?_toArray]
  refine List.ext_getElem? fun j => ?_
  have all : ∀ m ∈ List.range l.length, (fun (m : Nat) => l[((l.length : Int) - 1 + (m : Int) * (-1)).toNat]?) m = some (l.getD (l.length - 1 - m) .none) := fun m hm => by
    have lt : m < l.length := List.mem_range.mp hm
    have e : ((l.length : Int) - 1 + (m : Int) * (-1)).toNat = l.length - 1 - m := by omega
    show l[((l.length : Int) - 1 + (m : Int) * (-1)).toNat]? = _
    rw [e, List.getElem?_eq_getElem (by omega), List.getD_eq_getElem?_getD, List.getElem?_eq_getElem (by omega)]
    rfl
  have go : ∀ (ms : List Nat), (∀ m ∈ ms, (fun (m : Nat) => l[((l.length : Int) - 1 + (m : Int) * (-1)).toNat]?) m = some (l.getD (l.length - 1 - m) .none)) → ms.filterMap (fun (m : Nat) => l[((l.length : Int) - 1 + (m : Int) * (-1)).toNat]?) = ms.map fun m => l.getD (l.length - 1 - m) .none := by
    intro ms
    induction ms with
    | nil => intro _; rfl
    | cons m r ih =>
      intro h
      have hm : l[((l.length : Int) - 1 + (m : Int) * (-1)).toNat]? = some (l.getD (l.length - 1 - m) .none) := h m List.mem_cons_self
      rw [List.filterMap_cons, hm, List.map_cons]
      exact congrArg _ (ih fun x hx => h x (List.mem_cons_of_mem _ hx))
  rw [go _ all, List.getElem?_map]
  by_cases hj : j < l.length
  · rw [List.getElem?_range hj, List.getElem?_reverse hj, Option.map_some, List.getD_eq_getElem?_getD, List.getElem?_eq_getElem (by omega)]
    rfl
  · rw [List.getElem?_eq_none (by rw [List.length_range]; omega), List.getElem?_eq_none (by rw [List.length_reverse]; omega)]
    rfl
theorem getItem_back {t sl : Addr} {items : Array Value} {vl vu vs : Value} {Q : Value → Shared → Prop} (ht : IsTup s.heap t items) (hs : s.heap.IsSliceOf sl vl vu vs) (pl : IsPart vl none) (pu : IsPart vu none) (ps : IsPart vs (some (-1)))
    (h : Q (.ref s.heap.objs.size) { s with heap := s.heap.push { cls := .type "tuple", data := .seq items.toList.reverse.toArray } }) (hsz : items.size ≤ sizeLine) : wpAny (model P0 w) A (getItem (.ref t) (.ref sl)) Q E s := by
  have fits : sizeOk (.seq items.toList.reverse.toArray) := by
    show items.toList.reverse.toArray.size ≤ sizeLine
    rw [List.size_toArray, List.length_reverse, Array.length_toList]
    exact hsz
  obtain ⟨os, hos, hcs, hds⟩ := id hs
  have hTs : s.TypeIs (.ref sl) "slice" := ⟨os, hos, hcs⟩
  unfold getItem
  try with_reducible refine wpAny_holding ?_
  first | refine wpAny_bind (wpAny_pure ?_) | skip
  refine wpAny_bind (wpAny_sequenceKey ht.typeIs (by decide) ?_)
  refine wpAny_bind (wpAny_callSpecial?_slot (name := Str.ofString "__getitem__") ht.typeIs PyProof.Rows.slot_tuple_getitem (wpAny_call_entry PyProof.Rows.slot_tuple_getitem ht.typeIs entry_tuple_getitem ?_ (args_tuple_getitem _ _)))
  refine wpAny_bind (wpAny_pure ?_)
  refine wpAny_bind (tupleItemsOf_ ht ?_)
  refine wpAny_bind (wpAny_typeOf hTs ?_)
  rw [if_pos (by decide)]
  refine wpAny_bind (applied_rev (n := items.size) hs pl pu ps ?_)
  have no : ¬ ((((items.size : Int) - 1) == 0 && (-1 : Int) == 1 && items.size == items.size) = true) := by simp
  show wpAny _ _ (if (((items.size : Int) - 1) == 0 && (-1 : Int) == 1 && items.size == items.size) = true then _ else _) _ _ s
  rw [if_neg no, pick_back]
  first
    | exact wpAny_bind (m := Builtin.Tuple.tupleExact _) (wpAny_newObj_type (wpAny_pure ⟨_, rfl, wpAny_pure h⟩) fits)
    | exact wpAny_bind (m := Builtin.Tuple.tupleExact _) (wpAny_newObj_type (wpAny_bind (wpAny_pure (wpAny_pure ⟨_, rfl, wpAny_pure h⟩))) fits)
    | exact wpAny_bind (wpAny_bind (m := Builtin.Tuple.tupleExact _) (wpAny_newObj_type (wpAny_pure (wpAny_pure ⟨_, rfl, wpAny_pure h⟩)) fits))
    | exact wpAny_bind (wpAny_bind (m := Builtin.Tuple.tupleExact _) (wpAny_newObj_type (wpAny_pure ⟨_, rfl, wpAny_pure h⟩) fits))
end
variable {M : Md} {H H' H1 H2 : Hp} {ι ι' ι1 ι2 : List Addr} {X : Cx} {W' : WX}
/-- xs[::-1], of lists and tuples -/
def rBack (K : PySem.W.Frag) (x : V) (H : Hp) (Q : VK) : Prop := (∃ a xs, x = .ref a ∧ SqL K H a xs ∧ ∀ p, H p = none → Q (.ref p) (upd H p (.lst xs.reverse))) ∨ ∃ a xs, x = .ref a ∧ SqT K H a xs ∧ ∀ p, H p = none → Q (.ref p) (upd H p (.tup xs.reverse))
theorem pe_back {e : Expr} {te : TE} {k : Nat} {p1 p2 p3 pos : Pos} (he : PE X e te) : PE X (.Subscript e (.Slice none none (some (.UnaryOp .USub (.Constant (.int 1) k p1) p2)) p3) pos) (tUn (rBack X.K) te) := by
  refine ⟨fun pins s σ H Q I h => ?_⟩
  refine Subscript_ (thn (he.run pins s σ H _ I h) fun v s1 ⟨x, H1, I1, r1, q1⟩ => ?_)
  have hst : PO X (some (.UnaryOp .USub (.Constant (.int 1) k p1) p2)) (tPart (tUn (rU fun i => .int (-i)) (tC (.int 1)))) := po_some (pe_un un_neg pe_int)
  refine wpAny_Slice (thn (po_none.run pins s1 σ H1 (fun o H2 => o = none ∧ H2 = H1) I1 ⟨rfl, rfl⟩) fun vl s2 ⟨l, H2, I2, pl, el, e2⟩ => ?_)
  subst el e2
  refine thn (po_none.run pins s2 σ H2 (fun o H3 => o = none ∧ H3 = H2) I2 ⟨rfl, rfl⟩) fun vu s3 ⟨u, H3, I3, pu, eu, e3⟩ => ?_
  subst eu e3
  refine thn (hst.run pins s3 σ H3 (fun o H4 => o = some (-1) ∧ H4 = H3) I3 ⟨1, rfl, -1, rfl, rfl, rfl⟩) fun vs s4 ⟨o, H4, I4, ps, eo, e4⟩ => ?_
  subst eo e4
  have I5 : Inv X pins σ H4 { s4 with heap := s4.heap.push { cls := .type "slice", data := .fields #[vl, vu, vs] } } := I4.kept (t' := s4.toks) fun b ob q => Heap.get?_push_of_some _ q
  have hn := I5.hok.fresh (Nat.le_refl _)
  rcases q1 with ⟨a, xs, ex, hx, q⟩ | ⟨a, xs, ex, hx, q⟩
  · subst ex
    obtain rfl : v = Value.ref a := r1
    obtain ⟨its, r, ht, hz⟩ := I5.list hx
    have hlen := r.length
    refine tail_any (ops := [.ref a, .ref s4.heap.objs.size]) ht.isList.typeIs (PySem.slot_list_getitem.lookup) ?_ (by with_unfolding_all rfl)
    refine wpAny_getItem_list_slice ht.isList (Heap.IsSliceOf.new _ vl vu vs) pl pu ps (by decide) ?_ (by rw [List.size_toArray]; omega)
    rw [PySem.W.krv_pick]
    exact ⟨.ref _, _, I5.laid (t' := s4.toks) (o := .lst xs.reverse) (fun b ob q => Heap.get?_push_of_some _ q) (Nat.le_refl _) ⟨by rw [List.length_reverse]; exact hz, _, 0, r.reverse, Heap.get?_push_size _ rfl⟩, rfl, q _ hn⟩
  · subst ex
    obtain rfl : v = Value.ref a := r1
    obtain ⟨its, r, ht, hz⟩ := I5.tuple hx
    have hlen := r.length
    refine tail_any (ops := [.ref a, .ref s4.heap.objs.size]) ht.typeIs (PyProof.Rows.slot_tuple_getitem.lookup) ?_ (by with_unfolding_all rfl)
    refine getItem_back ht (Heap.IsSliceOf.new _ vl vu vs) pl pu ps ?_ (by rw [List.size_toArray]; omega)
    exact ⟨.ref _, _, I5.laid (t' := s4.toks) (o := .tup xs.reverse) (fun b ob q => Heap.get?_push_of_some _ q) (Nat.le_refl _) ⟨by rw [List.length_reverse]; exact hz, _, by simpa using r.reverse, IsTup.new _ _⟩, rfl, q _ hn⟩
def wBackV (x : W) (E : Hh) : Option (W × Hh) := match x with
  | .tup ws => some (.tup ws.reverse, E)
  | _ => wRevV x E
def wBack (ca : Act W) : Act W := fun σ E => andThen (ca σ E) fun x E1 => lift (wBackV x E1)
theorem pe_backG {a : Expr} {k : Nat} {p1 p2 p3 pos : Pos} {ca : Act W} (at' : X.K = M.K) (ha : PE X a (SE M W' ca)) : PE X (.Subscript a (.Slice none none (some (.UnaryOp .USub (.Constant (.int 1) k p1) p2)) p3) pos) (SE M W' (wBack ca)) :=
  PE.imp (pe_back ha) (se_un (f := wBackV) (r := rBack X.K) fun {ι E E' H x z v Q} h R rx k => by
    unfold wBackV at h
    split at h
    · rename_i ws
      obtain ⟨rfl, rfl⟩ : W.tup ws.reverse = z ∧ E = E' := by simpa using h
      obtain ⟨a, vs, rfl, hs, rws⟩ := rx
      rw [at']
      exact .inr ⟨a, vs, rfl, hs, Fin.tup k R rws.rev⟩
    · unfold wRevV at h
      split at h
      · split at h
        · rename_i i ws e
          obtain ⟨rfl, rfl⟩ : (.ref E.length : W) = z ∧ E ++ [.lst ws.reverse] = E' := by simpa using h
          obtain ⟨a, vs, rfl, hq, rws⟩ := seq_ref R e rx
          exact .inl ⟨a, vs, rfl, by rw [at']; exact hq, Fin.lst k R rws.rev⟩
        · cases h
      · cases h)
end G

set_option Elab.async false
set_option linter.all false
set_option maxRecDepth 100000
set_option maxHeartbeats 4000000
namespace G
open PySem L2 PySem.Spec PyProof.Rows
variable {M : Md} {H H' H1 H2 : Hp} {ι ι' ι1 ι2 : List Addr} {X : Cx} {W' : WX}
/-! ### e in D, D[e]: D a dict that the module's text writes -/
def inK (kvs : List (Str × W)) (y : W) (E : Hh) : Option (W × Hh) := match y with
  | .str z => some (.bl (kvs.lookup z).isSome, E)
  | _ => none
def ixK (kvs : List (Str × W)) (y : W) (E : Hh) : Option (W × Hh) := match y with
  | .str z => (kvs.lookup z).map fun w => (w, E)
  | _ => none
def kinA (kvs : List (Str × W)) (ca : Act W) : Act W := fun σ E => andThen (ca σ E) fun y E1 => lift (inK kvs y E1)
def kixA (kvs : List (Str × W)) (ca : Act W) : Act W := fun σ E => andThen (ca σ E) fun y E1 => lift (ixK kvs y E1)
theorem Kd.dict {Γ : Gm} {a : Addr} {kvs : List (Str × W)} (at' : At M Γ W' X) (k : Kd M a kvs) : ∃ es n, KDict X.K X.w a es n ∧ ∀ z, ∃ r, PySem.W.nsIn X.K a z = some r ∧ KdV M kvs z r := by
  obtain ⟨es, n, hl, hk, hz⟩ := k.at_
  refine ⟨es, n, ⟨by rw [at'.K]; exact hl, by rw [at'.w]; exact hk, k.low⟩, fun z => ?_⟩
  obtain ⟨r, e, hv⟩ := hz z
  exact ⟨r, by rw [at'.K]; exact e, hv⟩
theorem kin_imp {Γ : Gm} {a : Addr} {kvs : List (Str × W)} {es : Array DictEntry} {n : Nat} {ca : Act W} (hz : ∀ z, ∃ r, PySem.W.nsIn X.K a z = some r ∧ KdV M kvs z r) : ∀ (σ : L2.St) (H : Hp) (Q : VK), SE M W' (kinA kvs ca) σ H Q →
    tOp (fun x y H Q => ∃ (z : Str) (r : Option Value), x = .str z ∧ y = .ref a ∧ PySem.W.nsIn X.K a z = some r ∧ Q (.bl r.isSome) H) (SE M W' ca) (tC (.ref a)) σ H Q := fun σ H Q ⟨ι, E, σE, R, rs, k⟩ =>
  ⟨ι, E, σE, R, rs, (Rs.bind k).imp fun y E1 h1 => fun ι1 H1 v x1 R1 rv => by
    obtain ⟨w, E', e, g⟩ := h1.lift
    unfold inK at e
    split at e
    · rename_i z
      obtain ⟨rfl, rfl⟩ : (.bl (kvs.lookup z).isSome : W) = w ∧ E1 = E' := by simpa using e
      obtain ⟨r, er, hv⟩ := hz z
      refine ⟨z, r, rv, rfl, er, ?_⟩
      have es : r.isSome = (kvs.lookup z).isSome := by
        unfold KdV at hv
        split at hv
        · rename_i w' ew
          obtain ⟨u, v', rfl, _⟩ := hv
          rw [ew]
          rfl
        · rename_i ew
          rw [hv, ew]
          rfl
      rw [es]
      exact g ι1 H1 _ x1 R1 rfl
    · cases e⟩
theorem pe_kinG {Γ : Gm} {x : Str} {e : Expr} {p pos : Pos} {kvs : List (Str × W)} {a : Addr} {ca : Act W} (at' : At M Γ W' X) (hg : Gl X x) (hm : M.mg x = some (.ref a)) (hd : (x == ("__debug__" : Str)) = false) (hk : Kd M a kvs) (he : PE X e (SE M W' ca)) :
    PE X (.Compare e [.In] [.Name x p] pos) (SE M W' (kinA kvs ca)) := by
  obtain ⟨es, n, D, hz⟩ := hk.dict at'
  exact PE.imp (pe_cmpR (op_in_kd D) he (pe_glob (v := .ref a) (u := .ref a) (pos := p) hg (by rw [at'.mg]; exact hm) rfl hd) rfl) (kin_imp (Γ := Γ) (es := es) (n := n) hz)
theorem pt_kinG {Γ : Gm} {x : Str} {e : Expr} {p pos : Pos} {kvs : List (Str × W)} {a : Addr} {ca : Act W} (at' : At M Γ W' X) (hg : Gl X x) (hm : M.mg x = some (.ref a)) (hd : (x == ("__debug__" : Str)) = false) (hk : Kd M a kvs) (he : PE X e (SE M W' ca)) :
    PT X (.Compare e [.In] [.Name x p] pos) (ST M W' (toT (kinA kvs ca))) := by
  obtain ⟨es, n, D, hz⟩ := hk.dict at'
  exact PT.imp (pt_cmpR (op_in_kd D) he (pe_glob (v := .ref a) (u := .ref a) (pos := p) hg (by rw [at'.mg]; exact hm) rfl hd) rfl) fun σ H Q q => tTest_mono (kin_imp (Γ := Γ) (es := es) (n := n) hz) σ H Q (st_test σ H Q q)
theorem pe_kixG {Γ : Gm} {x : Str} {e : Expr} {p pos : Pos} {kvs : List (Str × W)} {a : Addr} {ca : Act W} (at' : At M Γ W' X) (hg : Gl X x) (hm : M.mg x = some (.ref a)) (hd : (x == ("__debug__" : Str)) = false) (hk : Kd M a kvs) (hp : plainIx e = true) (he : PE X e (SE M W' ca)) :
    PE X (.Subscript (.Name x p) e pos) (SE M W' (kixA kvs ca)) := by
  obtain ⟨es, n, D, hz⟩ := hk.dict at'
  refine PE.imp (pe_ix ix_kdict (pe_glob (v := .ref a) (u := .ref a) (pos := p) hg (by rw [at'.mg]; exact hm) rfl hd) he (plainIx_ok hp)) fun σ H Q ⟨ι, E, σE, R, rs, k⟩ => ?_
  refine ⟨ι, E, σE, R, rs, (Rs.bind k).imp fun y E1 h1 => fun ι1 H1 v x1 R1 rv => ?_⟩
  obtain ⟨w, E', e, g⟩ := h1.lift
  unfold ixK at e
  split at e
  · rename_i z
    obtain ⟨r, er, hv⟩ := hz z
    unfold KdV at hv
    cases ez : kvs.lookup z with
    | none => rw [ez] at e; cases e
    | some w0 =>
      rw [ez] at e hv
      obtain ⟨rfl, rfl⟩ : w0 = w ∧ E1 = E' := by simpa using e
      obtain ⟨u, v0, rfl, rv0, rw0⟩ := hv
      exact ⟨a, z, v0, rfl, rv, ⟨es, n, u, D.at_, D.lit, er, rv0⟩, g ι1 H1 v0 x1 R1 (rw0 H1 ι1)⟩
  · cases e
end G

set_option Elab.async false
set_option linter.all false
set_option maxRecDepth 100000
set_option maxHeartbeats 4000000
namespace G
open PySem L2 PySem.Spec PyProof.Rows

/-! ### a set of texts, out of a list of them -/
def put1 (acc : List Str) (x : Str) : List Str := if acc.contains x = true then acc else acc ++ [x]
def dis (xs : List Str) : List Str := xs.foldl put1 []
theorem put1_has (acc : List Str) (x k : Str) : (put1 acc x).contains k = (acc.contains k || decide (k = x)) := by
  unfold put1
  split
  · rename_i h
    by_cases e : k = x
    · subst e
      rw [h]
      rfl
    · simp [e]
  · by_cases e : k = x <;> simp [e]
theorem put1_len (acc : List Str) (x : Str) : (put1 acc x).length = if acc.contains x = true then acc.length else acc.length + 1 := by
  unfold put1
  split <;> simp
theorem dis_snoc {xs : List Str} {i : Nat} {x : Str} (h : xs[i]? = some x) : dis (xs.take (i + 1)) = put1 (dis (xs.take i)) x := by
  unfold dis
  rw [List.take_add_one, h, List.foldl_append]
  rfl
theorem foldl_len : ∀ (xs acc : List Str), (xs.foldl put1 acc).length ≤ acc.length + xs.length
  | [], acc => Nat.le_refl _
  | x :: r, acc => by
    have h := foldl_len r (put1 acc x)
    have h2 := put1_len acc x
    have h3 : (put1 acc x).length ≤ acc.length + 1 := by rw [h2]; split <;> omega
    show (r.foldl put1 (put1 acc x)).length ≤ acc.length + (r.length + 1)
    omega
theorem dis_len (xs : List Str) : (dis xs).length ≤ xs.length := by
  have h := foldl_len xs []
  simpa [dis] using h
abbrev TxS (P : Program) (w : World) (h : Heap) (S : Addr) (xs : List Str) : Prop := h.SetOf (PySem.strKind P w) S (fun k => (dis xs).contains k) (dis xs).length
theorem TxS.at {P : Program} {w : World} {h h' : Heap} {S : Addr} {xs : List Str} (t : TxS P w h S xs) (k : ∀ o, h.get? S = some o → h'.get? S = some o) : TxS P w h' S xs := by
  obtain ⟨o, es, ep, tb, ho, rest⟩ := t
  exact ⟨o, es, ep, tb, k o ho, rest⟩
section
variable {P : Program} {w : World} {A : Around} {R : Result → Shared → Prop} {I : Addr} {fp wr : List Addr} {Gg : Array GenState → Array GenState → Prop} {n : Nat} {Pv : Nat → Value → Prop} {St : Nat → Shared → Prop}
theorem grow (W : WalksS P w A.in1 I fp wr Gg n Pv St) (S : Addr) (out : S ∉ fp) (xs : List Str) (hn : xs.length = n) (room : n + 1 < scanBound) (hv : ∀ i v, Pv i v → ∃ x t, xs[i]? = some x ∧ v = .str x t) :
    ∀ (m i : Nat) (s : Shared), i + m = n → St i s → TxS P w s.heap S (xs.take i) →
      (∀ s', Moved (S :: wr) Gg s s' → TxS P w s'.heap S xs → R (.ok (.ret .none)) s') →
      codeAny (model P w) A (.builtin "set.update.loop" ⟨[.ref S, .ref I], []⟩) R s
  | 0, i, s, hi, st, hS, k => by
    have nw : S ∉ wr := fun h => out (W.sub _ h)
    refine codeAny_builtin PyProof.Rows.F.entry_set_update_loop ?_
    rw [Around.under_plainId PyProof.Rows.F.plain_set_update_loop _]
    refine wpAny_bind (W.done s _ _ (by rw [show n = i by omega]; exact st) fun s' mv => wpAny_pure (k s' (mv.mono fun b hb => List.mem_cons_of_mem _ hb) ?_))
    rw [List.take_of_length_le (by omega)] at hS
    exact hS.at fun o e => mv.heap S o nw e
  | m + 1, i, s, hi, st, hS, k => by
    have nw : S ∉ wr := fun h => out (W.sub _ h)
    refine codeAny_builtin PyProof.Rows.F.entry_set_update_loop ?_
    rw [Around.under_plainId PyProof.Rows.F.plain_set_update_loop _]
    refine wpAny_bind (W.item i s _ _ (by omega) st fun v s1 pv st1 mv => ?_)
    obtain ⟨x, t, hx, rfl⟩ := hv i v pv
    have h1 : TxS P w s1.heap S (xs.take i) := hS.at fun o e => mv.heap S o nw e
    refine wpAny_bind (wpAny_holding ?_)
    unfold setAdd
    refine wpAny_holding (wpAny_bind ((PySem.strKind P w).pyHash (k := x) (strKind_is _ _ _ _) ?_))
    have few : (dis (xs.take i)).length + 1 < scanBound := by
      have := dis_len (xs.take i)
      have : (xs.take i).length ≤ xs.length := by rw [List.length_take]; omega
      omega
    refine wpAny_setAddHashed_of (knd := PySem.strKind P w) (s := { s1 with toks := s1.toks + 1 }) (strKind_is _ _ _ _) rfl h1 few fun h' sb h2 => ?_
    have h3 : TxS P w h' S (xs.take (i + 1)) := by
      refine SetOf_congr h2 (fun k' => ?_) ?_
      · rw [dis_snoc hx, put1_has]
      · rw [dis_snoc hx, put1_len]
    refine wpAny_pure ⟨plainId_quiet PyProof.Rows.F.plain_set_update_loop _, grow W S out xs hn room hv m (i + 1) _ (by omega) (W.frame _ s1 _ _ st1 (Nat.le_succ _) fun b hb o e => (sb.2 b fun z => out (z ▸ hb)).trans e) h3 fun s2 mv2 h4 => ?_⟩
    exact k s2 (Moved.trans W.gtrans ((mv.mono fun b hb => List.mem_cons_of_mem _ hb).then_heap (Nat.le_succ _) fun b o hb e => (sb.2 b fun z => hb (z ▸ List.mem_cons_self)).trans e) mv2) h4
end
end G

set_option Elab.async false
set_option linter.all false
set_option maxRecDepth 100000
set_option maxHeartbeats 4000000
namespace G
open PySem L2 PySem.Spec PyProof.Rows
abbrev sob (led : Bool) : Obj := { cls := .type "set", dict := none, data := .set #[] 0 (.fresh 0 0 led) }
section
variable {P : Program} {w : World} {A : Around} {E : Value → Shared → Prop} {s : Shared}
theorem set_texts {l : Addr} {items : Array Value} {xs : List Str} {Q : Value → Shared → Prop} (hh : A.handled = none) (hl : s.heap.IsList l items) (hn : xs.length = items.size) (room : items.size + 1 < scanBound)
    (hv : ∀ (i : Nat) (v : Value), items[i]? = some v → ∃ (x : Str) (t : Tok), xs[i]? = some x ∧ v = Value.str x t)
    (hq : ∀ h' tk, TxS P w h' s.heap.objs.size xs → (∀ b o, s.heap.get? b = some o → h'.get? b = some o) → Q (.ref s.heap.objs.size) { s with heap := h', toks := tk }) :
    wpAny (model P w) A (call (.type "set") [.ref l]) Q E s := by
  obtain ⟨c, tl, mro⟩ := PySem.F.called_set.mro
  have f1 := PySem.F.called_set.made
  have f2 := PySem.F.called_set.sub
  have f3 := PySem.F.called_set.notType
  have f4 := PySem.F.called_set.canCreate
  have f5 := PySem.F.typeCall_set_1 (.ref l)
  refine wpAny_call (codeAny_of_tree ?_)
  show wpAny _ _ (callAny (.type "set") _) _ _ _
  refine wpAny_pure ⟨Code.quiet_builtin _ (by decide +kernel), codeAny_builtin PySem.F.entry_type_call ?_⟩
  rw [Around.under_plain (weight_type_call_type "set" [.ref l] []) rfl]
  repeat (any_goals (first | assumption | wp_step))
  refine codeAny_mono (code_set_new_1 (.ref l) (E := E) (Q₁ := fun obj s₁ => obj = .ref s.heap.objs.size ∧ ∃ led, s₁ = { s with heap := s.heap.push (sob led) }) fun led => ⟨rfl, led, rfl⟩) fun r s₁ hr => ?_
  match r, hr with
  | .error e, hr => exact hr
  | .ok .next, hr => exact hr.elim
  | .ok .brk, hr => exact hr.elim
  | .ok .cont, hr => exact hr.elim
  | .ok (.ret obj), ⟨e1, led, e2⟩ =>
    subst e1
    subst e2
    have hS : (s.heap.push (sob led)).get? s.heap.objs.size = some (sob led) := Heap.get?_push_size _ rfl
    have hT : Shared.TypeIs { s with heap := s.heap.push (sob led) } (.ref s.heap.objs.size) "set" := ⟨_, hS, rfl⟩
    have g1 := PySem.F.called_set.init.lookup
    have g2 := PySem.F.called_set.init.bind (.ref s.heap.objs.size)
    repeat (any_goals (first | assumption | wp_step))
    refine codeAny_mono (codeAny_call_builtin (R := wants (fun r s₂ => r = .none ∧ ∃ h' tk, s₂ = { s with heap := h', toks := tk } ∧ TxS P w h' s.heap.objs.size xs ∧ ∀ b o, s.heap.get? b = some o → h'.get? b = some o) E) PySem.F.called_set.init.plain PySem.F.entry_set_init (check_set_init_1 hT ?_)) fun r₂ s₂ hr₂ => ?_
    · obtain ⟨ol, hol, hcl, nl, hdl⟩ := hl
      obtain ⟨ocls, odict, odata, oslots⟩ := ol
      simp only at hcl hdl
      subst hcl
      subst hdl
      have hol' : (s.heap.push (sob led)).get? l = some { cls := .type "list", dict := odict, data := .seq items nl, slots := oslots } := Heap.get?_push_of_some _ hol
      have hl1 : (s.heap.push (sob led)).IsList l items := ⟨_, hol', rfl, nl, rfl⟩
      have q1 := PySem.F.sub_list_set
      have q2 := PySem.F.sub_list_frozenset
      have q3 : (Value.type "list" == Value.type "dict") = false := by decide
      unfold Builtin.«set.__init__» noKeywords Builtin.Frozenset.updateFrom
      generalize hPI : pyIter = PI
      wp_walk
      subst hPI
      refine wpAny_pyIter_list hl1 (wpAny_bind (wpAny_runValue ?_))
      have small : l < s.heap.objs.size := Heap.lt_size hol
      have ne1 : l ≠ (s.heap.push (sob led)).objs.size := by
        rw [Heap.size_push]
        exact Nat.ne_of_lt (Nat.lt_succ_of_lt small)
      have out : s.heap.objs.size ∉ [(s.heap.push (sob led)).objs.size, l] := by
        rw [Heap.size_push]
        intro z
        rcases List.mem_cons.mp z with z | z
        · exact Nat.ne_of_lt (Nat.lt_succ_self _) z
        · have z : s.heap.objs.size = l := by simpa using z
          exact Nat.ne_of_gt small z
      have free : A.in1.in1.in1.handled = none := by simp [hh]
      refine grow ((Walks.list free _ l ne1 items).toS) s.heap.objs.size out xs hn room hv items.size 0 _ (Nat.zero_add _) ⟨⟨_, Heap.get?_push_size _ rfl, rfl, rfl⟩, hl1.push _⟩ ?_ fun s' mv h4 => ?_
      · exact SetOf_congr ((setObjOf_fresh (knd := PySem.strKind P w) led).setOf (Heap.get?_push_of_some _ hS) (by unfold scanBound; omega)) (fun _ => rfl) rfl
      · obtain ⟨h', g', d', tk', os'⟩ := s'
        obtain rfl : g' = s.gens := mv.gens
        obtain rfl : d' = s.drawn := mv.drawn
        obtain rfl : os' = s.os := mv.os
        show wpAny _ _ _ _ _ _
        refine wpAny_pure ?_
        show wpAny _ _ (ret Value.none) _ _ _
        refine wpAny_pure ⟨rfl, h', tk', rfl, h4, fun b o e => mv.heap b o (fun z => ?_) (Heap.get?_push_of_some _ (Heap.get?_push_of_some _ e))⟩
        have hb := Heap.lt_size e
        rcases List.mem_cons.mp z with z | z
        · exact Nat.ne_of_lt hb z
        · have z : b = (s.heap.push (sob led)).objs.size := by simpa using z
          rw [Heap.size_push] at z
          exact Nat.ne_of_lt (Nat.lt_succ_of_lt hb) z
    · match r₂, hr₂ with
      | .error e, hr₂ => exact hr₂
      | .ok .next, hr₂ => exact hr₂.elim
      | .ok .brk, hr₂ => exact hr₂.elim
      | .ok .cont, hr₂ => exact hr₂.elim
      | .ok (.ret r), ⟨e1, h', tk, e2, hS', hk'⟩ =>
        subst e1
        subst e2
        repeat (any_goals (first | assumption | wp_step))
        exact hq _ _ hS' hk'
end
end G

set_option Elab.async false
set_option linter.all false
set_option maxRecDepth 100000
set_option maxHeartbeats 4000000
namespace G
open PySem L2 PySem.Spec PyProof.Rows
variable {M : Md} {H H' H1 H2 : Hp} {ι ι' ι1 ι2 : List Addr} {X : Cx} {W' : WX}

/-! ### len(set(xs)), xs a list of texts -/
theorem texts_at : ∀ {xs : List Str} {us : List Value}, Vals (xs.map V.str) us → ∀ (i : Nat) (v : Value), us[i]? = some v → ∃ (x : Str) (t : Tok), xs[i]? = some x ∧ v = Value.str x t
  | [], _, .nil, i, v, h => by simp at h
  | x :: r, _, .cons (b := u) ru rt, 0, v, h => by
    obtain ⟨t, e⟩ := ru
    refine ⟨x, t, rfl, ?_⟩
    have h : u = v := by simpa using h
    rw [← h]
    exact e
  | x :: r, _, .cons ru rt, i + 1, v, h => by
    simpa using texts_at rt i v (by simpa using h)
def tLS (K : PySem.W.Frag) (ta : TE) : TE := fun σ H Q => ta σ H fun x H1 => ∃ (l : Addr) (xs : List Str), x = .ref l ∧ SqL K H1 l (xs.map V.str) ∧ xs.length ≤ 400 ∧ Q (.int (dis xs).length) H1
theorem pe_ls {a : Expr} {ta : TE} {p p2 q pos : Pos} (hc : X.calm = true) (hg : Gl X "len") (hm : X.mg "len" = none) (hg2 : Gl X "set") (hm2 : X.mg "set" = none) (hp : plainArg a = true) (ha : PE X a ta) : PE X (.Call (.Name "len" p) [.Call (.Name "set" p2) [a] [] q] [] pos) (tLS X.K ta) := by
  refine ⟨fun pins s σ H Q I h => Call_ (ld_blt I hg hm boot_len (callWith_builtin1 (args_cons (Call_ (ld_blt I hg2 hm2 boot_set (callWith_type1 (args_cons (thn (ha.run pins s σ H _ I h) fun v s1 hh => args_nil ?_) (starEach_cons hp)) (starEach_cons hp) rfl))) rfl) rfl rfl))⟩
  obtain ⟨x, H1, I1, r1, l, xs, ex, hq, few, q1⟩ := hh
  subst ex
  obtain rfl : v = Value.ref l := r1
  obtain ⟨its, rv, pl, hz⟩ := I1.list hq
  have sz : xs.length = its.toArray.size := by rw [List.size_toArray, ← rv.length, List.length_map]
  refine set_texts (I1.ok.hd hc) pl.isList sz (by rw [← sz]; unfold scanBound; omega) (fun i v hv => texts_at rv i v (by simpa using hv)) fun h' tk hS hk => args_nil ?_
  obtain ⟨o, es, ep, t, ho, hex, hd, _, _, _, hf, hn⟩ := hS
  have dl := dis_len xs
  exact call_len_set ho hex hd hf (by rw [hn]; omega) ⟨.int (dis xs).length, H1, (I1.kept (t' := tk) hk).tok _, ⟨_, by rw [hn]⟩, q1⟩
def lenSet (x : W) (E : Hh) : Option (W × Hh) := match lstOf E x with
  | some (_, ws) => match ws.mapM strOf with
    | some xs => if xs.length ≤ 400 then some (.int (dis xs).length, E) else none
    | none => none
  | none => none
def lenSetA (ca : Act W) : Act W := fun σ E => andThen (ca σ E) fun x E1 => lift (lenSet x E1)
theorem pe_lenSetG {Γ : Gm} {a : Expr} {ca : Act W} {p p2 q pos : Pos} (i : At M Γ W' X) (hg : Gl X "len") (hm : X.mg "len" = none) (hg2 : Gl X "set") (hm2 : X.mg "set" = none) (hp : plainArg a = true) (ha : PE X a (SE M W' ca)) : PE X (.Call (.Name "len" p) [.Call (.Name "set" p2) [a] [] q] [] pos) (SE M W' (lenSetA ca)) :=
  PE.imp (pe_ls i.calm hg hm hg2 hm2 hp ha) fun σ H Q ⟨ι, E, σE, R, rs, k⟩ => ⟨ι, E, σE, R, rs, (Rs.bind k).imp fun x E1 h1 => fun ι1 H1 v x1 R1 rx => by
    obtain ⟨w, E', e, g⟩ := h1.lift
    unfold lenSet at e
    split at e
    · rename_i n ws e1
      split at e
      · rename_i xs e2
        split at e
        · rename_i few
          obtain ⟨rfl, rfl⟩ : (.int (dis xs).length : W) = w ∧ E1 = E' := by simpa using e
          obtain ⟨b, us, _, _, _, rfl, hb, rw'⟩ := lst_ok R1 e1 rx
          rw [strs_ok e2 rw'] at hb
          exact ⟨b, xs, rfl, by rw [i.K]; exact SqL.of hb, few, g ι1 H1 _ x1 R1 rfl⟩
        · cases e
      · cases e
    · cases e⟩
end G

set_option Elab.async false
set_option linter.all false
set_option maxRecDepth 100000
set_option maxHeartbeats 4000000
namespace G
open PySem L2 PySem.Spec PyProof.Rows
variable {M : Md} {H H' H1 H2 : Hp} {ι ι' ι1 ι2 : List Addr} {X : Cx} {W' : WX}

/-! ### which act an expression has -/
def noA {α : Type} : Act α := fun _ _ => none
def glB (Γ : Gm) (x : Str) : Bool := Γ.names.lookup x == some .globalImplicit
theorem glB_ok {Γ : Gm} {x : Str} (a : At M Γ W' X) (h : glB Γ x = true) : Gl X x := by
  unfold Gl Env.kindOf
  rw [a.names]
  simpa [glB] using h
theorem non_ok {P : Pg} {Γ : Gm} {x : Str} (i : In M P Γ W' X) (h : P.non x = true) : X.mg x = none := by
  rw [i.at'.mg]
  exact i.glob.non x h
def when {α : Type} (b : Bool) (c : Act α) : Act α := if b = true then c else noA
theorem pe_when {b : Bool} {e : Expr} {c : Act W} (h : b = true → PE X e (SE M W' c)) : PE X e (SE M W' (when b c)) := by
  unfold when
  split
  · exact h (by assumption)
  · exact pe_no fun _ _ => rfl
theorem pt_when {b : Bool} {e : Expr} {c : Act Bool} (h : b = true → PT X e (ST M W' c)) : PT X e (ST M W' (when b c)) := by
  unfold when
  split
  · exact h (by assumption)
  · exact pt_no fun _ _ => rfl
theorem pi_when {b : Bool} {tg e : Expr} {c : Act Src} (h : b = true → PI X tg e (SI M W' c)) : PI X tg e (SI M W' (when b c)) := by
  unfold when
  split
  · exact h (by assumption)
  · exact pi_no fun _ _ => rfl
def nameE (P : Pg) (Γ : Gm) (x : Str) : Act W := match tyOfN x with
  | some n => if (glB Γ x && P.non x) = true then fun _ E => some (.ok (.ty n) E) else wName P Γ x
  | none => wName P Γ x
theorem pe_nameE {P : Pg} {Γ : Gm} {x : Str} {pos : Pos} (i : In M P Γ W' X) : PE X (.Name x pos) (SE M W' (nameE P Γ x)) := by
  unfold nameE
  split
  · rename_i n hn
    split
    · rename_i h
      rw [Bool.and_eq_true] at h
      exact pe_tyG hn (glB_ok i.at' h.1) (non_ok i h.2)
    · exact pe_name i.at' i.glob
  · exact pe_name i.at' i.glob
/-- what is called by its name -/
def callN (P : Pg) (r : Rc) (Γ : Gm) (x : Str) (e : Expr) (es : List Expr) : Act W :=
  when (glB Γ x && (e :: es).all plainArg) (if P.has x = true then wCall P x (wArgs (r.ev Γ) (e :: es)) else match biOf x with
    | some f => when (P.non x) (wBiXA f (wArgs (r.ev Γ) (e :: es)))
    | none => if x = "max" then when (P.non x) (wMaxA (wArgs (r.ev Γ) (e :: es))) else noA)
theorem pe_callN {P : Pg} {r : Rc} {Γ : Gm} {x : Str} {e : Expr} {es : List Expr} {p pos : Pos} (ok : RcOk M P r) (i : In M P Γ W' X) : PE X (.Call (.Name x p) (e :: es) [] pos) (SE M W' (callN P r Γ x e es)) := by
  refine pe_when fun h => ?_
  rw [Bool.and_eq_true] at h
  have hg := glB_ok i.at' h.1
  have pa := pa_args (ok.ev i) (e :: es)
  split
  · exact pe_callG i.at'.tk i.has hg h.2 pa
  · split
    · rename_i f hf
      exact pe_when fun hn => pe_biXG i.at' hf hg (non_ok i hn) h.2 pa
    · split
      · rename_i hx
        subst hx
        exact pe_when fun hn => pe_maxG i.at' hg (non_ok i hn) h.2 pa
      · exact pe_no fun _ _ => rfl
/-- f() -/
theorem pe_call0G {P : Pg} {Γ : Gm} {x : Str} {p pos : Pos} {ev : Expr → Act W} (i : In M P Γ W' X) (hg : Gl X x) : PE X (.Call (.Name x p) [] [] pos) (SE M W' (wCall P x (wArgs ev []))) := by
  by_cases hx : P.has x = true
  · obtain ⟨k, f, fd, ps, F, hr, hm, hk, hb, hd⟩ := i.has.fn x hx
    refine ⟨fun pins s σ H Q I ⟨ι, E, σE, R, rs, h⟩ => ?_⟩
    refine wpAny_Call_Name_kw (ld_glob I hg hm ?_ hd)
    refine PySem.W.callWith_K0 I.kIn hk (run_fnS (us := []) (vs := []) (E := WE W') F hr hb (L2N.passAt i.at'.tk σ) I .nil ⟨ι, E, [], R, rfl, ?_⟩)
    unfold wCall at h
    rw [if_pos hx] at h
    have h : Rs M W' ι σ H (P.call x [] E) _ := h
    rcases h with ⟨w, E', e, g⟩ | ⟨y, E', e, g⟩
    · exact .inl ⟨w, E', e, g⟩
    · exact .inr ⟨y, E', e, g⟩
  · exact pe_no fun σ E => by unfold wCall; rw [if_neg hx]
def callM (r : Rc) (Γ : Gm) (o : Expr) (name : Str) (es : List Expr) (line : Bool) : Act W := match mkOf name with
  | some k => when (plainBase o && es.all plainArg && decide (es.length < 29) && line) (methA k (r.ev Γ o) (wArgs (r.ev Γ) es))
  | none => noA
theorem pe_callM {P : Pg} {r : Rc} {Γ : Gm} {o : Expr} {name : Str} {es : List Expr} {apos cpos : Pos} (ok : RcOk M P r) (i : In M P Γ W' X) : PE X (.Call (.Attribute o name apos) es [] cpos) (SE M W' (callM r Γ o name es (apos.endLine == cpos.line))) := by
  unfold callM
  split
  · rename_i k hk
    refine pe_when fun h => ?_
    simp only [Bool.and_eq_true, decide_eq_true_eq] at h
    exact pe_methG i.at' hk h.1.1.1 h.1.1.2 h.1.2 h.2 (ok.ev i o) (pa_args (ok.ev i) es)
  · exact pe_no fun _ _ => rfl
/-- D.get(e) -/
def callD (P : Pg) (r : Rc) (Γ : Gm) (o : Expr) (name : Str) (es : List Expr) (line : Bool) : Act W := match o, es with
  | .Name x _, [e] => match P.dct x with
    | some kvs => if name = "get" then when (glB Γ x && plainArg e && line) (kgetA kvs (r.ev Γ e)) else noA
    | none => callM r Γ o name es line
  | _, _ => callM r Γ o name es line
theorem pe_callD {P : Pg} {r : Rc} {Γ : Gm} {o : Expr} {name : Str} {es : List Expr} {apos cpos : Pos} (ok : RcOk M P r) (i : In M P Γ W' X) : PE X (.Call (.Attribute o name apos) es [] cpos) (SE M W' (callD P r Γ o name es (apos.endLine == cpos.line))) := by
  unfold callD
  split
  · split
    · rename_i kvs hk
      split
      · rename_i hn
        subst hn
        refine pe_when fun h => ?_
        simp only [Bool.and_eq_true] at h
        obtain ⟨a, hm, hd, kd⟩ := i.glob.dct _ _ hk
        exact pe_kgetG i.at' (glB_ok i.at' h.1.1) hm hd kd h.1.2 h.2 (ok.ev i _)
      · exact pe_no fun _ _ => rfl
    · exact pe_callM ok i
  · exact pe_callM ok i
def callE (P : Pg) (r : Rc) (Γ : Gm) (cpos : Pos) : Expr → List Expr → List Keyword → Act W
  | .Name x _, [.Call (.Name y p2) [a] [] q], [] => if x = "len" ∧ y = "set" then when (glB Γ x && P.non x && glB Γ y && P.non y && plainArg a) (lenSetA (r.ev Γ a)) else
    if x = "list" ∧ y = "enumerate" then when (glB Γ x && P.non x && glB Γ y && P.non y && plainArg a) (enuLA (r.ev Γ a)) else callN P r Γ x (.Call (.Name y p2) [a] [] q) []
  | .Name x _, [.Call (.Attribute o name apos) [] [] cpos'], [] => if x = "list" ∧ name = "values" then when (glB Γ x && P.non x && plainBase o && (apos.endLine == cpos'.line)) (valLA (r.ev Γ o)) else callN P r Γ x (.Call (.Attribute o name apos) [] [] cpos') []
  | .Name x _, e :: es, [] => callN P r Γ x e es
  | .Name x _, [], [] => when (glB Γ x) (wCall P x (wArgs (r.ev Γ) []))
  | .Attribute o name apos, es, [] => callD P r Γ o name es (apos.endLine == cpos.line)
  | _, _, _ => noA
theorem pe_callE {P : Pg} {r : Rc} {Γ : Gm} {f : Expr} {es : List Expr} {ks : List Keyword} {pos : Pos} (ok : RcOk M P r) (i : In M P Γ W' X) : PE X (.Call f es ks pos) (SE M W' (callE P r Γ pos f es ks)) := by
  unfold callE
  split
  · split
    · rename_i hx
      obtain ⟨rfl, rfl⟩ := hx
      refine pe_when fun h => ?_
      simp only [Bool.and_eq_true] at h
      exact pe_lenSetG i.at' (glB_ok i.at' h.1.1.1.1) (non_ok i h.1.1.1.2) (glB_ok i.at' h.1.1.2) (non_ok i h.1.2) h.2 (ok.ev i _)
    · split
      · rename_i hx
        obtain ⟨rfl, rfl⟩ := hx
        refine pe_when fun h => ?_
        simp only [Bool.and_eq_true] at h
        exact pe_enuL i.at'.K i.at'.calm (glB_ok i.at' h.1.1.1.1) (non_ok i h.1.1.1.2) (glB_ok i.at' h.1.1.2) (non_ok i h.1.2) h.2 (ok.ev i _)
      · exact pe_callN ok i
  · split
    · rename_i hx
      obtain ⟨rfl, rfl⟩ := hx
      refine pe_when fun h => ?_
      simp only [Bool.and_eq_true] at h
      exact pe_valL i.at' (glB_ok i.at' h.1.1.1) (non_ok i h.1.1.2) h.1.2 h.2 (ok.ev i _)
    · exact pe_callN ok i
  · exact pe_callN ok i
  · exact pe_when fun h => pe_call0G i (glB_ok i.at' h)
  · exact pe_callD ok i
  · exact pe_no fun _ _ => rfl
/-! ### [] -/
def isRev : Expr → Bool
  | .Slice none none (some (.UnaryOp .USub (.Constant (.int 1) _ _) _)) _ => true
  | _ => false
def subK (P : Pg) (r : Rc) (Γ : Gm) (a b : Expr) : Act W := match a with
  | .Name x p => match P.dct x with
    | some kvs => when (glB Γ x && plainIx b) (kixA kvs (r.ev Γ b))
    | none => when (plainIx b) (wIxNA (r.ev Γ (.Name x p)) (r.ev Γ b))
  | a => when (plainIx b) (wIxNA (r.ev Γ a) (r.ev Γ b))
def subE (P : Pg) (r : Rc) (Γ : Gm) (a : Expr) : Expr → Act W
  | .Slice none none (some (.UnaryOp .USub (.Constant (.int 1) _ _) _)) _ => wBack (r.ev Γ a)
  | .Slice lo hi none _ => wSl (r.ev Γ a) (wPart (r.ev Γ) lo) (wPart (r.ev Γ) hi)
  | b => subK P r Γ a b
theorem pe_subE {P : Pg} {r : Rc} {Γ : Gm} {a b : Expr} {pos : Pos} (ok : RcOk M P r) (i : In M P Γ W' X) : PE X (.Subscript a b pos) (SE M W' (subE P r Γ a b)) := by
  unfold subE
  split
  · exact pe_backG i.at'.K (ok.ev i a)
  · exact pe_slG i.at'.K (ok.ev i a) (po_part (ok.ev i) _) (po_part (ok.ev i) _)
  · unfold subK
    split
    · split
      · rename_i kvs hk
        refine pe_when fun h => ?_
        rw [Bool.and_eq_true] at h
        obtain ⟨d, hm, hd, kd⟩ := i.glob.dct _ _ hk
        exact pe_kixG i.at' (glB_ok i.at' h.1) hm hd kd h.2 (ok.ev i _)
      · exact pe_when fun h => pe_ixNG i.at' h (ok.ev i _) (ok.ev i _)
    · exact pe_when fun h => pe_ixNG i.at' h (ok.ev i _) (ok.ev i _)
/-! ### comprehensions, the dicts that they walk over locked -/
def lkName (Γ : Gm) : Expr → Option Nat
  | .Name x _ => ixOf x Γ.N
  | .Call (.Attribute (.Name x _) _ _) [] [] _ => ixOf x Γ.N
  | _ => none
def lkAt (o : Option Nat) : Sg → Hh → Option Nat := fun σ _ => o.bind fun i => match (σ : List (Option W))[i]? with
  | some (some (.ref n)) => some n
  | _ => none
def isDict : O → Bool
  | .dK _ => true
  | .dN _ => true
  | _ => false
/-- the dict to lock, if there is one -/
def lkIx (o : Option Nat) : Sg → Hh → Option Nat := fun σ E => (lkAt o σ E).bind fun n => match (E : List O)[n]? with
  | some ob => if isDict ob = true then some n else none
  | none => none
def lockD (o : Option Nat) (ca : Act W) : Act W := lockE (lkIx o) ca
def lockAllS (Γ : Gm) : List Comprehension → ActS → ActS
  | [], ca => ca
  | g :: gs, ca => lockS (lkIx (lkName Γ g.iter)) (lockAllS Γ gs ca)
theorem ps_lockAllS {Γ : Gm} {s : Stmt} {ca : ActS} (h : PS X s (SS M W' ca)) : ∀ gs, PS X s (SS M W' (lockAllS Γ gs ca))
  | [] => h
  | g :: gs => ps_lockG (ps_lockAllS h gs)
def lockAll (Γ : Gm) : List Comprehension → Act W → Act W
  | [], ca => ca
  | g :: gs, ca => lockD (lkName Γ g.iter) (lockAll Γ gs ca)
theorem pe_lockAll {Γ : Gm} {e : Expr} {ca : Act W} (h : PE X e (SE M W' ca)) : ∀ gs, PE X e (SE M W' (lockAll Γ gs ca))
  | [] => h
  | g :: gs => pe_lockG (pe_lockAll h gs)
/-! ### compares -/
def cmp1 (P : Pg) (r : Rc) (Γ : Gm) (a : Expr) : CmpOp → Expr → Act W
  | .In, .Name x p => match P.dct x with
    | some kvs => when (glB Γ x) (kinA kvs (r.ev Γ a))
    | none => when (!behindInMarks .In (.Name x p)) (wCmpNA .In (r.ev Γ a) (r.ev Γ (.Name x p)))
  | op, b => when (!behindInMarks op b) (wCmpNA op (r.ev Γ a) (r.ev Γ b))
def cmpE (P : Pg) (r : Rc) (Γ : Gm) (a : Expr) : List CmpOp → List Expr → Act W
  | [op], [b] => cmp1 P r Γ a op b
  | [op, op'], [b, c] => when (!behindInMarks op' c) (wChain op op' (r.ev Γ a) (r.ev Γ b) (r.ev Γ c))
  | _, _ => noA
theorem not_eq {b : Bool} (h : (!b) = true) : b = false := by simpa using h
theorem pe_cmpE {P : Pg} {r : Rc} {Γ : Gm} {a : Expr} {ops : List CmpOp} {es : List Expr} {pos : Pos} (ok : RcOk M P r) (i : In M P Γ W' X) : PE X (.Compare a ops es pos) (SE M W' (cmpE P r Γ a ops es)) := by
  unfold cmpE
  split
  · unfold cmp1
    split
    · split
      · rename_i kvs hk
        refine pe_when fun h => ?_
        obtain ⟨d, hm, hd, kd⟩ := i.glob.dct _ _ hk
        exact pe_kinG i.at' (glB_ok i.at' h) hm hd kd (ok.ev i _)
      · exact pe_when fun h => pe_cmpNG i.at' (not_eq h) (ok.ev i _) (ok.ev i _)
    · exact pe_when fun h => pe_cmpNG i.at' (not_eq h) (ok.ev i _) (ok.ev i _)
  · exact pe_when fun h => pe_chainG i.at'.K i.at'.units (not_eq h) (ok.ev i _) (ok.ev i _) (ok.ev i _)
  · exact pe_no fun _ _ => rfl
def cmpT1 (P : Pg) (r : Rc) (Γ : Gm) (a : Expr) : CmpOp → Expr → Act Bool
  | .In, .Name x p => match P.dct x with
    | some kvs => when (glB Γ x) (toT (kinA kvs (r.ev Γ a)))
    | none => when (!behindInMarks .In (.Name x p)) (toT (wCmpNA .In (r.ev Γ a) (r.ev Γ (.Name x p))))
  | op, b => when (!behindInMarks op b) (toT (wCmpNA op (r.ev Γ a) (r.ev Γ b)))
def cmpT (P : Pg) (r : Rc) (Γ : Gm) (a : Expr) : List CmpOp → List Expr → Act Bool
  | [op], [b] => cmpT1 P r Γ a op b
  | [op, op'], [b, c] => when (!behindInMarks op' c) (toT (wChain op op' (r.ev Γ a) (r.ev Γ b) (r.ev Γ c)))
  | _, _ => noA
theorem pt_cmpT {P : Pg} {r : Rc} {Γ : Gm} {a : Expr} {ops : List CmpOp} {es : List Expr} {pos : Pos} (ok : RcOk M P r) (i : In M P Γ W' X) : PT X (.Compare a ops es pos) (ST M W' (cmpT P r Γ a ops es)) := by
  unfold cmpT
  split
  · unfold cmpT1
    split
    · split
      · rename_i kvs hk
        refine pt_when fun h => ?_
        obtain ⟨d, hm, hd, kd⟩ := i.glob.dct _ _ hk
        exact pt_kinG i.at' (glB_ok i.at' h) hm hd kd (ok.ev i _)
      · exact pt_when fun h => pt_cmpNG i.at' (not_eq h) (ok.ev i _) (ok.ev i _)
    · exact pt_when fun h => pt_cmpNG i.at' (not_eq h) (ok.ev i _) (ok.ev i _)
  · exact pt_when fun h => pt_chainG i.at'.K i.at'.units (not_eq h) (ok.ev i _) (ok.ev i _) (ok.ev i _)
  · exact pt_no fun _ _ => rfl
/-! ### one step of expressions -/
def stepE0 (P : Pg) (r : Rc) (Γ : Gm) : Expr → Act W
  | .Constant c _ _ => wConst c
  | .Name x _ => nameE P Γ x
  | .Tuple es _ _ => wTup (wArgsS (r.ev Γ) es)
  | .List es _ => wLst (wArgsS (r.ev Γ) es)
  | .Dict [] [] _ => fun _ E => some (.ok (.ref E.length) (E ++ [.dK []]))
  | .Dict [none, none] [a, b] _ => ddA (r.ev Γ a) (r.ev Γ b)
  | .BinOp a op b _ => wBinA op (r.ev Γ a) (r.ev Γ b)
  | .UnaryOp op a _ => wUn op (r.ev Γ a)
  | .BoolOp op es _ => allE op (r.ev Γ) es
  | .Compare a ops es _ => cmpE P r Γ a ops es
  | .IfExp c a b _ => wIf (r.te Γ c) (r.ev Γ a) (r.ev Γ b)
  | .Subscript a b _ => subE P r Γ a b
  | .Call f es ks pos => callE P r Γ pos f es ks
  | .ListComp elt gens scope _ => lockAll Γ gens (ckE r Γ (.l elt) gens scope)
  | .DictComp k v gens scope _ => lockAll Γ gens (ckE r Γ (.d k v) gens scope)
  | _ => noA
theorem stepE0_ok {P : Pg} {r : Rc} {Γ : Gm} (ok : RcOk M P r) (i : In M P Γ W' X) : ∀ e, PE X e (SE M W' (stepE0 P r Γ e)) := fun e => by
  unfold stepE0
  split
  · exact pe_const
  · exact pe_nameE i
  · exact pe_tupG (pa_argsS i.at'.K (ok.ev i) _)
  · exact pe_lstG (pa_argsS i.at'.K (ok.ev i) _)
  · exact pe_dnewG
  · exact pe_ddG (ok.ev i _) (ok.ev i _)
  · exact pe_binG i.at'.K (ok.ev i _) (ok.ev i _)
  · exact pe_unG i.at'.K (ok.ev i _)
  · exact pe_all i.at'.K (ok.ev i) _
  · exact pe_cmpE ok i
  · exact pe_ifG (ok.te i _) (ok.ev i _) (ok.ev i _)
  · exact pe_subE ok i
  · exact pe_callE ok i
  · exact pe_lockAll (pe_ckG (c := .l _) ok i) _
  · exact pe_lockAll (pe_ckG (c := .d _ _) ok i) _
  · exact pe_no fun _ _ => rfl
/-- what is hooked goes ahead -/
def stepE (P : Pg) (r : Rc) (Γ : Gm) (e : Expr) : Act W := match Γ.hk e with
  | some c => c
  | none => stepE0 P r Γ e
theorem stepE_ok {P : Pg} {r : Rc} {Γ : Gm} (ok : RcOk M P r) (i : In M P Γ W' X) : ∀ e, PE X e (SE M W' (stepE P r Γ e)) := fun e => by
  unfold stepE
  split
  · rename_i c h
    exact i.hk e c h
  · exact stepE0_ok ok i e
/-! ### of tests -/
def stepT (P : Pg) (r : Rc) (Γ : Gm) : Expr → Act Bool
  | .UnaryOp .Not a _ => notT (r.te Γ a)
  | .BoolOp op es _ => allT op (r.te Γ) es
  | .Compare a ops es _ => cmpT P r Γ a ops es
  | e => when (plainTest e) (byTruN (r.ev Γ e))
theorem stepT_ok {P : Pg} {r : Rc} {Γ : Gm} (ok : RcOk M P r) (i : In M P Γ W' X) : ∀ e, PT X e (ST M W' (stepT P r Γ e)) := fun e => by
  unfold stepT
  split
  · exact pt_notG (ok.te i _)
  · exact (pw_all (ok.te i) _).pt
  · exact pt_cmpT ok i
  · exact pt_when fun h => pt_truNG i.at'.K h (ok.ev i _)
/-! ### of what `for` walks over -/
def isTupE : Expr → Bool
  | .Tuple _ _ _ => true
  | _ => false
theorem isTupE_ok {tg : Expr} (h : isTupE tg = true) : ∃ es k p, tg = .Tuple es k p := by
  cases tg <;> first | exact ⟨_, _, _, rfl⟩ | cases h
def srcC (P : Pg) (r : Rc) (Γ : Gm) (tg : Expr) (x : Str) : List Expr → Act Src
  | [a] => if x = "range" then when (glB Γ x && P.non x && plainArg a) (rng1I (wArgs (r.ev Γ) [a])) else
    if x = "enumerate" then when (glB Γ x && P.non x && plainArg a && isTupE tg) (srcI enumF (wArgs (r.ev Γ) [a])) else noA
  | [a, b] => if x = "zip" then when (glB Γ x && P.non x && [a, b].all plainArg && isTupE tg) (srcI zipF (wArgs (r.ev Γ) [a, b])) else noA
  | _ => noA
def isSrcN (x : Str) : Bool := decide (x = "range") || decide (x = "enumerate") || decide (x = "zip")
def stepI (P : Pg) (r : Rc) (Γ : Gm) (tg : Expr) : Expr → Act Src
  | .Call (.Name x p) es [] pos => if isSrcN x = true then srcC P r Γ tg x es else keyI (r.ev Γ (.Call (.Name x p) es [] pos))
  | .Call (.Attribute o name apos) [] [] cpos => if name = "items" then when (isTupE tg && plainBase o && (apos.endLine == cpos.line)) (itemI (r.ev Γ o)) else keyI (r.ev Γ (.Call (.Attribute o name apos) [] [] cpos))
  | e => keyI (r.ev Γ e)
theorem srcC_ok {P : Pg} {r : Rc} {Γ : Gm} {tg : Expr} {x : Str} {es : List Expr} {p pos : Pos} (ok : RcOk M P r) (i : In M P Γ W' X) : PI X tg (.Call (.Name x p) es [] pos) (SI M W' (srcC P r Γ tg x es)) := by
  unfold srcC
  split
  · split
    · rename_i hx
      subst hx
      refine pi_when fun h => ?_
      simp only [Bool.and_eq_true] at h
      exact pi_rng1G (glB_ok i.at' h.1.1) (non_ok i h.1.2) h.2 (pa_args (ok.ev i) _)
    · split
      · rename_i hx
        subst hx
        refine pi_when fun h => ?_
        simp only [Bool.and_eq_true] at h
        obtain ⟨_, _, _, rfl⟩ := isTupE_ok h.2
        exact pi_enuG i.at'.K (glB_ok i.at' h.1.1.1) (non_ok i h.1.1.2) h.1.2 (pa_args (ok.ev i) _)
      · exact pi_no fun _ _ => rfl
  · split
    · rename_i hx
      subst hx
      refine pi_when fun h => ?_
      simp only [Bool.and_eq_true] at h
      obtain ⟨_, _, _, rfl⟩ := isTupE_ok h.2
      exact pi_zipG i.at'.K (glB_ok i.at' h.1.1.1) (non_ok i h.1.1.2) h.1.2 (pa_args (ok.ev i) _)
    · exact pi_no fun _ _ => rfl
  · exact pi_no fun _ _ => rfl
theorem stepI_ok {P : Pg} {r : Rc} {Γ : Gm} (ok : RcOk M P r) (i : In M P Γ W' X) : ∀ tg e, plainSrc e = true → PI X tg e (SI M W' (stepI P r Γ tg e)) := fun tg e _ => by
  unfold stepI
  split
  · split
    · exact srcC_ok ok i
    · exact pi_keyG i.at'.K (ok.ev i _)
  · split
    · rename_i hn
      subst hn
      refine pi_when fun h => ?_
      simp only [Bool.and_eq_true] at h
      obtain ⟨_, _, _, rfl⟩ := isTupE_ok h.1.1
      exact pi_itemG (plainBase_ok h.1.2) h.2 (ok.ev i _)
    · exact pi_keyG i.at'.K (ok.ev i _)
  · exact pi_keyG i.at'.K (ok.ev i _)
/-! ### the recursion -/
def rcs (P : Pg) : Nat → Rc
  | 0 => ⟨fun _ _ => noA, fun _ _ => noA, fun _ _ _ => noA⟩
  | n + 1 => ⟨fun Γ e => stepE P (rcs P n) Γ e, fun Γ e => stepT P (rcs P n) Γ e, fun Γ tg e => stepI P (rcs P n) Γ tg e⟩
theorem rcs_ok {P : Pg} : ∀ n, RcOk M P (rcs P n)
  | 0 => ⟨fun _ _ => pe_no fun _ _ => rfl, fun _ _ => pt_no fun _ _ => rfl, fun _ _ _ _ => pi_no fun _ _ => rfl⟩
  | n + 1 => ⟨fun i e => stepE_ok (rcs_ok n) i e, fun i e => stepT_ok (rcs_ok n) i e, fun i tg e h => stepI_ok (rcs_ok n) i tg e h⟩
end G

set_option Elab.async false
set_option linter.all false
set_option maxRecDepth 100000
set_option maxHeartbeats 4000000
namespace G
open PySem L2 PySem.Spec PyProof.Rows
variable {M : Md} {H H' H1 H2 : Hp} {ι ι' ι1 ι2 : List Addr} {X : Cx} {W' : WX}

/-! ### targets -/
def noS : ActS := fun _ _ => none
def noG : ActG := fun _ _ _ => none
def tgsA (f : Expr → ActG) : List Expr → ActGs
  | [] => nilG
  | e :: es => consG (f e) (tgsA f es)
def tgA (r : Rc) (Γ : Gm) : Nat → Expr → ActG
  | 0, _ => noG
  | n + 1, e => match e with
    | .Name x _ => nameG Γ x
    | .Tuple es _ _ => if es.all plainTg = true then unG es.length (tgsA (tgA r Γ n) es) else noG
    | .Subscript o i _ => if plainIx i = true then subNG (r.ev Γ o) (r.ev Γ i) else noG
    | _ => noG
theorem pgs_tgs {f : Expr → ActG} (hW : Wind W') (h : ∀ e, PG X e (SG M W' (f e))) : ∀ {es : List Expr}, es.all plainTg = true → PGs X es (SGs M W' (tgsA f es))
  | [], _ => pgs_nilG
  | e :: es, hp => by
    rw [List.all_cons, Bool.and_eq_true] at hp
    exact pgs_consG hW hp.1 (h e) (pgs_tgs hW h hp.2)
theorem tgA_ok {P : Pg} {r : Rc} {Γ : Gm} (ok : RcOk M P r) (i : In M P Γ W' X) : ∀ n e, PG X e (SG M W' (tgA r Γ n e))
  | 0, e => pg_no fun _ _ _ => by unfold tgA; rfl
  | n + 1, e => by
    unfold tgA
    split
    · exact pg_nameG i.at'
    · split
      · exact pg_unG i.at'.K i.at'.calm (by assumption) (pgs_tgs i.wind (tgA_ok ok i n) (by assumption))
      · exact pg_no fun _ _ _ => rfl
    · split
      · exact pg_subNG i.at' (by assumption) (ok.ev i _) (ok.ev i _)
      · exact pg_no fun _ _ _ => rfl
    · exact pg_no fun _ _ _ => rfl
/-! ### statements -/
def blkA (f : Stmt → ActS) : List Stmt → ActS
  | [] => nilS
  | s :: r => seqS (f s) (blkA f r)
theorem blkA_ok {f : Stmt → ActS} (hW : Wind W') (h : ∀ s, PS X s (SS M W' (f s))) : ∀ ss, PSs X ss (SS M W' (blkA f ss))
  | [] => pss_nilG
  | s :: r => pss_consG hW (h s) (blkA_ok hW h r)
/-- x = e, where e is no display's comprehension; pairs by pairs -/
def asgA (P : Pg) (r : Rc) (Γ : Gm) (tg : Expr) : Expr → ActS
  | .ListComp elt gens scope _ => match tg with
    | .Name y _ => lockAllS Γ gens (nameS Γ y (ckE r Γ (.l elt) gens scope))
    | _ => noS
  | .DictComp k v gens scope _ => match tg with
    | .Name y _ => lockAllS Γ gens (nameS Γ y (ckE r Γ (.d k v) gens scope))
    | _ => noS
  | .Tuple vs k2 pt2 => match tg with
    | .Tuple ts kt pt => match swF Γ.names ts vs with
      | some none => asgS (r.ev Γ (.Tuple vs k2 pt2)) (tgA r Γ 9 (.Tuple ts kt pt))
      | some (some [a, b]) => match ts, vs with
        | [.Name x _, .Name y _], [e, f] => if x = a ∧ y = b then par2 Γ x y (wArgsS (r.ev Γ) [e, f]) else noS
        | _, _ => noS
      | some (some [a, b, c]) => match ts, vs with
        | [.Name x _, .Name y _, .Name z _], [e, f, g] => if x = a ∧ y = b ∧ z = c then par3 Γ x y z (wArgsS (r.ev Γ) [e, f, g]) else noS
        | _, _ => noS
      | _ => noS
    | .Name y p => if plainTg tg = true then asgS (r.ev Γ (.Tuple vs k2 pt2)) (tgA r Γ 9 tg) else noS
    | .Subscript o ix p => if plainTg tg = true then asgS (r.ev Γ (.Tuple vs k2 pt2)) (tgA r Γ 9 tg) else noS
    | _ => noS
  | e => if (plainDrop e && notTup e && plainTg tg) = true then asgS (r.ev Γ e) (tgA r Γ 9 tg) else noS
theorem ps_asgA {P : Pg} {r : Rc} {Γ : Gm} {tg e : Expr} {pos : Pos} (ok : RcOk M P r) (i : In M P Γ W' X) : PS X (.Assign [tg] e pos) (SS M W' (asgA P r Γ tg e)) := by
  unfold asgA
  split
  · split
    · exact ps_lockAllS (ps_ckG (c := .l _) ok i) _
    · exact ps_no fun _ _ => rfl
  · split
    · exact ps_lockAllS (ps_ckG (c := .d _ _) ok i) _
    · exact ps_no fun _ _ => rfl
  · split
    · split
      · rename_i h
        exact ps_tupG i.at' h (ok.ev i _) (tgA_ok ok i 9 _)
      · rename_i a b h
        split
        · split
          · rename_i hx
            obtain ⟨rfl, rfl⟩ := hx
            exact ps_par2G i.at' h (pa_argsS i.at'.K (ok.ev i) _)
          · exact ps_no fun _ _ => rfl
        · exact ps_no fun _ _ => rfl
      · rename_i a b c h
        split
        · split
          · rename_i hx
            obtain ⟨rfl, rfl, rfl⟩ := hx
            exact ps_par3G i.at' h (pa_argsS i.at'.K (ok.ev i) _)
          · exact ps_no fun _ _ => rfl
        · exact ps_no fun _ _ => rfl
      · exact ps_no fun _ _ => rfl
    · split
      · refine PS.imp (ps_asg (ok.ev i _) (tgA_ok ok i 9 _) rfl rfl rfl) fun D σ H ⟨ι, E, σE, R, rs, k⟩ => ⟨ι, E, σE, R, rs, (Rs.bind k).imp fun w E1 h1 => fun ι1 H1 v x1 R1 rv => 
          ⟨ι1, E1, σE, w, R1, rs.ext x1, rv, (h1.bind.ext x1).imp fun σ1 E2 h2 => fun ι2 H2 σ' x2 R2 rs2 => h2.ok ι2 H2 (x1.trans x2) R2 σ' rs2⟩⟩
      · exact ps_no fun _ _ => rfl
    · split
      · refine PS.imp (ps_asg (ok.ev i _) (tgA_ok ok i 9 _) rfl rfl rfl) fun D σ H ⟨ι, E, σE, R, rs, k⟩ => ⟨ι, E, σE, R, rs, (Rs.bind k).imp fun w E1 h1 => fun ι1 H1 v x1 R1 rv => 
          ⟨ι1, E1, σE, w, R1, rs.ext x1, rv, (h1.bind.ext x1).imp fun σ1 E2 h2 => fun ι2 H2 σ' x2 R2 rs2 => h2.ok ι2 H2 (x1.trans x2) R2 σ' rs2⟩⟩
      · exact ps_no fun _ _ => rfl
    · exact ps_no fun _ _ => rfl
  · split
    · rename_i h
      simp only [Bool.and_eq_true] at h
      exact ps_asgG h.1.1 h.1.2 h.2 (ok.ev i _) (tgA_ok ok i 9 _)
    · exact ps_no fun _ _ => rfl
def raiseA (P : Pg) (Γ : Gm) : Option Expr → Option Expr → ActS
  | some (.Call (.Name x _) [.Constant (.str _) _ _] [] _), none => if glB Γ x = true then raiseS P x else noS
  | _, _ => noS
def stepS (P : Pg) (r : Rc) (Γ : Gm) : Nat → Stmt → ActS
  | 0, _ => noS
  | n + 1, s => match s with
    | .Return (some e) _ => retS (r.ev Γ e)
    | .Return none _ => fun _ E => some (.ok (.rt .non) E)
    | .Pass _ => nilS
    | .Break _ => fun σ E => some (.ok (.bk σ) E)
    | .Continue _ => fun σ E => some (.ok (.ct σ) E)
    | .Expr e _ => if plainDrop e = true then dropS (r.ev Γ e) else noS
    | .If e a b _ => ifS (r.te Γ e) (blkA (stepS P r Γ n) a) (blkA (stepS P r Γ n) b)
    | .While e body [] _ => loopW (r.te Γ e) (blkA (stepS P r Γ n) body) few
    | .For tg e body [] _ => if plainSrc e = true then lockS (lkIx (lkName Γ e)) (forS (r.src Γ tg e) (tgA r Γ 9 tg) (blkA (stepS P r Γ n) body)) else noS
    | .Assign [tg] e _ => asgA P r Γ tg e
    | .AugAssign (.Name x _) op e _ => augS Γ x op (r.ev Γ e)
    | .Raise c a _ => raiseA P Γ c a
    | _ => noS
theorem stepS_ok {P : Pg} {r : Rc} {Γ : Gm} (ok : RcOk M P r) (i : In M P Γ W' X) : ∀ n s, PS X s (SS M W' (stepS P r Γ n s))
  | 0, s => ps_no fun _ _ => by unfold stepS; rfl
  | n + 1, s => by
    have ih := blkA_ok i.wind (stepS_ok ok i n)
    unfold stepS
    split
    · exact ps_retG (ok.ev i _)
    · exact ps_retNG
    · exact ps_passG
    · exact ps_breakG
    · exact ps_contG
    · split
      · exact ps_exprG (by assumption) (ok.ev i _)
      · exact ps_no fun _ _ => rfl
    · exact ps_ifSG (ok.te i _) (ih _) (ih _)
    · exact ps_whileG i.wind i.at'.own (ok.te i _) (ih _)
    · split
      · rename_i h
        refine ps_lockG ?_
        exact ps_forG i.wind i.at'.own i.at'.calm (ok.src i _ _ h) (tgA_ok ok i 9 _) (ih _) (plainSrc_ok h _)
      · exact ps_no fun _ _ => rfl
    · exact ps_asgA ok i
    · exact ps_augG i.at' (ok.ev i _)
    · unfold raiseA
      split
      · split
        · rename_i h
          exact ps_raiseG i (glB_ok i.at' h)
        · exact ps_no fun _ _ => rfl
      · exact ps_no fun _ _ => rfl
    · exact ps_no fun _ _ => rfl
/-- a body's act -/
def bodyA (P : Pg) (n : Nat) (Γ : Gm) (ss : List Stmt) : ActS := blkA (stepS P (rcs P n) Γ 30) ss
theorem bodyA_ok {P : Pg} {n : Nat} {Γ : Gm} (i : In M P Γ W' X) (ss : List Stmt) : PSs X ss (SS M W' (bodyA P n Γ ss)) := blkA_ok i.wind (stepS_ok (rcs_ok n) i 30) ss
end G

set_option Elab.async false
set_option linter.all false
set_option maxRecDepth 100000
set_option maxHeartbeats 4000000
namespace G
open PySem L2 PySem.Spec PyProof.Rows
variable {X : Cx} {pins : List (Addr × Obj)} {σ : L2.St} {H HZ : Hp} {s s1 : Shared}
/-! ### a lambda whose errors bear no context -/
abbrev outN (X : Cx) (A : Around) (outer : List Env) (s : Shared) (H : Hp) (E : XK) (env : Env) : Value → Shared → Prop := fun e s' => wpAny (model X.prog X.w) A (leaving env e) (fun _ s2 => L2N.CX X.prog X.w outer H s E e s2) (fun e2 s2 => L2N.CX X.prog X.w outer H s E e2 s2) s'
/-- the lambda's context -/
def lamN (X : Cx) (A : Around) (outer : List Env) (s : Shared) (H : Hp) (E : XK) (scope : Scope) (f c' : Addr) : Cx :=
  (LamX.lamCx X A outer s H E scope f c').wish (outN X (A.deeper (LamX.lamEnv X scope s.heap.objs.size f c')) outer s H E (LamX.lamEnv X scope s.heap.objs.size f c'))
/-- the context of the def g that got the lambda, entered at s -/
abbrev gotZ (X : Cx) (Ng : List Str) (x : Str) (sg : Scope) (g : Addr) (cdg : Value) (s : Shared) (H : Hp) : Cx := cxOf C8.CX0 X.prog X.w X.K X.mg X.base Ng x sg g cdg X.A X.stack s H C8.E0
/-- what it gives, of the lambda f with the code object c' -/
def GivesN (X : Cx) (Ng : List Str) (x : Str) (sg : Scope) (g : Addr) (cdg : Value) (bg : List Stmt) (a q : Str) (TT : (XK → Hp → VK → Prop) → Hp → VK → Prop) : Prop :=
  ∀ (f c' : Addr) (s : Shared) (H : Hp) (Q : VK) (tl : XK → Hp → VK → Prop),
    (∀ (W : WX) (pn : List (Addr × Obj)) (xe : Value → Shared → Prop) (E : XK) (p1 p2 : Pos), L2N.Takes ((gotZ X Ng x sg g cdg s H).tr pn xe) W → (∀ cls d σ' H', E cls d H' → W cls d σ' H') →
      PE ((gotZ X Ng x sg g cdg s H).tr pn xe) (.Call (.Name a p1) [] [] p2) fun σZ HZ Q => σZ[0]? = some (some (.ref f)) ∧ HZ c' = some (LamX.CodeO c' q) ∧ tl E HZ Q) →
    H c' = some (LamX.CodeO c' q) → TT tl H Q → ∃ t, PSs (gotZ X Ng x sg g cdg s H).nox bg t ∧ t { nx := fun _ H' => Q .non H', rt := Q } (L2.start Ng [.ref f]) H
theorem act_lamN {Ng : List Str} {qg : Str} {sg : Scope} {g f c' : Addr} {cdg pm ctv : Value} {params : Arguments} {body : Expr} {scope : Scope} {k : Nat} {a : Str} {pn : List (Addr × Obj)} {xe : Value → Shared → Prop} {W : WX} {E : XK} {tb : TE} {p1 p2 : Pos}
    (I : Inv X pins σ H s) (L : LamX.LamS X.env.scope scope) (hf : s.heap.get? f = some (PySem.W.kla_obj "<lambda>" (X.env.qual ++ "<lambda>") params body scope (cloFrom X.env.cells scope.names []) pm c' ctv)) (hfn : H f = none) (hfr : f ∉ frs X.stack)
    (hbind : bindArgs (PySem.W.kla_fn "<lambda>" (X.env.qual ++ "<lambda>") params body scope (cloFrom X.env.cells scope.names []) pm (.ref c') ctv) ⟨[], []⟩ = pure [])
    (tk : L2N.Takes ((gotZ X Ng qg sg g cdg s H).tr pn xe) W) (hW : ∀ cls d σ' H', E cls d H' → W cls d σ' H') (hr : Room (k + 1) (X.A.deeper (envOfC qg sg s.heap.objs.size g cdg)))
    (hbody : ∀ (A : Around) (outer : List Env) (s : Shared) (H : Hp), Room k (A.deeper (LamX.lamEnv X scope s.heap.objs.size f c')) → PE (lamN X A outer s H E scope f c') body tb) (hN : Ng[0]? = some a) (hv : Vis sg a) (hd : (a == ("__debug__" : Str)) = false) (hcd : (a == ("__classdict__" : Str)) = false) :
    PE ((gotZ X Ng qg sg g cdg s H).tr pn xe) (.Call (.Name a p1) [] [] p2) fun σZ HZ Q => σZ[0]? = some (some (.ref f)) ∧ HZ c' = some (LamX.CodeO c' (X.env.qual ++ "<lambda>")) ∧ tb σ HZ Q := by
  refine ⟨fun pinsZ sZ σZ HZ Q IZ h => ?_⟩
  obtain ⟨hs, hc, ht⟩ := h
  refine wpAny_Call_Name_kw (thn ((pe_var (pos := p1) (i := 0) hN hv hd hcd).run pinsZ sZ σZ HZ (fun v H1 => v = .ref f ∧ H1 = HZ) IZ ⟨.ref f, hs, rfl, rfl⟩) fun u s1 ⟨v, H1, I1, r1, q1⟩ => ?_)
  obtain ⟨rfl, rfl⟩ := q1
  obtain rfl : u = Value.ref f := r1
  have obj := I1.base.keep f _ hf hfn hfr fun z => nomatch (show f ∈ ([] : List Addr) from z)
  refine PySem.W.callWith_F0 ⟨_, _, _, _, obj⟩ ?_
  obtain ⟨⟨oc, vs, t, hoc, hdc, hvc⟩, _, _⟩ := I1.hok c' _ hc
  have rc : codeAny (model X.prog X.w) (X.A.deeper (envOfC qg sg s.heap.objs.size g cdg)) (.call (.ref f) ⟨[], []⟩) (CR (L2N.CX X.prog X.w) (envOfC qg sg s.heap.objs.size g cdg :: X.stack) X.prog X.w H1 s1 Q E) s1 := by
    refine PySem.W.kla_callFunE hr.depth obj rfl L.co L.gen rfl ⟨c', oc, vs, t, rfl, hoc, hdc, hvc⟩ ?_
    rw [hbind]
    refine wpAny_pure (wpAny_newFunctionEnv (fun y hy => (L.own y hy).2) (fun y hy => absurd hy (by simp)) (fun h₁ hns hsb => ⟨I1.nolimit.fresh _ hsb, ?_⟩) L.kind)
    show codeAny _ _ (.expr body (LamX.lamEnv X scope s1.heap.objs.size f c')) _ _
    have J := (LamX.lam_start2 (tk := s1.toks + ([] : List (Str × Value)).length) (f := f) (c' := c') (E := E) I L I1.env0 hr.hd I1.base hns fun b o e => hsb.extBut b o (Nat.ne_of_lt (Heap.lt_size e)) (Heap.get?_push_of_some _ e)).wish (outN X ((X.A.deeper (envOfC qg sg s.heap.objs.size g cdg)).deeper (LamX.lamEnv X scope s1.heap.objs.size f c')) (envOfC qg sg s.heap.objs.size g cdg :: X.stack) s1 H1 E (LamX.lamEnv X scope s1.heap.objs.size f c'))
    refine PySem.W.kla_codeExpr (wpAny_mono ((hbody _ _ s1 H1 (hr.deeper _)).run [] _ _ H1 Q J ht) (fun v s' hq => ?_) fun e s' hq => hq)
    obtain ⟨w', H', J', rv, q⟩ := hq
    exact ⟨w', H', J'.os, J'.bare, J'.base, J'.hok, rv, q⟩
  refine wpAny_call (codeAny_mono rc fun r s' hq => ?_)
  cases r with
  | error e => exact L2N.passes_call tk hW pinsZ σZ H1 s1 e s' I1 hq
  | ok fl =>
    cases fl with
    | ret u => exact I1.after hq
    | next => exact False.elim hq
    | brk => exact False.elim hq
    | cont => exact False.elim hq
/-- x(lambda: body) -/
theorem pe_lamN {T : List (Addr × Str)} {TT : (XK → Hp → VK → Prop) → Hp → VK → Prop} {x a : Str} {g c P : Addr} {k : Nat} {pg : Arguments} {bg : List Stmt} {sg : Scope} {dV kV doc pm cdv ct oc : Value} {an od : Option Addr} {osl : Array (Option Value)} {Ng : List Str}
    {params : Arguments} {body : Expr} {scope : Scope} {t : XK → TE} {p lpos pos : Pos} (hg : Gl X x) (hm : X.mg x = some (.ref g)) (hk : PySem.W.keepIn X.K (.ref g) = true)
    (lk : X.K.lookup g = some ⟨oc, od, .func (PySem.W.fnOf x x pg bg sg dV kV doc pm an cdv ct), osl⟩) (hcg : PySem.W.codeIn X.K cdv x = true) (hb : L2.Binds X.K (PySem.W.fnOf x x pg bg sg dV kV doc pm an cdv ct) [a] []) (Sg : FnScope Ng [a] sg) (hNg : Ng[0]? = some a) (hva : Vis sg a)
    (hG : GivesN X Ng x sg g cdv bg a (X.env.qual ++ "<lambda>") TT) (TB : LamX.TabB X.base X.mg c P) (hcode : X.env.code = .ref c) (hmT : (P, X.env.qual ++ "<lambda>") ∈ T) (hu : ∀ p ∈ T, p.1 = P → p.2 = X.env.qual ++ "<lambda>") (hr : Room (k + 2) X.A) (L : LamX.LamS X.env.scope scope) (hdef : defaultsOf params X.env = ([], []))
    (hbind : ∀ (q : Str) (cl : List (Str × Addr)) (pm cv ctv : Value), bindArgs (PySem.W.kla_fn "<lambda>" q params body scope cl pm cv ctv) ⟨[], []⟩ = pure [])
    (hbody : ∀ (A : Around) (outer : List Env) (s : Shared) (H : Hp) (E : XK) (f c' : Addr), Room k (A.deeper (LamX.lamEnv X scope s.heap.objs.size f c')) → PE (lamN X A outer s H E scope f c') body (t E)) (hdb : (x == ("__debug__" : Str)) = false) (hd : (a == ("__debug__" : Str)) = false) (hcd : (a == ("__classdict__" : Str)) = false) :
    PE X (.Call (.Name x p) [.Lambda params body scope lpos] [] pos) (LamX.tLam T TT t) := by
  refine ⟨fun pins s σ H Q I h => wpAny_Call_Name_kw (ld_glob I hg hm ?_ hdb)⟩
  obtain ⟨hT, h⟩ := h
  refine PySem.W.callWith_K (h₀ := X.base) I.ok.mod.kin hk ?_ (by rfl) (by rfl)
  show wpAny _ _ (spliced ((false, eval (.Lambda params body scope lpos) X.env) :: backTo pos (starEach [] X.env))) _ _ s
  refine Calls.spliced_cons (LamX.lam_make2 I TB hcode hmT hu hT hdef (L.has I.ok) fun f c' pm' ctv H1 s' I1 eN T1 hf hfn hfr hco => Calls.spliced_nil ⟨I1.kIn, wpAny_call (codeAny_mono (LamX.run_ofS (CX := C8.CX0) (E := C8.E0) (Q := Q) (N := Ng) (ps := [a]) (us := [.ref f]) (vs := [.ref f]) lk hcg Sg hr I1.env0 (hb s' [.ref f] I1.kIn rfl) (.cons rfl .nil) rfl fun hr' => ?_) fun r s2 hq => ?_)⟩)
  · obtain ⟨t', ht', hq'⟩ := hG f c' s' H1 Q (fun E H' Q' => t E σ H' Q') (fun W pn xe E p1 p2 tk hW => act_lamN I1 L hf hfn hfr (hbind _ _ _ _ _) tk hW hr' (fun A outer s H hr2 => hbody A outer s H E f c' hr2) hNg hva hd hcd) hco (h H1 eN T1)
    exact ⟨t', ht'.nox, hq'⟩
  · cases r with
    | error e => exact (show False from hq).elim
    | ok fl =>
      cases fl with
      | ret u => exact I1.after hq
      | next => exact False.elim hq
      | brk => exact False.elim hq
      | cont => exact False.elim hq
end G

set_option Elab.async false
set_option linter.all false
set_option maxRecDepth 100000
set_option maxHeartbeats 4000000
namespace G
open PySem L2 PySem.Spec PyProof.Rows
variable {M : Md} {H H' H1 H2 : Hp} {ι ι' ι1 ι2 : List Addr} {X : Cx} {W' : WX}

/-! ### x(lambda: e), x a def that calls it and tells the error -/
theorem StL.extN {K : PySem.W.Frag} {a : Addr} {xs : List V} (x : LamX.ExtN H H1) (h : StL K H a xs) : StL K H1 a xs := by
  rcases h with ⟨o, h⟩ | h
  · exact .inl ⟨o, x _ _ h fun _ z => (nomatch z)⟩
  · exact .inr h
theorem ext_extN (x : LamX.ExtN H H1) : Ext M ι H ι H1 := by
  refine ⟨List.prefix_refl _, fun a xs h => ?_, fun b o u h => x _ _ h fun _ z => (nomatch z)⟩
  rcases h with (h | ⟨o, h⟩) | h
  · exact .inl (.inl (x _ _ h fun _ z => (nomatch z)))
  · exact .inl (.inr ⟨o, x _ _ h fun _ z => (nomatch z)⟩)
  · exact .inr h
theorem rel_extN {E : Hh} (R : Rel M ι E H) (x : LamX.ExtN H H1) (T : LamX.Tabs M.T H1) : Rel M ι E H1 := by
  have xx : Ext M ι H ι H1 := ext_extN x
  refine ⟨R.len, R.inj, fun i o e => ?_, T⟩
  obtain ⟨a, ea, ro⟩ := R.obj i o e
  refine ⟨a, ea, ?_⟩
  cases o with
  | lst ws => obtain ⟨vs, h1, h2⟩ := ro; exact ⟨vs, x _ _ h1 fun _ z => (nomatch z), h2.ext xx⟩
  | slst ws => obtain ⟨vs, h1, h2⟩ := ro; exact ⟨vs, h1.extN x, h2.ext xx⟩
  | dK kvs => obtain ⟨vs, h1, h2⟩ := ro; exact ⟨vs, x _ _ h1 fun _ z => (nomatch z), h2.ext xx⟩
  | dN kvs => obtain ⟨vs, h1, h2, h3, h4, h5⟩ := ro; exact ⟨vs, x _ _ h1 fun _ z => (by unfold DkAt at z; cases z), h2, h3, h4, Paired.mapP h5 fun p q ⟨⟨a1, a2⟩, a3, a4⟩ => ⟨⟨a1.ext xx, a2⟩, a3.ext xx, a4⟩⟩
  | sdK kvs => obtain ⟨vs, od, h1, h2⟩ := ro; exact ⟨vs, od, x _ _ h1 fun _ z => (nomatch z), h2.ext xx⟩
  | exc b => exact ro
  | cup j => exact x _ _ ro fun _ z => (nomatch z)
  | sdN kvs => obtain ⟨vs, od, h1, h2, h3, h4, h5⟩ := ro; exact ⟨vs, od, x _ _ h1 fun _ z => (nomatch z), h2, h3, h4, Paired.mapP h5 fun p q ⟨⟨a1, a2⟩, a3, a4⟩ => ⟨⟨a1.ext xx, a2⟩, a3.ext xx, a4⟩⟩
/-- what comes of an error of the class with this name -/
abbrev Onx := Str → Hh → Option (W × Hh)
def lamA (P : Pg) (onx : Onx) (c : Act W) : Act W := fun σ E => match c σ E with
  | some (.ok _ E1) => some (.ok (.str ⟨#[]⟩) E1)
  | some (.ex x E1) => if P.exc x = true then (onx x E1).map fun p => .ok p.1 p.2 else none
  | none => none
/-- what the def makes of it -/
def TTx (M : Md) (onx : Onx) : (XK → Hp → VK → Prop) → Hp → VK → Prop := fun tl H Q =>
  tl (fun cls d H' => d = none ∧ ∃ x C ι E w E2, M.mg x = some (.ref C) ∧ cls = .ref C ∧ Rel M ι E H' ∧ onx x E = some (w, E2) ∧ Fin M ι H' w E2 Q) H fun _ H' => Q (.str ⟨#[]⟩) H'
theorem lam_imp {P : Pg} {onx : Onx} {c : Act W} (g : Glob M P) : ∀ (σ : L2.St) (H : Hp) (Q : VK), SE M W' (lamA P onx c) σ H Q → LamX.tLam M.T (TTx M onx) (fun E => SE M (fun cls d _ H => E cls d H) c) σ H Q := fun σ H Q ⟨ι, E, σE, R, rs, k⟩ => by
  refine ⟨R.tabs, fun H1 x T => ?_⟩
  have xx : Ext M ι H ι H1 := ext_extN x
  refine ⟨ι, E, σE, rel_extN R x T, rs.ext xx, ?_⟩
  unfold lamA at k
  cases e : c σE E with
  | none => rw [e] at k; exact k.none.elim
  | some r =>
    rw [e] at k
    cases r with
    | ok w E1 => exact .inl ⟨w, E1, rfl, fun ι1 H2 v x1 R1 _ => k.ok ι1 H2 _ (xx.trans x1) R1 rfl⟩
    | ex y E1 =>
      dsimp only at k
      by_cases hy : P.exc y = true
      · rw [if_pos hy] at k
        cases eo : onx y E1 with
        | none => rw [eo] at k; exact k.none.elim
        | some p =>
          obtain ⟨w, E2⟩ := p
          rw [eo] at k
          obtain ⟨C, hC, _⟩ := g.exc y hy
          refine .inr ⟨y, E1, rfl, fun ι1 H2 x1 R1 => ⟨C, hC, rfl, y, C, ι1, E1, w, E2, hC, rfl, R1, eo, fun ι2 H3 v x2 R2 rv => k.ok ι2 H3 v ((xx.trans x1).trans x2) R2 rv⟩⟩
      · rw [if_neg hy] at k
        exact k.none.elim
/-- the def that catches, as the proof sees it: er(a), at g -/
structure Catch (M : Md) (base : Heap) (k : Nat) (er : Str) (onx : Onx) : Prop where
  ex : ∃ (g : Addr) (pg : Arguments) (bg : List Stmt) (sg : Scope) (dV kV doc pm : Value) (an : Option Addr) (cdv ct oc : Value) (od : Option Addr) (osl : Array (Option Value)) (Ng : List Str) (a : Str),
    M.mg er = some (.ref g) ∧ PySem.W.keepIn M.K (.ref g) = true ∧ M.K.lookup g = some ⟨oc, od, .func (PySem.W.fnOf er er pg bg sg dV kV doc pm an cdv ct), osl⟩ ∧ PySem.W.codeIn M.K cdv er = true ∧
    L2.Binds M.K (PySem.W.fnOf er er pg bg sg dV kV doc pm an cdv ct) [a] [] ∧ FnScope Ng [a] sg ∧ Ng[0]? = some a ∧ Vis sg a ∧ (er == ("__debug__" : Str)) = false ∧ (a == ("__debug__" : Str)) = false ∧ (a == ("__classdict__" : Str)) = false ∧
    ∀ (X : Cx) (q : Str), X.prog = M.P → X.w = M.w → X.K = M.K → X.mg = M.mg → X.base = base → Room (k + 2) X.A → GivesN X Ng er sg g cdv bg a q (TTx M onx)
/-- a def whose lambdas' code objects are told by a table -/
structure Tbd (M : Md) (base : Heap) (cdv : Value) (qual : Str) : Prop where
  ex : ∃ c P, LamX.TabB base M.mg c P ∧ cdv = .ref c ∧ (P, qual ++ "<lambda>") ∈ M.T ∧ ∀ p ∈ M.T, p.1 = P → p.2 = qual ++ "<lambda>"
def lamG (Γ : Gm) (scope : Scope) : Gm := ⟨Γ.N, scope.names, fun _ => false, fun _ => none⟩
theorem pe_lamG {Γ : Gm} {P P' : Pg} {m k : Nat} {onx : Onx} {er : Str} {params : Arguments} {body : Expr} {scope : Scope} {p lpos pos : Pos} (at' : At M Γ W' X) (g : Glob M P) (C : Catch M X.base k er onx) (T : Tbd M X.base X.env.code X.env.qual) (hr : Room (k + 2) X.A) (hg : Gl X er)
    (hL : LamX.lamSB X.env.scope scope = true) (hdef : ∀ env, defaultsOf params env = ([], [])) (hbind : ∀ (q : Str) (cl : List (Str × Addr)) (pm cv ctv : Value), bindArgs (PySem.W.kla_fn "<lambda>" q params body scope cl pm cv ctv) ⟨[], []⟩ = pure [])
    (has : ∀ (A : Around), Room k A → ∀ Y : Cx, Y.prog = M.P → Y.w = M.w → Y.K = M.K → Y.mg = M.mg → Y.base = X.base → Y.A = A → Has M P' Y) (g' : Glob M P') :
    PE X (.Call (.Name er p) [.Lambda params body scope lpos] [] pos) (SE M W' (lamA P onx ((rcs P' m).ev (lamG Γ scope) body))) := by
  obtain ⟨gf, pg, bg, sg, dV, kV, doc, pm, an, cdv, ct, oc, od, osl, Ng, a, e1, e2, e3, e4, e5, e6, e7, e8, e9, e10, e11, hG⟩ := C.ex
  obtain ⟨c, Pt, TB, hc, hm, hu⟩ := T.ex
  have L := LamX.lamS_by hL
  refine PE.imp (pe_lamN (T := M.T) (TT := TTx M onx) (t := fun E => SE M (fun cls d _ H => E cls d H) ((rcs P' m).ev (lamG Γ scope) body)) (k := k) hg (by rw [at'.mg]; exact e1) (by rw [at'.K]; exact e2) (by rw [at'.K]; exact e3) (by rw [at'.K]; exact e4) (by rw [at'.K]; exact e5) e6 e7 e8
    (hG X _ at'.P at'.w at'.K at'.mg rfl hr) (by rw [at'.mg]; exact TB) hc hm hu hr L (hdef _) hbind (fun A outer s H E f c' hr' => ?_) e9 e10 e11) (lam_imp g)
  have aL : At M (lamG Γ scope) (fun cls d _ H => E cls d H) (lamN X A outer s H E scope f c') := by
    refine ⟨at'.P, at'.w, at'.K, at'.mg, at'.N, at'.nd, rfl, L.kind, rfl, ?_, L2N.takes_of rfl rfl rfl rfl, passes_of rfl, fun x h => (nomatch h)⟩
    have := hr'.un
    show (A.deeper _).units + 65 < _
    omega
  exact (rcs_ok m).ev ⟨aL, has _ hr' _ at'.P at'.w at'.K at'.mg rfl rfl, g', fun _ _ _ _ _ h => h, fun _ _ h => (nomatch h)⟩ body
end G

set_option Elab.async false
set_option linter.all false
set_option maxRecDepth 100000
set_option maxHeartbeats 4000000
namespace G
open PySem L2 PySem.Spec PyProof.Rows
variable {M : Md} {H H' H1 H2 : Hp} {ι ι' ι1 ι2 : List Addr} {X : Cx} {W' : WX}

/-! ### defs of a module, by their bodies -/
structure Fd where
  st : Stmt
  N : List Str
  ps : List Str
  lam : Bool
/-- what is told of a module -/
structure Tb where
  glob : Str → Option W
  non : Str → Bool
  exc : Str → Bool
  fn : Str → Option Fd
  dct : Str → Option (List (Str × W))
  er : Str
  onx : Onx
def ends (o : Option (Rz Fl)) : Option (Rz W) := match o with
  | some (.ok (.nx _) E) => some (.ok .non E)
  | some (.ok (.rt w) E) => some (.ok w E)
  | some (.ex x E) => some (.ex x E)
  | _ => none
def startE (N : List Str) (ws : List W) : Sg := ws.map some ++ List.replicate (N.length - ws.length) none
abbrev Cal := Str → List W → Hh → Option (Rz W)
def Tb.pgOf (T : Tb) (low : Cal) : Pg := ⟨T.glob, fun y => (T.fn y).isSome, T.non, T.exc, low, T.dct⟩
def noParams : Arguments → Bool
  | ⟨[], [], none, [], [], none, []⟩ => true
  | _ => false
/-- the catching def called with a lambda -/
def Tb.lamH (T : Tb) (m : Nat) (d : Fd) (P P' : Pg) : Expr → Option (Act W)
  | .Call (.Name x _) [.Lambda params body scope _] [] _ => if x = T.er ∧ d.lam = true ∧ LamX.lamSB (defScope d.st) scope = true ∧ noParams params = true ∧ (defScope d.st).names.lookup x = some .globalImplicit then
      some (lamA P T.onx ((rcs P' m).ev ⟨d.N, scope.names, fun _ => false, fun _ => none⟩ body)) else none
  | _ => none
def Tb.gmOf (T : Tb) (m : Nat) (low : Cal) (lam : Option Cal) (d : Fd) : Gm := ⟨d.N, (defScope d.st).names, fun _ => true, match lam with
  | some l => T.lamH m d (T.pgOf low) (T.pgOf l)
  | none => fun _ => none⟩
def Tb.step (T : Tb) (m : Nat) (low : Cal) (lam : Option Cal) : Cal := fun x ws E => match T.fn x with
  | some d => if ws.length = d.ps.length then ends (bodyA (T.pgOf low) m (T.gmOf m low lam d) (defBody d.st) (startE d.N ws) E) else none
  | none => none
def Tb.call (T : Tb) (m : Nat) : Nat → Cal
  | 0 => fun _ _ _ => none
  | 1 => T.step m (fun _ _ _ => none) none
  | 2 => T.step m (T.call m 1) none
  | n + 3 => T.step m (T.call m (n + 2)) (some (T.call m n))
structure DefOk (M : Md) (base : Heap) (x : Str) (d : Fd) (f : Addr) (fd : FuncData) : Prop where
  F : ∃ (qual : Str) (oc : Value) (od : Option Addr) (kV doc pm : Value) (an : Option Addr) (cdv ct : Value) (osl : Array (Option Value)),
    fd = PySem.W.fnOf x qual (defArgs d.st) (defBody d.st) (defScope d.st) .none kV doc pm an cdv ct ∧ M.K.lookup f = some ⟨oc, od, .func fd, osl⟩ ∧ PySem.W.codeIn M.K cdv qual = true ∧ (d.lam = true → Tbd M base cdv (qual ++ ".<locals>."))
  kp : PySem.W.keepIn M.K (.ref f) = true
  S : FnScope d.N d.ps (defScope d.st)
  m : M.mg x = some (.ref f)
  b : Binds M.K fd d.ps []
structure TbOk (M : Md) (base : Heap) (T : Tb) : Prop where
  glob : ∀ low, Glob M (T.pgOf low)
  fn : ∀ x d, T.fn x = some d → (∃ f fd, DefOk M base x d f fd) ∧ (x == ("__debug__" : Str)) = false
  catch_ : ∀ k, Catch M base k T.er T.onx
theorem startE_ok {N : List Str} : ∀ {ws : List W} {vs : List V}, RelWs M H ι ws vs → RelS M H ι (startE N ws) (start N vs) := fun {ws vs} r => by
  unfold startE L2.start
  refine ⟨by simp [r.length], fun i w e => ?_⟩
  have hi : i < ws.length := by
    by_cases hi : i < ws.length
    · exact hi
    · rw [List.getElem?_append_right (by simpa using hi), List.getElem?_replicate] at e
      split at e <;> cases e
  rw [List.getElem?_append_left (by simpa using hi), List.getElem?_map] at e
  cases ew : ws[i]? with
  | none => rw [ew] at e; cases e
  | some w' =>
    rw [ew] at e
    obtain rfl : w' = w := by simpa using e
    obtain ⟨v, ev, rv⟩ := r.get ew
    refine ⟨v, ?_, rv⟩
    have hv : i < vs.length := (List.getElem?_eq_some_iff.mp ev).1
    rw [List.getElem?_append_left (by simpa using hv), List.getElem?_map, ev]
    rfl
theorem step_eq {T : Tb} {m : Nat} {low : Cal} {lam : Option Cal} {x : Str} {ws : List W} {E : Hh} {r : Rz W} (h : T.step m low lam x ws E = some r) : ∃ d, T.fn x = some d ∧ ws.length = d.ps.length ∧ ends (bodyA (T.pgOf low) m (T.gmOf m low lam d) (defBody d.st) (startE d.N ws) E) = some r := by
  unfold Tb.step at h
  split at h
  · rename_i d hd
    split at h
    · exact ⟨d, hd, by assumption, h⟩
    · cases h
  · cases h
abbrev FnsOk (M : Md) (base : Heap) (T : Tb) (n : Nat) (c : Cal) : Prop := ∀ x d f fd, T.fn x = some d → DefOk M base x d f fd → FnOk M.P M.w M.K M.mg base (L2N.CX M.P M.w) n f fd d.ps (spOf M (c x))
theorem has_of {T : Tb} {base : Heap} {low : Cal} {n : Nat} (ok : TbOk M base T) (h : FnsOk M base T n low) {Y : Cx} (h1 : Y.prog = M.P) (h2 : Y.w = M.w) (h3 : Y.K = M.K) (h4 : Y.mg = M.mg) (h5 : Y.base = base) (hr : Room n Y.A) : Has M (T.pgOf low) Y := ⟨fun y hy => by
  obtain ⟨d', hd'⟩ := Option.isSome_iff_exists.mp (show (T.fn y).isSome = true from hy)
  obtain ⟨⟨f', fd', D'⟩, hdb⟩ := ok.fn y d' hd'
  refine ⟨n, f', fd', d'.ps, ?_, hr, by rw [h4]; exact D'.m, by rw [h3]; exact D'.kp, by rw [h3]; exact D'.b, hdb⟩
  rw [h1, h2, h3, h4, h5]
  exact h y d' f' fd' hd' D'⟩
theorem noParams_ok {a : Arguments} (h : noParams a = true) : a = ⟨[], [], none, [], [], none, []⟩ := by
  unfold noParams at h
  split at h
  · rfl
  · cases h
theorem step_ok {T : Tb} {m n : Nat} {base : Heap} {low : Cal} {lam : Option Cal} (ok : TbOk M base T) (hlow : FnsOk M base T n low) (hlam : ∀ l, lam = some l → ∃ k, n = k + 2 ∧ FnsOk M base T k l) : FnsOk M base T (n + 1) (T.step m low lam) := fun x d f fd hd D => by
  obtain ⟨qual, oc, od, kV, doc, pm, an, cdv, ct, osl, rfl, lk, hcd, tb⟩ := D.F
  refine fn_of lk hcd D.S (fun vs H Q E ⟨ι, E0, ws, R, rw', h⟩ => ?_) fun A outer s H vs Q E hr ⟨ι, E0, ws, R, rw', h⟩ => ?_
  · have z : ws.length = d.ps.length := by
      rcases h with ⟨w, E', e, _⟩ | ⟨y, E', e, _⟩
      all_goals
        obtain ⟨d', hd', hl, _⟩ := step_eq e
        rw [hd] at hd'
        cases hd'
        exact hl
    rw [← rw'.length]
    exact z
  · let X : Cx := cxOf (L2N.CX M.P M.w) M.P M.w M.K M.mg base d.N qual (defScope d.st) f cdv A outer s H E
    let W' : WX := fun cls d _ H => E cls d H
    have at' : At M (T.gmOf m low lam d) W' X := ⟨rfl, rfl, rfl, rfl, rfl, D.S.nd, rfl, D.S.kind, rfl, by have := hr.un; show (A.deeper _).units + 65 < _; omega, L2N.takes_of rfl rfl rfl rfl, passes_of rfl, fun _ _ => rfl⟩
    have i : In M (T.pgOf low) (T.gmOf m low lam d) W' X := ⟨at', has_of ok hlow rfl rfl rfl rfl rfl hr, ok.glob low, fun _ _ _ _ _ h => h, fun e c hc0 => by
      have hc : (match lam with
        | some l => T.lamH m d (T.pgOf low) (T.pgOf l)
        | none => fun _ => none) e = some c := hc0
      clear hc0
      cases el : lam with
      | none => rw [el] at hc; cases hc
      | some l =>
        rw [el] at hc
        dsimp only at hc
        obtain ⟨k, rfl, hl⟩ := hlam l el
        unfold Tb.lamH at hc
        split at hc
        · split at hc
          · rename_i hx
            obtain ⟨rfl, h2, h3, h4, h5⟩ := hx
            obtain rfl := Option.some.inj hc
            obtain rfl := noParams_ok h4
            exact pe_lamG (k := k) at' (ok.glob low) (ok.catch_ k) (tb h2) hr h5 h3 (fun _ => rfl) (fun _ _ _ _ _ => rfl) (fun A' hr' Y y1 y2 y3 y4 y5 y6 => has_of ok hl y1 y2 y3 y4 y5 (by rw [y6]; exact hr')) (ok.glob l)
          · cases hc
        · cases hc⟩
    refine ⟨_, bodyA_ok (n := m) i (defBody d.st), ι, E0, startE d.N ws, R, startE_ok rw', ?_⟩
    have key : ∀ r, T.step m low lam x ws E0 = some r → ends (bodyA (T.pgOf low) m (T.gmOf m low lam d) (defBody d.st) (startE d.N ws) E0) = some r := fun r e => by
      obtain ⟨d', hd', _, z⟩ := step_eq e
      rw [hd] at hd'
      cases hd'
      exact z
    rcases h with ⟨w, E', e, k⟩ | ⟨y, E', e, k⟩
    · have z := key _ e
      unfold ends at z
      split at z
      · rename_i σ1 E1 eb
        cases z
        exact .inl ⟨_, _, eb, fun ι' H' x' R' σ' rs' => k ι' H' .non x' R' rfl⟩
      · rename_i w1 E1 eb
        cases z
        exact .inl ⟨_, _, eb, fun ι' H' x' R' v rv => k ι' H' v x' R' rv⟩
      · cases z
      · cases z
    · have z := key _ e
      unfold ends at z
      split at z
      · cases z
      · cases z
      · rename_i y1 E1 eb
        cases z
        exact .inr ⟨_, _, eb, fun ι' H' x' R' => k ι' H' x' R'⟩
      · cases z
theorem zero_ok {T : Tb} {base : Heap} {n : Nat} : FnsOk M base T n (fun _ _ _ => none) := fun x d f fd hd D => by
  have no : ∀ vs H Q E, ¬ spOf M (fun _ _ => none) vs H Q E := fun vs H Q E ⟨ι, E0, ws, _, _, h⟩ => by
    rcases h with ⟨_, _, e, _⟩ | ⟨_, _, e, _⟩ <;> cases e
  exact ⟨fun vs H Q E h => absurd h (no vs H Q E), fun A outer s H args us vs Q E _ _ _ _ h => absurd h (no vs H Q E)⟩
/-- THE RULE: each def of the module does what its body's act does -/
theorem fn_ok {T : Tb} {m : Nat} {base : Heap} (ok : TbOk M base T) : ∀ n, FnsOk M base T n (T.call m n)
  | 0 => zero_ok
  | 1 => step_ok ok zero_ok fun l h => (nomatch h)
  | 2 => step_ok ok (fn_ok ok 1) fun l h => (nomatch h)
  | n + 3 => step_ok ok (fn_ok ok (n + 2)) fun l h => ⟨n, rfl, by cases h; exact fn_ok ok n⟩
end G

set_option Elab.async false
set_option linter.all false
set_option maxRecDepth 100000
set_option maxHeartbeats 4000000
namespace G
open PySem L2
def NTabS : List (String × List String) := [
  ("is_integer", ["value"]),
  ("is_between", ["value", "least", "most"]),
  ("is_amount", ["value"]),
  ("is_word", ["value"]),
  ("is_ascending", ["numbers", "one", "other"]),
  ("are_marks", ["value", "bounds", "many", "greatest", "mark"]),
  ("is_marked", ["value", "bounds"]),
  ("spelled", ["number", "text", "left"]),
  ("first_words", ["many", "taken", "found", "number", "told"]),
  ("parts_in", ["tree", "first", "_", "form"]),
  ("with_parts", ["tree", "kids", "kind", "rows", "row", "form"]),
  ("part_by", ["tree", "path", "part", "index"]),
  ("is_path", ["tree", "value", "part", "index", "kids"]),
  ("replaced_part", ["tree", "path", "part", "kids"]),
  ("placed_parts", ["tree", "into_rows", "found", "todo", "place", "path", "part", "kids", "index", "kid"]),
  ("size_of", ["tree", "size", "todo", "part"]),
  ("count_pieces", ["part", "pattern", "_"]),
  ("pattern_holes", ["pattern", "piece"]),
  ("is_piece", ["value", "bounds", "kind", "told"]),
  ("is_pattern", ["value", "holes", "bounds", "found", "piece", "hole"]),
  ("are_row_patterns", ["value", "holes", "bounds", "row"]),
  ("is_fill", ["value", "holes"]),
  ("is_binder_name", ["value", "holes", "bounds"]),
  ("is_node", ["value", "holes", "bounds", "kind"]),
  ("has_shape", ["value", "bounds"]),
  ("fits_within", ["value", "bounds", "size", "depth", "todo", "part", "holes", "pattern", "form", "kid"]),
  ("own_names", ["tree", "first", "pattern", "_", "piece"]),
  ("all_names", ["tree", "found", "todo", "part"]),
  ("with_names", ["tree", "names", "name", "rows", "pattern", "form"]),
  ("pattern_with_names", ["pattern", "names", "piece"]),
  ("marked_here", ["tree", "marks", "name", "rows", "pattern", "form"]),
  ("marked_pattern", ["pattern", "marks", "kind", "told"]),
  ("marked_tree", ["tree", "marks", "kids", "kid"]),
  ("bared_tree", ["tree", "whole", "kid", "name"]),
  ("fitted_pieces", ["pattern", "pieces", "piece", "tree"]),
  ("filled_form", ["form", "pieces", "kids", "kid"]),
  ("filled_name", ["form", "pieces", "piece", "name"]),
  ("is_tree", ["value"]),
  ("need_tree", ["value"]),
  ("need_bare", ["value", "_", "marks"]),
  ("need_path", ["tree", "value"]),
  ("binds_in", ["part", "index"]),
  ("binders_around", ["tree", "path", "found", "part", "at", "index"]),
  ("scoped_parts", ["tree", "into_rows", "found", "todo", "place"]),
  ("scoped_kids", ["place", "into_rows", "path", "part", "around", "inner", "kids", "index", "kid"]),
  ("nearest_of", ["around", "name", "binder", "bound"]),
  ("rows_place", ["maker"]),
  ("meaning_of", ["work", "path", "name"]),
  ("meaning_within", ["work", "around", "name", "tree", "makings", "word", "marks", "found", "place"]),
  ("are_meant_alike", ["work", "path", "name", "other_path", "other_name", "found"]),
  ("is_lotted", ["value"]),
  ("need_lotted", ["value"]),
  ("lots_off", ["lotted"]),
  ("lot_meaning", ["lotted", "path", "name"]),
  ("is_within", ["lot", "other", "mark"]),
  ("meaning_by_lots", ["lotted", "path", "name"]),
  ("meaning_of_lot", ["around", "name", "word", "lot", "heard", "tops", "binder", "bound", "own", "other"]),
  ("need_order", ["value", "path", "index"]),
  ("need_outermost", ["tree", "path"]),
  ("outermost_in", ["tree", "found", "todo", "path", "part", "kids", "outside", "index", "kid"]),
  ("all_made", ["work", "order", "path", "left", "result"]),
  ("use_to_make", ["tree", "order", "uses", "at", "path"]),
  ("first_outermost", ["tree", "found", "at", "kid"]),
  ("fits_at", ["tree", "path", "brought", "bounds", "left"]),
  ("making_at", ["work", "path", "tree", "makings", "chosen", "_", "maker", "row", "made"]),
  ("row_chosen", ["work", "path", "maker", "index"]),
  ("brought_into", ["tree", "path", "row", "marks", "pattern", "form", "pieces", "brought"]),
  ("meant_maker", ["work", "path", "found"]),
  ("fitting_row", ["work", "path", "maker", "index", "pattern", "_"]),
  ("is_fitting", ["work", "path", "maker", "pattern", "pieces", "piece", "tree"]),
  ("fits_piece", ["work", "path", "maker", "piece", "tree", "kind"]),
  ("is_manner", ["value", "does"]),
  ("is_lot_work", ["value", "manner", "tree", "makings", "marks", "_", "lot"]),
  ("need_lot_work", ["value"]),
  ("need_manner", ["value"]),
  ("begun_lots", ["bare", "manner"]),
  ("begun_by_lots", ["bare", "manner", "binders"]),
  ("binders_outside", ["tree", "path", "part"]),
  ("bound_tree", ["tree", "binders", "marks", "at", "path"]),
  ("tree_with_marks", ["tree", "path", "numbers", "marks", "own", "kids", "at", "kid", "bound"]),
  ("lot_row", ["lot_work", "path", "tree"]),
  ("lot_once", ["lot_work", "path"]),
  ("made_by_lots", ["bare", "manner", "order"]),
  ("all_made_by_lots", ["lot_work", "order", "path", "left", "result"]),
  ("lot_making_at", ["lot_work", "path", "tree", "maker", "index", "made"]),
  ("maker_by_lots", ["tree", "path", "found"]),
  ("row_by_lots", ["tree", "path", "maker", "pieces", "index", "pattern", "_", "fits", "piece", "told"]),
  ("fits_by_lots", ["tree", "path", "maker", "piece", "told", "kind"]),
  ("mean_same_by_lots", ["tree", "path", "name", "other_path", "other_name", "found"]),
  ("brought_by_lots", ["lot_work", "path", "row", "binds", "brings", "hands", "tree", "makings", "marks", "pattern", "form", "pieces", "binders", "brought", "piece", "_", "lot"]),
  ("plain_or_wanting", ["work", "tree", "meant", "placed", "path", "part", "around", "found"]),
  ("plain_by", ["tree", "placed", "meant", "free", "binders", "words", "path", "part", "_", "word"]),
  ("renamed_plainly", ["tree", "path", "meant", "words", "kind", "word", "kids", "at", "kid"]),
  ("lot_end", ["bare", "manner", "order"]),
  ("making_end", ["bare", "order"]),
  ("agreeing_manners", ["bare", "told", "bools", "manners", "binds", "brings", "hands", "manner"]),
  ("end_by_lots", ["bare", "manner", "order", "result", "tree", "meant", "placed", "path", "part", "around", "found"]),
  ("end_by_makings", ["bare", "order", "result", "plain"]),
  ("_law_cup", ["_law_script", "_law_cell", "_law_great"]),
  ("_law_roll", ["_law_cup_here", "_law_many", "_law_found", "_law_deep"]),
  ("_law_some", ["_law_cup_here", "_law_things"]),
  ("_law_named_error", ["_law_e", "_law_some_here", "_law_labels", "_law_label", "_law_good"]),
  ("_law_error", ["_law_call", "_law_e"]),
  ("_law_texts", ["_law_x", "_law_t", "_law_y", "_law_a", "_law_row", "_law_b", "_law_c", "_law_d"]),
  ("_law_lotted_right", ["_law_odd", "_law_found"]),
  ("_law_bare_right", ["_law_odd", "_law_found"]),
  ("_law_manner_right", ["_law_odd", "_law_one", "_law_found"]),
  ("_law_order_right", ["_law_odd", "_law_one", "_law_manner", "_law_found"]),
  ("_law_work_right", ["_law_odd", "_law_found"]),
  ("_law_path_right", ["_law_work", "_law_odd", "_law_found"]),
  ("law", ["_law_script", "_law_cup_here", "_law_a", "_law_b", "_law_c", "_law_d", "_law_lotted", "_law_bare", "_law_manners", "_law_orders", "_law_full", "_law_work", "_law_works", "_law_odd"])
]
def NTab : List (Str × List Str) := NTabS.map fun p => (Str.ofString p.1, p.2.map Str.ofString)
def main14 : List Stmt := PySem.Challenge.pw_namesapart_k14_lots_refused.main.body
def lamNs : List Str := ["_law_lotted_right", "_law_bare_right", "_law_manner_right", "_law_order_right", "_law_work_right", "_law_path_right", "law"]
def fdOf : Stmt → Option (Str × Fd)
  | .FunctionDef name args body d r t sc a b c => some (name, ⟨.FunctionDef name args body d r t sc a b c, (NTab.lookup name).getD [], args.args.map (·.arg), lamNs.contains name⟩)
  | _ => none
def fds : List (Str × Fd) := main14.filterMap fdOf
def clss : List Str := main14.filterMap fun
  | .ClassDef (name := n) .. => some n
  | _ => none
def asg1 : Stmt → Option (Str × Expr)
  | .Assign [.Name x _] e _ => some (x, e)
  | _ => none
def tb0 : Tb := ⟨fun _ => none, fun _ => false, fun _ => false, fun _ => none, fun _ => none, Str.ofString "_law_error", fun _ _ => none⟩
def consts : List (Str × W) := (main14.filterMap asg1).foldl (fun (p : List (Str × W)) (xe : Str × Expr) => match (rcs (tb0.pgOf fun _ _ _ => none) 20).ev ⟨[], [], fun _ => false, fun _ => none⟩ xe.2 [] [] with
  | some (.ok w E) => (xe.1, w) :: p
  | _ => p) []
def cstW : Expr → Option W
  | .Constant (.int i) _ _ => some (.int i)
  | .Constant (.str s) _ _ => some (.str s)
  | _ => none
def zipD : List (Option Expr) → List Expr → List (Str × W)
  | some (.Constant (.str s) _ _) :: ks, v :: vs => match cstW v with
    | some w => (s, w) :: zipD ks vs
    | none => zipD ks vs
  | _, _ => []
def dcts : List (Str × List (Str × W)) := main14.filterMap fun
  | .Assign [.Name x _] (.Dict ks vs _) _ => some (x, zipD ks vs)
  | _ => none
def tops : List Str := (fds.map (·.1)) ++ clss ++ (main14.filterMap asg1).map (·.1)
def T14a : Tb := ⟨fun x => match fds.lookup x with
  | some _ => some (.fn x)
  | none => consts.lookup x, fun x => !tops.contains x, fun x => clss.contains x, fun x => fds.lookup x, fun x => dcts.lookup x, Str.ofString "_law_error", fun _ _ => none⟩
def labs : List (Str × Str) := [("InvalidTree", "tree"), ("InvalidPath", "path"), ("InvalidName", "name"), ("InvalidOrder", "order"), ("InvalidLotted", "lotted"), ("InvalidLotWork", "work"), ("InvalidManner", "manner")]
def onx14 : Onx := fun x E => (labs.lookup x).map fun s => (.str s, E)
def T14 : Tb := { T14a with onx := onx14 }
def fdAt (x : Str) : Fd := (fds.lookup x).getD ⟨.Pass ⟨0, 0, 0, 0⟩, [], [], false⟩
end G

set_option Elab.async false
set_option linter.all false
set_option maxRecDepth 100000
set_option maxHeartbeats 4000000
namespace G
open PySem L2 PySem.Spec PyProof.Rows
variable {M : Md} {base : Heap} {H : Hp} {X : Cx}
/-! ### the law's cup -/
def topN (i : Nat) : Stmt := PySem.Challenge.pw_namesapart_k14_lots_refused.main.body.getD i (.Pass ⟨0, 0, 0, 0⟩)
def rollG (g : Int) (n : Int) : Int := if 0 < g then g / n else g
def rollC (g c : Int) : Int := if 0 < g then c else (c * 30671 + 7919) % 2147483549
def rollR (g c : Int) (n : Int) : Int := if 0 < g then g % n else ((rollC g c * (rollC g c + 131)) % 2147483587) / 709 % n
abbrev sRoll : Stmt := topN 137
theorem scRoll : FnScope ["_law_cup_here", "_law_many", "_law_found", "_law_deep"] ["_law_cup_here", "_law_many"] (defScope sRoll) := ⟨rfl, rfl, rfl, by decide +kernel, rfl, by decide +kernel, by decide +kernel⟩
def spRoll : Sp := fun vs H Q _ => ∃ a g c n, vs = [.ref a, .int n] ∧ H a = some (.lst [.int g, .int c]) ∧ 0 < n ∧ n ≤ 64 ∧ 0 ≤ c ∧ c < 2 ^ 32 ∧ Q (.int (rollR g c n)) (upd H a (.lst [.int (rollG g n), .int (rollC g c)]))
/-- x = [i] of a list -/
theorem pss_roll (hi : X.mg "int" = none) (nd : X.N = (["_law_cup_here", "_law_many", "_law_found", "_law_deep"] : List Str)) (hs : X.env.scope = defScope sRoll) (kd : X.env.scope.kind = .function) (vs : List V) (H : Hp) (Q : VK) (E : XK) (h : spRoll vs H Q E) :
    ∃ t, PSs X (defBody sRoll) t ∧ t { nx := fun _ H' => Q .non H', rt := Q } (start ["_law_cup_here", "_law_many", "_law_found", "_law_deep"] vs) H := by
  have n0 : X.N[0]? = some ("_law_cup_here" : Str) := by rw [nd]; rfl
  have n1 : X.N[1]? = some ("_law_many" : Str) := by rw [nd]; rfl
  have n2 : X.N[2]? = some ("_law_found" : Str) := by rw [nd]; rfl
  have n3 : X.N[3]? = some ("_law_deep" : Str) := by rw [nd]; rfl
  have ndp : X.N.Nodup := by rw [nd]; exact scRoll.nd
  have v : ∀ x : Str, (defScope sRoll).names.lookup x = some .local → Vis X.env.scope x := fun x e => .inl (by rw [hs]; exact e)
  have v0 := v "_law_cup_here" (by decide +kernel)
  have v1 := v "_law_many" (by decide +kernel)
  have v2 := v "_law_found" (by decide +kernel)
  have v3 := v "_law_deep" (by decide +kernel)
  have l2 : X.env.scope.names.lookup ("_law_found" : Str) = some .local := by rw [hs]; decide +kernel
  have l3 : X.env.scope.names.lookup ("_law_deep" : Str) = some .local := by rw [hs]; decide +kernel
  have gi : Gl X "int" := by
    show X.env.kindOf _ = _
    unfold Env.kindOf
    rw [hs]
    decide +kernel
  have cup : ∀ {p}, PE X (.Name "_law_cup_here" p) (tVar 0) := pv 0 n0 v0
  have many : ∀ {p}, PE X (.Name "_law_many" p) (tVar 1) := pv 1 n1 v1
  refine ⟨_, pss_cons (ps_if (pt_cmpR op_gt (pe_ix ix_list cup pe_int (plainIx_ok rfl)) pe_int (nomark _))
      (pss_cons (ps_set (i := 2) ndp n2 (.inl l2) (pe_op op_mod (pe_callTy call_int1 gi hi PyProof.Rows.boot_int (pa_cons (pe_ix ix_list cup pe_int (plainIx_ok rfl)) pa_nil)) many) (hf := .inr l2))
      (pss_cons (ps_asg (pe_op op_fdiv (pe_ix ix_list cup pe_int (plainIx_ok rfl)) many) (pg_sub cup pe_int set_list))
      (pss_one (ps_ret (pv 2 n2 v2)))))
      pss_nil)
    (pss_cons (ps_asg (pe_op op_mod (pe_callTy call_int1 gi hi PyProof.Rows.boot_int (pa_cons (pe_op op_add (pe_op op_mul (pe_ix ix_list cup pe_int (plainIx_ok rfl)) pe_int) pe_int) pa_nil)) pe_int) (pg_sub cup pe_int set_list))
    (pss_cons (ps_set (i := 3) ndp n3 (.inl l3) (pe_op op_mod (pe_callTy call_int1 gi hi PyProof.Rows.boot_int (pa_cons (pe_op op_mul (pe_ix ix_list cup pe_int (plainIx_ok rfl)) (pe_op op_add (pe_ix ix_list cup pe_int (plainIx_ok rfl)) pe_int)) pa_nil)) pe_int) (hf := .inr l3))
    (pss_one (ps_ret (pe_op op_mod (pe_callTy call_int1 gi hi PyProof.Rows.boot_int (pa_cons (pe_op op_fdiv (pv 3 n3 v3) pe_int) pa_nil)) many))))), ?_⟩
  obtain ⟨a, g, c, n, rfl, ha, p1, p2, c1, c2, q⟩ := h
  refine ⟨_, rfl, a, _, 0, .int g, rfl, rfl, SqL.of ha, rfl, g, 0, rfl, rfl, decide (0 < g), rfl, ?_⟩
  by_cases hg : 0 < g
  · have q : Q (.int (g % n)) (upd H a (.lst [.int (g / n), .int c])) := by
      unfold rollR rollG rollC at q
      rw [if_pos hg, if_pos hg, if_pos hg] at q
      exact q
    rw [decide_eq_true hg]
    dsimp only
    rw [if_pos rfl]
    refine ⟨_, rfl, a, _, 0, .int g, rfl, rfl, SqL.of ha, rfl, .inl ⟨g, rfl, _, rfl, g, n, rfl, rfl, p1, ?_⟩⟩
    refine ⟨_, rfl, a, _, 0, .int g, rfl, rfl, SqL.of ha, rfl, _, rfl, g, n, rfl, rfl, ⟨p1, by omega⟩, ?_⟩
    refine ⟨_, rfl, a, _, 0, 0, rfl, rfl, ha, rfl, ?_⟩
    exact ⟨_, rfl, q⟩
  · have q : Q (.int ((((c * 30671 + 7919) % 2147483549 * ((c * 30671 + 7919) % 2147483549 + 131)) % 2147483587) / 709 % n)) (upd H a (.lst [.int g, .int ((c * 30671 + 7919) % 2147483549)])) := by
      unfold rollR rollG rollC at q
      rw [if_neg hg, if_neg hg, if_neg hg] at q
      exact q
    rw [decide_eq_false hg]
    dsimp only
    rw [if_neg Bool.false_ne_true]
    have b1 : 0 ≤ (c * 30671 + 7919) % 2147483549 := Int.emod_nonneg _ (by decide)
    have b2 : (c * 30671 + 7919) % 2147483549 < 2147483549 := Int.emod_lt_of_pos _ (by decide)
    refine ⟨_, rfl, a, _, 1, .int c, rfl, rfl, SqL.of ha, rfl, c, 30671, rfl, rfl, .inr ⟨by decide, by decide⟩, c * 30671, 7919, rfl, rfl, .inl ⟨c * 30671 + 7919, rfl, c * 30671 + 7919, 2147483549, rfl, rfl, (show (0 : Int) < 2147483549 by decide), ?_⟩⟩
    refine ⟨_, rfl, a, _, 1, 1, rfl, rfl, ha, rfl, ?_⟩
    dsimp only
    generalize hz : (c * 30671 + 7919) % 2147483549 = z at q b1 b2 ⊢
    have hb : upd H a (.lst ([V.int g, V.int c].set 1 (.int z))) a = some (.lst [V.int g, V.int z]) := upd_same
    refine ⟨_, rfl, a, _, 1, .int z, rfl, rfl, SqL.of hb, rfl, _, rfl, a, _, 1, .int z, rfl, rfl, SqL.of hb, rfl, z, 131, rfl, rfl, z, z + 131, rfl, rfl, .inl ⟨by omega, by omega⟩, .inl ⟨z * (z + 131), rfl, z * (z + 131), 2147483587, rfl, rfl, (show (0 : Int) < 2147483587 by decide), ?_⟩⟩
    refine ⟨_, rfl, _, 709, rfl, rfl, ⟨by decide, by decide⟩, .inl ⟨_, rfl, _, rfl, _, n, rfl, rfl, p1, q⟩⟩
/-! ### one of some things -/
abbrev sSome : Stmt := topN 138
theorem scSome : FnScope ["_law_cup_here", "_law_things"] ["_law_cup_here", "_law_things"] (defScope sSome) := ⟨rfl, rfl, rfl, by decide +kernel, rfl, by decide +kernel, by decide +kernel⟩
def spSome : Sp := fun vs H Q _ => ∃ a b g c xs v, vs = [.ref a, .ref b] ∧ H a = some (.lst [.int g, .int c]) ∧ H b = some (.lst xs) ∧ b ≠ a ∧ 0 < xs.length ∧ xs.length ≤ 64 ∧ 0 ≤ c ∧ c < 2 ^ 32 ∧ atI xs (rollR g c xs.length) = some v ∧ Q v (upd H a (.lst [.int (rollG g xs.length), .int (rollC g c)]))
theorem pss_some {E0 : XK} {f : Addr} {fd : FuncData} {k : Nat} (F : FnOk X.prog X.w X.K X.mg X.base (L2N.CX X.prog X.w) k f fd ["_law_cup_here", "_law_many"] spRoll) (hr : Room k X.A) (hm : X.mg "_law_roll" = some (.ref f)) (hk : PySem.W.keepIn X.K (.ref f) = true) (hb : Binds X.K fd ["_law_cup_here", "_law_many"] [])
    (hx : Passes (L2N.CX X.prog X.w) X E0) (hl : X.mg "len" = none) (nd : X.N = (["_law_cup_here", "_law_things"] : List Str)) (hs : X.env.scope = defScope sSome) (vs : List V) (H : Hp) (Q : VK) (E : XK) (h : spSome vs H Q E) :
    ∃ t, PSs X (defBody sSome) t ∧ t { nx := fun _ H' => Q .non H', rt := Q } (start ["_law_cup_here", "_law_things"] vs) H := by
  have n0 : X.N[0]? = some ("_law_cup_here" : Str) := by rw [nd]; rfl
  have n1 : X.N[1]? = some ("_law_things" : Str) := by rw [nd]; rfl
  have v : ∀ x : Str, (defScope sSome).names.lookup x = some .local → Vis X.env.scope x := fun x e => .inl (by rw [hs]; exact e)
  have gl : ∀ x : Str, (defScope sSome).names.lookup x = some .globalImplicit → Gl X x := fun x e => by
    show X.env.kindOf _ = _
    unfold Env.kindOf
    rw [hs]
    exact e
  refine ⟨_, pss_one (ps_ret (pe_ix ix_list (pv 1 n1 (v "_law_things" (by decide +kernel))) (pe_call F hr (gl "_law_roll" (by decide +kernel)) hm hk hb .nil hx
    (pa_cons (pv 0 n0 (v "_law_cup_here" (by decide +kernel))) (pa_cons (pe_callB call_len (gl "len" (by decide +kernel)) hl PySem.boot_len (pa_cons (pv 1 n1 (v "_law_things" (by decide +kernel))) pa_nil)) pa_nil))) (plainIx_ok rfl))), ?_⟩
  obtain ⟨a, b, g, c, xs, x, rfl, ha, hb2, ne, p1, p2, c1, c2, e, q⟩ := h
  refine ⟨_, rfl, _, rfl, _, rfl, _, xs.length, rfl, .inl ⟨_, SqL.of hb2, rfl⟩, a, g, c, (xs.length : Int), rfl, ha, by omega, by omega, c1, c2, ?_⟩
  exact ⟨b, xs, _, x, rfl, rfl, SqL.of ((upd_ne ne).trans hb2), e, q⟩
/-! ### the cup -/
abbrev sCup : Stmt := topN 136
theorem scCup : FnScope ["_law_script", "_law_cell", "_law_great"] ["_law_script"] (defScope sCup) := ⟨rfl, rfl, rfl, by decide +kernel, rfl, by decide +kernel, by decide +kernel⟩
def cupZ (ns : List Int) : Int := match ns ++ [0] with
  | z :: _ => if z < 0 then -z else z
  | [] => 0
def cupG (ns : List Int) : Int := if 10 ^ 18 ≤ cupZ ns then cupZ ns / 11 else 0
def cupC (ns : List Int) : Int := (cupZ ns * 193 + 1201) % 2077504273 + 89
def spCup (K : PySem.W.Frag) : Sp := fun vs H Q _ => ∃ a ns, vs = [.ref a] ∧ SqL K H a (ns.map V.int) ∧ ns.length ≤ 63 ∧ ∀ H' p, (∀ b o, H b = some o → H' b = some o) → (∀ b, H' b = none → H b = none) → H' p = none → Q (.ref p) (upd H' p (.lst [.int (cupG ns), .int (cupC ns)]))
theorem pss_cup (hl : X.mg "list" = none) (hab : X.mg "abs" = none) (hi : X.mg "int" = none) (nd : X.N = (["_law_script", "_law_cell", "_law_great"] : List Str)) (hs : X.env.scope = defScope sCup) (vs : List V) (H : Hp) (Q : VK) (E : XK) (h : spCup X.K vs H Q E) :
    ∃ t, PSs X (defBody sCup) t ∧ t { nx := fun _ H' => Q .non H', rt := Q } (start ["_law_script", "_law_cell", "_law_great"] vs) H := by
  have n0 : X.N[0]? = some ("_law_script" : Str) := by rw [nd]; rfl
  have n1 : X.N[1]? = some ("_law_cell" : Str) := by rw [nd]; rfl
  have n2 : X.N[2]? = some ("_law_great" : Str) := by rw [nd]; rfl
  have ndp : X.N.Nodup := by rw [nd]; exact scCup.nd
  have l1 : X.env.scope.names.lookup ("_law_cell" : Str) = some .local := by rw [hs]; decide +kernel
  have l2 : X.env.scope.names.lookup ("_law_great" : Str) = some .local := by rw [hs]; decide +kernel
  have v : ∀ x : Str, (defScope sCup).names.lookup x = some .local → Vis X.env.scope x := fun x e => .inl (by rw [hs]; exact e)
  have gl : ∀ x : Str, (defScope sCup).names.lookup x = some .globalImplicit → Gl X x := fun x e => by
    show X.env.kindOf _ = _
    unfold Env.kindOf
    rw [hs]
    exact e
  have v1 := v "_law_cell" (by decide +kernel)
  refine ⟨_, pss_cons (ps_set (i := 1) ndp n1 (.inl l1) (pe_callB call_abs (gl "abs" (by decide +kernel)) hab PyProof.Rows.boot_abs (pa_cons (pe_ix ix_list (pe_op op_cat (pe_callTy call_list_of (gl "list" (by decide +kernel)) hl PyProof.Rows.boot_list (pa_cons (pv 0 n0 (v "_law_script" (by decide +kernel))) pa_nil)) (pe_lst (pa_cons pe_int pa_nil))) pe_int (plainIx_ok rfl)) pa_nil)) (hf := .inr l1))
    (pss_cons (ps_set (i := 2) ndp n2 (.inl l2) (pe_ifExp (pt_cmpR op_ge (pv 1 n1 v1) (pe_op op_pow pe_int pe_int) (nomark _)) (pe_op op_fdiv (pv 1 n1 v1) pe_int) pe_int) (hf := .inr l2))
    (pss_one (ps_ret (pe_lst (pa_cons (pv 2 n2 (v "_law_great" (by decide +kernel))) (pa_cons (pe_op op_add (pe_op op_mod (pe_callTy call_int1 (gl "int" (by decide +kernel)) hi PyProof.Rows.boot_int (pa_cons (pe_op op_add (pe_op op_mul (pv 1 n1 v1) pe_int) pe_int) pa_nil)) pe_int) pe_int) pa_nil)))))), ?_⟩
  obtain ⟨a, ns, rfl, ha, hn, q⟩ := h
  refine ⟨_, rfl, a, _, rfl, .inl ha, fun p1 hp1 => ?_⟩
  refine ⟨by show 1 ≤ sizeLine; decide, fun p2 hp2 => ?_⟩
  have ne12 : p1 ≠ p2 := fun z => by rw [← z, upd_same] at hp2; cases hp2
  refine ⟨p1, p2, ns.map V.int, [.int 0], rfl, rfl, (upd_ne ne12).trans upd_same, upd_same, ?_, fun p3 hp3 => ?_⟩
  · rw [List.length_map, sizeLine_eq]
    show ns.length + 1 ≤ _
    omega
  have hp2' : H p2 = none := by
    rw [upd_ne (Ne.symm ne12)] at hp2
    exact hp2
  have hp3' : H p3 = none := by
    have n2 : p3 ≠ p2 := fun z => by rw [z, upd_same] at hp3; cases hp3
    have n1 : p3 ≠ p1 := fun z => by rw [z, upd_ne ne12, upd_same] at hp3; cases hp3
    rw [upd_ne n2, upd_ne n1] at hp3
    exact hp3
  obtain ⟨z, hz⟩ : ∃ z : Int, atI (ns.map V.int ++ [.int 0]) 0 = some (.int z) ∧ cupZ ns = if z < 0 then -z else z := by
    cases ns with
    | nil => exact ⟨0, rfl, rfl⟩
    | cons w r => exact ⟨w, by simp [atI, ixN]; rw [if_pos (by omega)]; rfl, rfl⟩
  refine ⟨p3, _, 0, .int z, rfl, rfl, SqL.of upd_same, hz.1, z, rfl, ?_⟩
  rw [← hz.2]
  generalize hH : upd (upd (upd H p1 (.lst (ns.map V.int))) p2 (.lst [.int 0])) p3 (.lst (ns.map V.int ++ [.int 0])) = H3
  have e3 : ∀ b o, H b = some o → H3 b = some o := fun b o e => by
    rw [← hH, upd_ne (ne_of_none e hp3'), upd_ne (ne_of_none e hp2'), upd_ne (ne_of_none e hp1)]
    exact e
  have n3 : ∀ b, H3 b = none → H b = none := fun b e => by
    cases eb : H b with
    | none => rfl
    | some o => rw [e3 b o eb] at e; cases e
  generalize hcz : cupZ ns = cz
  have big : (10 : Int) ^ (18 : Int).toNat = 10 ^ 18 := rfl
  have last : ∀ gr : Int, gr = cupG ns → ∀ p, H3 p = none → Q (.ref p) (upd H3 p (.lst [.int gr, .int ((cz * 193 + 1201) % 2077504273 + 89)])) := fun gr e p hp => by
    have z := q H3 p e3 n3 hp
    unfold cupC at z
    rw [hcz] at z
    rw [e]
    exact z
  refine ⟨_, rfl, 10, 18, rfl, rfl, ⟨by decide, by decide, by decide⟩, cz, 10 ^ 18, rfl, rfl, decide (10 ^ 18 ≤ cz), rfl, ?_⟩
  have fin : ∀ gr : Int, gr = cupG ns → tRet (tLst (tCons (tVar 2) (tCons (tOp (rI0 fun i j => .int (i + j)) (tOp (rI (fun _ j => 0 < j) fun i j => .int (i % j)) (tCB (fun xs H Q => (∃ i, xs = [V.int i] ∧ Q (.int i) H) ∨ ∃ k, xs = [V.bl k] ∧ Q (.int (if k then 1 else 0)) H)
      (tCons (tOp (rI0 fun i j => .int (i + j)) (tOp (rI CMul fun i j => .int (i * j)) (tVar 1) (tC (.int 193))) (tC (.int 1201))) tNil)) (tC (.int 2077504273))) (tC (.int 89))) tNil))) { nx := fun _ H' => Q .non H', rt := Q } [some (.ref a), some (.int cz), some (.int gr)] H3 := fun gr e => by
    refine ⟨_, rfl, _, rfl, cz, 193, rfl, rfl, .inr ⟨by decide, by decide⟩, cz * 193, 1201, rfl, rfl, .inl ⟨cz * 193 + 1201, rfl, cz * 193 + 1201, 2077504273, rfl, rfl, (show (0 : Int) < 2077504273 by decide), _, 89, rfl, rfl, ?_⟩⟩
    exact ⟨by show 2 ≤ sizeLine; decide, fun p hp => last gr e p hp⟩
  by_cases hb : 10 ^ 18 ≤ cz
  · rw [decide_eq_true hb]
    dsimp only
    rw [if_pos rfl]
    refine ⟨_, rfl, cz, 11, rfl, rfl, ⟨by decide, by decide⟩, ?_⟩
    exact fin (cz / 11) (by unfold cupG; rw [hcz, if_pos hb])
  · rw [decide_eq_false hb]
    dsimp only
    rw [if_neg Bool.false_ne_true]
    exact fin 0 (by unfold cupG; rw [hcz, if_neg hb])
end G

set_option Elab.async false
set_option linter.all false
set_option maxRecDepth 100000
set_option maxHeartbeats 2000000
namespace G
open PySem PySem.Spec PyProof.Rows L2
theorem zip_lookup_some : ∀ {ps : List Str} {us : List Value} {n : Str}, us.length = ps.length → n ∈ ps → ((ps.zip us).lookup n).isSome = true
  | [], _, _, _, h => by cases h
  | p :: ps, [], _, h, _ => by cases h
  | p :: ps, u :: us, n, h, m => by
    show (((p, u) :: ps.zip us).lookup n).isSome = true
    rw [List.lookup_cons]
    cases q : n == p with
    | true => rfl
    | false =>
      have hm : n ∈ ps := by
        rcases List.mem_cons.mp m with e | e
        · rw [e, beq_self_eq_true] at q; cases q
        · exact e
      exact zip_lookup_some (by simpa using h) hm
theorem zip_filterMap : ∀ {ps : List Str} {us : List Value}, us.length = ps.length → ps.Nodup → ∀ pre : List (Str × Value), (∀ n ∈ ps, pre.lookup n = none) → ps.filterMap (fun n => ((pre ++ ps.zip us).lookup n).map (n, ·)) = ps.zip us
  | [], us, h, _, _, _ => by simp
  | p :: ps, [], h, _, _, _ => by cases h
  | p :: ps, u :: us, h, nd, pre, hp => by
    obtain ⟨n1, n2⟩ := List.nodup_cons.mp nd
    have e1 : (pre ++ (p :: ps).zip (u :: us)).lookup p = some u := by
      rw [List.lookup_append, hp p List.mem_cons_self]
      show ((p, u) :: ps.zip us).lookup p = some u
      rw [List.lookup_cons, beq_self_eq_true]
    rw [List.filterMap_cons, e1]
    show (p, u) :: _ = (p, u) :: ps.zip us
    congr 1
    have z := zip_filterMap (ps := ps) (us := us) (by simpa using h) n2 (pre ++ [(p, u)]) fun n hn => by
      rw [List.lookup_append, hp n (List.mem_cons_of_mem _ hn)]
      show ((p, u) :: []).lookup n = none
      rw [List.lookup_cons]
      have : (n == p) = false := by
        cases q : n == p with
        | false => rfl
        | true => rw [eq_of_beq q] at hn; exact absurd hn n1
      rw [this]; rfl
    rw [List.append_assoc] at z
    exact z
theorem bind_gen {x qual : Str} {args : List Arg} {body : List Stmt} {scope : Scope} {kV doc pm : Value} {an : Option Addr} {cdv ct : Value} {us : List Value} (hl : us.length = (args.map (·.arg)).length) (nd : (args.map (·.arg)).Nodup) :
    bindArgs (PySem.W.fnOf x qual ⟨[], args, none, [], [], none, []⟩ body scope .none kV doc pm an cdv ct) ⟨us, []⟩ = pure ((args.map (·.arg)).zip us) := by
  have e1 : ∀ d, ((args.map (·.arg)).take d).filter (fun n => (((args.map (·.arg)).zip us).lookup n).isNone) = [] := fun d => by
    rw [List.filter_eq_nil_iff]
    intro n hn
    have := zip_lookup_some hl (List.mem_of_mem_take hn)
    cases q : ((args.map (·.arg)).zip us).lookup n with
    | none => rw [q] at this; cases this
    | some _ => simp
  have e2 := zip_filterMap hl nd [] fun n _ => rfl
  unfold bindArgs
  simp only [PySem.W.fnOf]
  have e3 : seqItems? (Value.none) = pure none := rfl
  have e4 : ¬ (us.length > (args.map (·.arg)).length) := by omega
  have e5 : ¬ args.length < us.length := by rw [List.length_map] at hl; omega
  simp [e3, e1, e4]
  rw [if_neg e5, ← List.filterMap_map]
  exact congrArg pure e2
end G

set_option Elab.async false
set_option linter.all false
set_option maxRecDepth 100000
set_option maxHeartbeats 2000000
namespace G
open PySem PySem.Spec PyProof.Rows L2
/-! ### a value as the head's heap has it -/
mutual
def rwB (K : PySem.W.Frag) : W → Value → Bool
  | .non, .none => true
  | .bl b, .bool c => b == c
  | .int i, .int j _ => decide (i = j)
  | .str s, .str t _ => decide (s = t)
  | .tup ws, .ref a => (match K.lookup a with
    | some ⟨.type c, _, .seq its _, _⟩ => decide (c = "tuple") && (decide (its.size ≤ sizeLine) && rwBs K ws its.toList)
    | _ => false)
  | .fn x, .ref f => He.eqO (PySem.W.nsIn K mainGlobals x) (some (some (.ref f)))
  | .ty n, .type m => decide (n = m)
  | _, _ => false
def rwBs (K : PySem.W.Frag) : List W → List Value → Bool
  | [], [] => true
  | w :: ws, u :: us => rwB K w u && rwBs K ws us
  | _, _ => false
end
section
variable {M : Md} {h : Heap}
mutual
theorem rwB_ok (X : M.K.In h) (G : h.Ns mainGlobals M.mg) : ∀ {w : W} {u : Value}, rwB M.K w u = true → ∃ v, RelV v u ∧ ∀ H ι, RelW M H ι w v
  | .non, u, e => by
    cases u with
    | none => exact ⟨.non, rfl, fun _ _ => rfl⟩
    | _ => cases e
  | .bl b, u, e => by
    cases u with
    | bool c =>
      have q : b = c := eq_of_beq (show (b == c) = true from e)
      exact ⟨.bl b, by rw [q]; rfl, fun _ _ => rfl⟩
    | _ => cases e
  | .int i, u, e => by
    cases u with
    | int j t =>
      have q : i = j := of_decide_eq_true e
      exact ⟨.int i, ⟨t, by rw [q]⟩, fun _ _ => rfl⟩
    | _ => cases e
  | .str i, u, e => by
    cases u with
    | str j t =>
      have q : i = j := of_decide_eq_true e
      exact ⟨.str i, ⟨t, by rw [q]⟩, fun _ _ => rfl⟩
    | _ => cases e
  | .ref i, u, e => by
    cases u <;> cases e
  | .ty n, u, e => by
    cases u with
    | type m =>
      have q : n = m := of_decide_eq_true e
      exact ⟨.ty n, by rw [q]; rfl, fun _ _ => rfl⟩
    | _ => cases e
  | .fn x, u, e => by
    cases u with
    | ref f => exact ⟨.ref f, rfl, fun _ _ => ⟨f, PySem.W.mg_of X G (He.eqO_ok e), rfl⟩⟩
    | _ => cases e
  | .tup ws, u, e => by
    cases u with
    | ref a =>
      unfold rwB at e
      cases q : M.K.lookup a with
      | none => rw [q] at e; cases e
      | some o =>
        obtain ⟨oc, od, dt, osl⟩ := o
        rw [q] at e
        cases oc with
        | type c =>
          cases dt with
          | seq its n =>
            obtain ⟨h1, h2⟩ := He.ba (show (decide (c = "tuple") && (decide (its.size ≤ sizeLine) && rwBs M.K ws its.toList)) = true from e)
            obtain ⟨h3, h4⟩ := He.ba h2
            obtain ⟨vs, r1, r2⟩ := rwBs_ok X G h4
            exact ⟨.ref a, rfl, fun H ι => ⟨a, vs, rfl, .inr ⟨_, its, n, q, congrArg Value.type (of_decide_eq_true h1), rfl, of_decide_eq_true h3, r1⟩, r2 H ι⟩⟩
          | _ => cases e
        | _ => cases dt <;> cases e
    | _ => cases e
theorem rwBs_ok (X : M.K.In h) (G : h.Ns mainGlobals M.mg) : ∀ {ws : List W} {us : List Value}, rwBs M.K ws us = true → ∃ vs, Vals vs us ∧ ∀ H ι, RelWs M H ι ws vs
  | [], us, e => by
    cases us with
    | nil => exact ⟨[], .nil, fun _ _ => rfl⟩
    | cons _ _ => cases e
  | w :: ws, us, e => by
    cases us with
    | nil => cases e
    | cons u us =>
      obtain ⟨h1, h2⟩ := He.ba (show (rwB M.K w u && rwBs M.K ws us) = true from e)
      obtain ⟨v, a1, a2⟩ := rwB_ok X G h1
      obtain ⟨vs, b1, b2⟩ := rwBs_ok X G h2
      exact ⟨v :: vs, .cons a1 b1, fun H ι => ⟨v, vs, rfl, a2 H ι, b2 H ι⟩⟩
end
end
/-! ### a dict that the text writes -/
def dEs (K : PySem.W.Frag) : List DictEntry → List (Str × W) → Bool
  | [], [] => true
  | e :: r, p :: q => (match e.key with
    | .str x _ => decide (x = p.1)
    | _ => false) && (rwB K p.2 e.val && dEs K r q)
  | _, _ => false
def dctB (K : PySem.W.Frag) (a : Addr) (kvs : List (Str × W)) : Bool := match K.lookup a with
  | some ⟨_, _, .dict es _, _⟩ => dEs K es.toList kvs
  | _ => false
theorem dEs_ok {M : Md} {h : Heap} (X : M.K.In h) (G : h.Ns mainGlobals M.mg) (z : Str) : ∀ {l : List DictEntry} {kvs : List (Str × W)}, dEs M.K l kvs = true → (∃ r, (match l.find? (·.key.isStr z) with
      | some e => some (some e.val)
      | none => if l.any (·.refKey) then none else some none) = some r ∧ KdV M kvs z r)
  | [], [], _ => ⟨none, rfl, rfl⟩
  | [], _ :: _, e => by cases e
  | _ :: _, [], e => by cases e
  | d :: l, p :: kvs, e => by
    obtain ⟨h1, h2⟩ := He.ba (show ((match d.key with
      | .str x _ => decide (x = p.1)
      | _ => false) && (rwB M.K p.2 d.val && dEs M.K l kvs)) = true from e)
    obtain ⟨h3, h4⟩ := He.ba h2
    cases q : d.key with
    | str x t =>
      rw [q] at h1
      have ex : x = p.1 := of_decide_eq_true h1
      have e1 : d.key.isStr z = (x == z) := by rw [q]; rfl
      have e2 : d.refKey = false := by unfold DictEntry.refKey; rw [q]
      have el : (p :: kvs).lookup z = if z == p.1 then some p.2 else kvs.lookup z := by
        obtain ⟨p1, p2⟩ := p
        rw [List.lookup_cons]
        cases z == p1 <;> rfl
      cases b : x == z with
      | true =>
        rw [List.find?_cons, e1, b]
        have ez : x = z := eq_of_beq b
        obtain ⟨v, a1, a2⟩ := rwB_ok X G h3
        refine ⟨some d.val, rfl, ?_⟩
        unfold KdV
        rw [el, ← ez, ex, beq_self_eq_true]
        exact ⟨d.val, v, rfl, a1, a2⟩
      | false =>
        rw [List.find?_cons, e1, b, List.any_cons, e2, Bool.false_or]
        obtain ⟨r, r1, r2⟩ := dEs_ok X G z h4
        refine ⟨r, r1, ?_⟩
        unfold KdV at r2 ⊢
        have nz : (z == p.1) = false := by
          rw [← ex]
          cases c : z == x with
          | false => rfl
          | true => rw [eq_of_beq c, beq_self_eq_true] at b; cases b
        rw [el, nz]
        exact r2
    | _ => rw [q] at h1; cases h1
/-! ### scopes and parameters -/
def fnScopeB (N P : List Str) (sc : Scope) : Bool := decide (sc.kind = .function) && (!sc.isCoroutine && (!sc.isGenerator && (decide N.Nodup && (decide (N.take P.length = P) && (P.all (fun x => decide (sc.names.lookup x = some .local) || decide (sc.names.lookup x = some .cell)) && sc.names.all fun y => decide (y.2 ≠ .free))))))
theorem fnScopeB_ok {N P : List Str} {sc : Scope} (e : fnScopeB N P sc = true) : FnScope N P sc := by
  obtain ⟨h1, e⟩ := He.ba e
  obtain ⟨h2, e⟩ := He.ba e
  obtain ⟨h3, e⟩ := He.ba e
  obtain ⟨h4, e⟩ := He.ba e
  obtain ⟨h5, e⟩ := He.ba e
  obtain ⟨h6, h7⟩ := He.ba e
  refine ⟨of_decide_eq_true h1, by simpa using h2, by simpa using h3, of_decide_eq_true h4, of_decide_eq_true h5, fun x hx => ?_, fun y hy => of_decide_eq_true (List.all_eq_true.mp h7 y hy)⟩
  rcases Bool.or_eq_true_iff.mp (List.all_eq_true.mp h6 x hx) with z | z
  · exact .inl (of_decide_eq_true z)
  · exact .inr (of_decide_eq_true z)
def argsB (a : Arguments) (ps : List Str) : Bool := match a with
  | ⟨[], as, none, [], [], none, []⟩ => decide (as.map (·.arg) = ps) && decide ps.Nodup
  | _ => false
theorem argsB_ok {a : Arguments} {ps : List Str} (e : argsB a ps = true) : ∃ as : List Arg, a = ⟨[], as, none, [], [], none, []⟩ ∧ as.map (·.arg) = ps ∧ ps.Nodup := by
  unfold argsB at e
  split at e
  · obtain ⟨h1, h2⟩ := He.ba e
    exact ⟨_, rfl, of_decide_eq_true h1, of_decide_eq_true h2⟩
  · cases e
/-! ### a module's table, and what the head has to tell of it -/
structure Tq where
  fds : List (Str × Fd)
  cs : List (Str × W)
  non : List Str
  exc : List Str
  dct : List (Str × List (Str × W))
  er : Str
  onx : Onx
def Tq.tb (q : Tq) : Tb := ⟨fun x => match q.fds.lookup x with
  | some _ => some (.fn x)
  | none => q.cs.lookup x, fun x => q.non.contains x, fun x => q.exc.contains x, fun x => q.fds.lookup x, fun x => q.dct.lookup x, q.er, q.onx⟩
def Tq.lams (q : Tq) : List Str := (q.fds.filter (·.2.lam)).map (·.1)
def Tq.tf (q : Tq) : List He.Defn := q.lams.map fun x => (x, none)
def Tq.tabs (q : Tq) (K : PySem.W.Frag) : List (Addr × Str) := q.lams.map fun x => ((He.cT K (x, none)).2, (x ++ ".<locals>.") ++ "<lambda>")
def Tq.fa (q : Tq) : List He.Fa := q.fds.map (fun p => .glo p.1) ++ (q.non.map .free ++ (q.exc.map .glo ++ (q.exc.map .exc ++ q.dct.map fun p => .glo p.1)))
def Tq.dd (p : Str × Fd) : He.DefD := ⟨(p.1, none), p.1, p.1, defArgs p.2.st, defBody p.2.st, defScope p.2.st, [], []⟩
def Tq.fn (q : Tq) : List He.DefD := q.fds.map Tq.dd
def Tq.ts (q : Tq) : List He.Tab := q.dct.map fun p => (fun K => He.ga K p.1, p.2.map (·.1))
def Tq.plain (q : Tq) : Bool := (q.fds.all fun p => fnScopeB p.2.N p.2.ps (defScope p.2.st) && (argsB (defArgs p.2.st) p.2.ps && !(p.1 == ("__debug__" : Str)))) && q.dct.all fun p => !(p.1 == ("__debug__" : Str))
def Tq.ok (q : Tq) (K : PySem.W.Frag) : Bool := (q.cs.all fun p => match PySem.W.nsIn K mainGlobals p.1 with
  | some (some u) => rwB K p.2 u
  | _ => false) && ((q.dct.all fun p => dctB K (He.ga K p.1) p.2) && decide ((q.tabs K).map (·.1)).Nodup)
theorem lookup_memS {α : Type} {x : Str} {o : α} : ∀ {l : List (Str × α)}, l.lookup x = some o → (x, o) ∈ l
  | [], h => by cases h
  | (b, u) :: r, h => by
    rw [List.lookup_cons] at h
    cases q : x == b with
    | true =>
      rw [q] at h
      cases h
      rw [eq_of_beq q]
      exact List.mem_cons_self
    | false =>
      rw [q] at h
      exact List.mem_cons_of_mem _ (lookup_memS h)
theorem nodup_map {α β : Type} {f : α → β} : ∀ {l : List α}, (l.map f).Nodup → ∀ p ∈ l, ∀ r ∈ l, f p = f r → p = r
  | [], _, _, h, _, _, _ => by cases h
  | a :: l, nd, p, hp, r, hr, e => by
    obtain ⟨n1, n2⟩ := List.nodup_cons.mp nd
    rcases List.mem_cons.mp hp with e1 | e1 <;> rcases List.mem_cons.mp hr with e2 | e2
    · rw [e1, e2]
    · exact absurd (List.mem_map.mpr ⟨r, e2, by rw [← e, e1]⟩) n1
    · exact absurd (List.mem_map.mpr ⟨p, e1, by rw [e, e2]⟩) n1
    · exact nodup_map n2 p e1 r e2 e
theorem Tq.defOk {q : Tq} {M : Md} {h base : Heap} (hT : M.T = q.tabs M.K) (c : He.SaysX q.fa q.fn q.ts q.tf q.ok M.w h M.K) (X : M.K.In h) (G : h.Ns mainGlobals M.mg) (hp : q.plain = true) (tb : ∀ p ∈ q.tf.map (He.cT M.K), LamX.TabB base M.mg p.1 p.2) {x : Str} {d : Fd} (hd : q.fds.lookup x = some d) :
    (∃ f fd, DefOk M base x d f fd) ∧ (x == ("__debug__" : Str)) = false := by
  have hm : (x, d) ∈ q.fds := lookup_memS hd
  obtain ⟨h1, _⟩ := He.ba hp
  obtain ⟨s1, s2⟩ := He.ba (List.all_eq_true.mp h1 _ hm)
  obtain ⟨s3, s4⟩ := He.ba s2
  refine ⟨?_, by simpa using s4⟩
  obtain ⟨fd, F⟩ := c.t.d.defs (d := Tq.dd (x, d)) (List.mem_map.mpr ⟨_, hm, rfl⟩)
  have g : M.mg x = some (.ref (He.ga M.K x)) := He.glo_ok X G (c.t.d.facts (f := .glo x) (List.mem_append_left _ (List.mem_map.mpr ⟨_, hm, rfl⟩)))
  have F' : FunD M.K x x (defArgs d.st) (defBody d.st) (defScope d.st) [] [] (He.ga M.K x) fd := F
  obtain ⟨as, ea, em, nd⟩ := argsB_ok s3
  have nd' : (as.map (·.arg)).Nodup := by rw [em]; exact nd
  refine ⟨He.ga M.K x, fd, ⟨?_, F'.kp, fnScopeB_ok s1, g, F'.bindsN fun kV doc pm an cdv ct us hl => ?_⟩⟩
  · obtain ⟨oc, od, dV, kV, doc, pm, an, cdv, ct, osl, rfl, lk, hcd, hD, hK⟩ := F'.ex
    rcases hD with ⟨_, rfl⟩ | ⟨e, _⟩
    · refine ⟨x, oc, od, kV, doc, pm, an, cdv, ct, osl, rfl, lk, hcd, fun hl => ?_⟩
      obtain ⟨c0, rfl⟩ := He.codeIn_ref hcd
      have ec : He.codeOf M.K (x, none) = c0 := He.codeOf_eq (p := (x, none)) lk rfl
      have mx : x ∈ q.lams := List.mem_map.mpr ⟨(x, d), List.mem_filter.mpr ⟨hm, hl⟩, rfl⟩
      have t := tb (He.cT M.K (x, none)) (List.mem_map.mpr ⟨(x, none), List.mem_map.mpr ⟨x, mx, rfl⟩, rfl⟩)
      have e1 : (He.cT M.K (x, none)).1 = c0 := ec
      rw [e1] at t
      refine ⟨c0, _, t, rfl, ?_, fun p hpm e => ?_⟩
      · rw [hT]
        exact List.mem_map.mpr ⟨x, mx, rfl⟩
      · rw [hT] at hpm
        have m0 : ((He.cT M.K (x, none)).2, (x ++ ".<locals>.") ++ "<lambda>") ∈ q.tabs M.K := List.mem_map.mpr ⟨x, mx, rfl⟩
        have nd := of_decide_eq_true (He.ba (He.ba c.more).2).2
        exact congrArg Prod.snd (nodup_map nd p hpm _ m0 e)
    · exact absurd rfl e
  · have := bind_gen (x := x) (qual := x) (body := defBody d.st) (scope := defScope d.st) (kV := kV) (doc := doc) (pm := pm) (an := an) (cdv := cdv) (ct := ct) (by rw [em]; exact hl) nd'
    rw [em, ← ea] at this
    exact this
theorem Tq.globOk {q : Tq} {M : Md} {h : Heap} (c : He.SaysX q.fa q.fn q.ts q.tf q.ok M.w h M.K) (X : M.K.In h) (G : h.Ns mainGlobals M.mg) (hp : q.plain = true) (low : Cal) : Glob M (q.tb.pgOf low) := by
  refine ⟨fun x w e => ?_, fun x e => ?_, fun x e => ?_, fun x kvs e => ?_⟩
  · have e' : (match q.fds.lookup x with
      | some _ => some (W.fn x)
      | none => q.cs.lookup x) = some w := e
    cases z : q.fds.lookup x with
    | some d =>
      rw [z] at e'
      cases e'
      have g : M.mg x = some (.ref (He.ga M.K x)) := He.glo_ok X G (c.t.d.facts (f := .glo x) (List.mem_append_left _ (List.mem_map.mpr ⟨_, lookup_memS z, rfl⟩)))
      exact ⟨.ref _, _, g, rfl, fun _ _ => ⟨_, g, rfl⟩⟩
    | none =>
      rw [z] at e'
      have k := List.all_eq_true.mp (He.ba c.more).1 _ (lookup_memS e')
      dsimp only at k
      cases n : PySem.W.nsIn M.K mainGlobals x with
      | none => rw [n] at k; cases k
      | some r =>
        rw [n] at k
        cases r with
        | none => cases k
        | some u =>
          obtain ⟨v, r1, r2⟩ := rwB_ok X G k
          exact ⟨v, u, PySem.W.mg_of X G n, r1, r2⟩
  · have m : x ∈ q.non := List.contains_iff_mem.mp e
    exact He.free_ok X G (c.t.d.facts (f := .free x) (List.mem_append_right _ (List.mem_append_left _ (List.mem_map.mpr ⟨x, m, rfl⟩))))
  · have m : x ∈ q.exc := List.contains_iff_mem.mp e
    have g := He.glo_ok X G (c.t.d.facts (f := .glo x) (List.mem_append_right _ (List.mem_append_right _ (List.mem_append_left _ (List.mem_map.mpr ⟨x, m, rfl⟩)))))
    obtain ⟨h1, h2, h3, h4⟩ := He.exc_ok (c.t.d.facts (f := .exc x) (List.mem_append_right _ (List.mem_append_right _ (List.mem_append_right _ (List.mem_append_left _ (List.mem_map.mpr ⟨x, m, rfl⟩))))))
    exact ⟨_, g, h1, h2, h3, h4⟩
  · have m : (x, kvs) ∈ q.dct := lookup_memS e
    have g := He.glo_ok X G (c.t.d.facts (f := .glo x) (List.mem_append_right _ (List.mem_append_right _ (List.mem_append_right _ (List.mem_append_right _ (List.mem_map.mpr ⟨(x, kvs), m, rfl⟩))))))
    have k := List.all_eq_true.mp (He.ba (He.ba c.more).2).1 _ m
    have nd : (x == ("__debug__" : Str)) = false := by simpa using List.all_eq_true.mp (He.ba hp).2 _ m
    obtain ⟨i, hi, ei⟩ := List.mem_iff_getElem.mp (List.mem_map.mpr ⟨(x, kvs), m, rfl⟩ : ((fun K => He.ga K x, kvs.map (·.1)) : He.Tab) ∈ q.ts)
    obtain ⟨es, n, D⟩ := c.t.tab i (t := (fun K => He.ga K x, kvs.map (·.1))) ((List.getElem?_eq_getElem hi).trans (congrArg some ei))
    refine ⟨_, g, nd, ⟨⟨es, n, D.at_, D.lit, fun z => ?_⟩, D.low⟩⟩
    have lk : M.K.lookup (He.ga M.K x) = some ⟨.type "dict", none, .dict es n, #[]⟩ := D.at_
    dsimp only at k
    unfold dctB at k
    rw [lk] at k
    obtain ⟨r, r1, r2⟩ := dEs_ok X G z k
    refine ⟨r, ?_, r2⟩
    unfold PySem.W.nsIn
    rw [lk]
    exact r1
theorem Tq.tbOk {q : Tq} {M : Md} {h base : Heap} (hT : M.T = q.tabs M.K) (c : He.SaysX q.fa q.fn q.ts q.tf q.ok M.w h M.K) (X : M.K.In h) (G : h.Ns mainGlobals M.mg) (hp : q.plain = true) (tb : ∀ p ∈ q.tf.map (He.cT M.K), LamX.TabB base M.mg p.1 p.2) (hc : ∀ k, Catch M base k q.er q.onx) : TbOk M base q.tb :=
  ⟨Tq.globOk c X G hp, fun x d e => Tq.defOk hT c X G hp tb e, hc⟩
end G

set_option Elab.async false
set_option linter.all false
set_option maxRecDepth 100000
set_option maxHeartbeats 4000000
namespace G
open PySem PySem.Spec PyProof.Rows L2
/-! ### the head's look, by written addresses -/
section
variable (as : List Addr) (fa : List He.Fa) (fn : List He.DefD) (ts : List He.Tab) (tf : List He.Defn) (ex : PySem.W.Frag → Bool)
def obsL (g : Addr → Option Obj) : He.AlX := (He.obsT fa fn ts (He.frT g as), ex (He.frT g as) && He.tabsB g tf (He.frT g as))
theorem obsL_of {w : World} {h : Heap} (e : obsL as fa fn ts tf ex h.get? = He.valX fn ts w) : He.SaysX fa fn ts tf ex w h (He.frT h.get? as) := by
  generalize hK : He.frT h.get? as = K at *
  unfold obsL at e
  rw [hK] at e
  obtain ⟨e1, e2⟩ := Prod.mk.inj e
  obtain ⟨h1, h2⟩ := He.ba e2
  have at_ : ∀ p ∈ tf, PySem.W.codeHdIn K (He.cT K p).1 (He.cT K p).2 = true ∧ ∃ o, h.get? (He.cT K p).2 = some o ∧ He.emptyTab o = true := fun p hp => by
    obtain ⟨h3, h4⟩ := He.ba (List.all_eq_true.mp h2 p hp)
    revert h4
    cases q : h.get? (He.cT K p).2 with
    | none => intro h4; cases h4
    | some o => intro h4; exact ⟨h3, o, rfl, h4⟩
  refine ⟨e1, h1, fun p hp => (at_ p hp).1, fun p hp => ?_, fun p hp => ?_⟩
  · obtain ⟨_, o, q, z⟩ := at_ p hp
    have n := He.frT_none (as := as) q z
    rw [hK] at n
    exact n
  · obtain ⟨_, o, q, z⟩ := at_ p hp
    rw [q, He.emptyTab_eq z]
def hookL : PySem.W.Hook where
  α := He.AlX
  obs := fun s => obsL as fa fn ts tf ex s.heap.get?
  val := fun w => He.valX fn ts w
  says := fun w h => ∃ K : PySem.W.Frag, K.In h ∧ He.SaysX fa fn ts tf ex w h K
  of := fun _ _ e => ⟨_, He.frT_in, obsL_of as fa fn ts tf ex e⟩
  keeps := fun _ _ _ ⟨K, hK, c⟩ k => ⟨K, PySem.W.Frag.In.keeps hK k, ⟨c.t, c.more, c.hd, c.out, fun p hp => k _ _ (c.empty p hp)⟩⟩
end
/-- the answers of one state, each by itself -/
theorem map5 {α β γ A B : Type} {o : Option α} {f : α → β} {g : α → γ} {a1 a2 b1 b2 : α → Bool} {a3 : α → A} {a4 : α → B} {y : β} {z : γ} {v3 : A} {v4 : B} (h1 : o.map (fun s => (f s, g s)) = some (y, z)) (h2 : o.map a1 = some true) (h3 : o.map a2 = some true) (h4 : o.map a3 = some v3) (h5 : o.map a4 = some v4)
    (h6 : o.map b1 = some true) (h7 : o.map b2 = some true) : (o.map fun s => (f s, g s, (((a1 s && a2 s, a3 s), a4 s), b1 s && b2 s))) = some (y, z, (((true, v3), v4), true)) := by
  cases o with
  | none => cases h1
  | some x =>
    obtain ⟨e1, e1'⟩ := Prod.mk.inj (Option.some.inj h1)
    have e2 : a1 x = true := Option.some.inj h2
    have e3 : a2 x = true := Option.some.inj h3
    have e4 : a3 x = v3 := Option.some.inj h4
    have e5 : a4 x = v4 := Option.some.inj h5
    have e6 : b1 x = true := Option.some.inj h6
    have e7 : b2 x = true := Option.some.inj h7
    show some (f x, g x, (((a1 x && a2 x, a3 x), a4 x), b1 x && b2 x)) = _
    rw [e1, e1', e2, e3, e4, e5, e6, e7]
    rfl
theorem map_and {α : Type} {o : Option α} {a b : α → Bool} (h1 : o.map a = some true) (h2 : o.map b = some true) : (o.map fun s => a s && b s) = some true := by
  cases o with
  | none => cases h1
  | some x =>
    show some (a x && b x) = _
    rw [show a x = true from Option.some.inj h1, show b x = true from Option.some.inj h2]
    rfl
theorem map_fst {α β γ : Type} {o : Option α} {f : α → β} {g : α → γ} {y : β} {z : γ} (h : (o.map fun s => (f s, g s)) = some (y, z)) : o.map f = some y ∧ o.map g = some z := by
  cases o with
  | none => cases h
  | some x =>
    obtain ⟨e1, e2⟩ := Prod.mk.inj (Option.some.inj h)
    exact ⟨congrArg some e1, congrArg some e2⟩
theorem all_split {α β : Type} {o : Option α} {l : List β} {p : α → β → Bool} (n : Nat) (h1 : (o.map fun s => (l.take n).all (p s)) = some true) (h2 : (o.map fun s => (l.drop n).all (p s)) = some true) : (o.map fun s => l.all (p s)) = some true := by
  have z := map_and h1 h2
  cases o with
  | none => cases h1
  | some x =>
    have e : ((l.take n).all (p x) && (l.drop n).all (p x)) = true := Option.some.inj z
    rw [← List.all_append, List.take_append_drop] at e
    exact congrArg some e
end G

set_option Elab.async false
set_option linter.all false
set_option maxRecDepth 100000
set_option maxHeartbeats 0
namespace G
open PySem PySem.Spec PyProof.Rows L2
abbrev R14 : PySem.W.OpenRow := PySem.W.OpenLaw.row PySem.Challenge.rw_namesapart_k14_lots_refused
def isLoc14 : NameKind → Bool
  | .local => true
  | _ => false
def loose14 : List Str := (PySem.Challenge.pw_namesapart_k14_lots_refused.main.scope.names.filter fun p => isLoc14 p.2 && !decide (p.1 = ("law" : Str))).map (·.1)
def nonL : List Str := ["abs", "all", "any", "bool", "enumerate", "int", "isinstance", "len", "list", "set", "sorted", "str", "sum", "tuple", "zip", "ValueError"]
def q14 : Tq := ⟨fds, consts.filter fun p => !(p.1 == ("__name__" : Str)), nonL, clss, dcts, "_law_error", onx14⟩
end G

set_option Elab.async false
set_option linter.all false
set_option maxRecDepth 100000
set_option maxHeartbeats 2000000
namespace G
open PySem PySem.Spec PyProof.Rows L2
/-! ### what the head tells of the classes of errors -/
def exCB (K : PySem.W.Frag) (D : Addr) : Bool := He.eqO (PySem.W.findIn K (.ref D) "__getattribute__") (some (some (.builtin "BaseException.__getattribute__"))) && (He.eqO (PySem.W.findIn K (.ref D) "__getattr__") (some none) && (decide (PySem.W.subIn K (.ref D) (.type "BaseException") = some true) && (PySem.W.hasDictIn K D &&
  (He.eqO (PySem.W.findIn K (.ref D) "__class__") (some (some (.builtin "object.__class__"))) && (He.eqO (PySem.W.specialIn K (.builtin "object.__class__") "__get__") (some (some (.builtin "getset_descriptor.__get__"))) && (decide (PySem.W.takesIn K (.builtin "object.__class__") = some true) && decide (PySem.W.mroIn K D (.type "object") = some true)))))))
theorem exCB_ok {K : PySem.W.Frag} {D : Addr} (e : exCB K D = true) : L2.ExcC K D := by
  obtain ⟨h1, e⟩ := He.ba e
  obtain ⟨h2, e⟩ := He.ba e
  obtain ⟨h3, e⟩ := He.ba e
  obtain ⟨h4, e⟩ := He.ba e
  obtain ⟨h5, e⟩ := He.ba e
  obtain ⟨h6, e⟩ := He.ba e
  obtain ⟨h7, h8⟩ := He.ba e
  exact ⟨He.eqO_ok h1, He.eqO_ok h2, of_decide_eq_true h3, h4, He.eqO_ok h5, He.eqO_ok h6, of_decide_eq_true h7, of_decide_eq_true h8⟩
/-- xs: the classes that come; top: the one that is caught -/
def excsB (xs : List Str) (top : Str) (K : PySem.W.Frag) : Bool := xs.all fun x => exCB K (He.ga K x) && (decide (PySem.W.kitOne K (.ref (He.ga K x)) (.type "ValueError") = some true) && (decide (PySem.W.exmOne K (.ref (He.ga K x)) (.ref (He.ga K top)) = some true) &&
  xs.all fun y => decide (PySem.W.kitOne K (.ref (He.ga K x)) (.ref (He.ga K y)) = some (decide (y = x)))))
structure ExcsOk (K : PySem.W.Frag) (mg : Str → Option Value) (xs : List Str) (top : Str) : Prop where
  top : ∃ T, mg top = some (.ref T) ∧ ∀ x ∈ xs, ∃ D, mg x = some (.ref D) ∧ L2.ExcC K D ∧ PySem.W.kitOne K (.ref D) (.type "ValueError") = some true ∧ PySem.W.exmOne K (.ref D) (.ref T) = some true ∧
    ∀ y ∈ xs, ∃ C, mg y = some (.ref C) ∧ PySem.W.kitOne K (.ref D) (.ref C) = some (decide (y = x))
theorem excsB_ok {K : PySem.W.Frag} {mg : Str → Option Value} {xs : List Str} {top : Str} (e : excsB xs top K = true) (ht : mg top = some (.ref (He.ga K top))) (hx : ∀ x ∈ xs, mg x = some (.ref (He.ga K x))) : ExcsOk K mg xs top := ⟨_, ht, fun x m => by
  obtain ⟨h1, r⟩ := He.ba (List.all_eq_true.mp e x m)
  obtain ⟨h2, r⟩ := He.ba r
  obtain ⟨h3, h4⟩ := He.ba r
  exact ⟨_, hx x m, exCB_ok h1, of_decide_eq_true h2, of_decide_eq_true h3, fun y my => ⟨_, hx y my, of_decide_eq_true (List.all_eq_true.mp h4 y my)⟩⟩⟩
def ex7 : List Str := ["InvalidTree", "InvalidPath", "InvalidName", "InvalidOrder", "InvalidLotted", "InvalidLotWork", "InvalidManner"]
/-- all that the head's look asks of the module's heap -/
def okX14 (K : PySem.W.Frag) : Bool := q14.ok K && excsB ex7 "ApartError" K
end G

set_option Elab.async false
set_option linter.all false
set_option maxRecDepth 100000
set_option maxHeartbeats 0
namespace G
open PySem PySem.Spec PyProof.Rows L2
theorem plain14 : q14.plain = true := by kernel_rfl
def as14 : List Addr := List.range 850
abbrev hook14 : PySem.W.Hook := hookL as14 q14.fa q14.fn q14.ts q14.tf okX14
def ob14 (s : PySem.W.SharedT) : He.AlX := obsL as14 q14.fa q14.fn q14.ts q14.tf okX14 (HandSHeadRun.getT s)
theorem ob14_eq (s : PySem.W.SharedT) : ob14 s = hook14.obs s.abs := by
  show obsL as14 _ _ _ _ _ (HandSHeadRun.getT s) = obsL as14 _ _ _ _ _ s.abs.heap.get?
  rw [show HandSHeadRun.getT s = s.abs.heap.get? from funext (HandSHeadRun.getT_eq s)]
/-- the state behind the head, and what is looked at -/
noncomputable def end14 (w : World) (os : OsState) : Option PySem.W.SharedT := HandSHeadRun.endF (HandSHeadRun.stepQ (HandSHeadRun.denQ HandSHeadRun.tabQ) R14.prog w) 20000 R14.prog w os
def v14 : Program := PySem.W.view R14.prog [148]
noncomputable def lk14 (w : World) (s : PySem.W.SharedT) : Bool := HandSHeadRun.looksF R14.prog (PySem.W.boot_heap w.params) s.abs
noncomputable def sn14 (s : PySem.W.SharedT) := HandSHeadRun.seenQ v14 loose14 (importedModules R14.prog.main.body) (fun s => PySem.W.xlAt v14 [] s && PySem.W.recOk R14.toRowW.records s) s.abs
def K14 (s : PySem.W.SharedT) : PySem.W.Frag := He.frT (HandSHeadRun.getT s) as14
abbrev wF (w : World) : World := w.withFollow "special-get-raises" false
abbrev wT (w : World) : World := w.withFollow "special-get-raises" true
theorem p1F (w : World) (os : OsState) : ((end14 (wF w) os).map fun s => (lk14 (wF w) s, sn14 s)) = some (true, PySem.W.openGood v14 loose14) := by kernel_rfl
theorem p2F (w : World) (os : OsState) : ((end14 (wF w) os).map fun s => ((q14.fn.take 55).all fun d => d.ok (K14 s), q14.ts.map fun t => He.dicW (K14 s) (t.1 (K14 s)))) = some (true, q14.ts.map fun t => some (He.keysIn (wF w).params t.2)) := by kernel_rfl
theorem p3F (w : World) (os : OsState) : ((end14 (wF w) os).map fun s => ((q14.fn.drop 55).all fun d => d.ok (K14 s), okX14 (K14 s))) = some (true, true) := by kernel_rfl
theorem p4F (w : World) (os : OsState) : ((end14 (wF w) os).map fun s => (q14.fa.all fun f => f.ok (K14 s), He.tabsB (HandSHeadRun.getT s) q14.tf (K14 s))) = some (true, true) := by kernel_rfl
theorem p5F (w : World) (os : OsState) : ((end14 (wF w) os).map fun s => q14.fn.map fun d => He.fnW (K14 s) d.at_) = some (q14.fn.map He.DefD.val) := by kernel_rfl
theorem p1T (w : World) (os : OsState) : ((end14 (wT w) os).map fun s => (lk14 (wT w) s, sn14 s)) = some (true, PySem.W.openGood v14 loose14) := by kernel_rfl
theorem p2T (w : World) (os : OsState) : ((end14 (wT w) os).map fun s => ((q14.fn.take 55).all fun d => d.ok (K14 s), q14.ts.map fun t => He.dicW (K14 s) (t.1 (K14 s)))) = some (true, q14.ts.map fun t => some (He.keysIn (wT w).params t.2)) := by kernel_rfl
theorem p3T (w : World) (os : OsState) : ((end14 (wT w) os).map fun s => ((q14.fn.drop 55).all fun d => d.ok (K14 s), okX14 (K14 s))) = some (true, true) := by kernel_rfl
theorem p4T (w : World) (os : OsState) : ((end14 (wT w) os).map fun s => (q14.fa.all fun f => f.ok (K14 s), He.tabsB (HandSHeadRun.getT s) q14.tf (K14 s))) = some (true, true) := by kernel_rfl
theorem p5T (w : World) (os : OsState) : ((end14 (wT w) os).map fun s => q14.fn.map fun d => He.fnW (K14 s) d.at_) = some (q14.fn.map He.DefD.val) := by kernel_rfl
theorem run14 (w : World) : HandSHeadRun.RunEq R14 (PySem.W.view R14.prog [148]) hook14 ob14 20000 loose14 w :=
  PySem.W.byRow2 "special-get-raises" (P := fun w => HandSHeadRun.RunEq R14 (PySem.W.view R14.prog [148]) hook14 ob14 20000 loose14 w)
    (fun w os => map5 (p1F w os) (map_fst (p4F w os)).1 (all_split 55 (map_fst (p2F w os)).1 (map_fst (p3F w os)).1) (p5F w os) (map_fst (p2F w os)).2 (map_fst (p3F w os)).2 (map_fst (p4F w os)).2)
    (fun w os => map5 (p1T w os) (map_fst (p4T w os)).1 (all_split 55 (map_fst (p2T w os)).1 (map_fst (p3T w os)).1) (p5T w os) (map_fst (p2T w os)).2 (map_fst (p3T w os)).2 (map_fst (p4T w os)).2) w
end G

set_option Elab.async false
set_option linter.all false
set_option maxRecDepth 100000
set_option maxHeartbeats 4000000
namespace G
open PySem L2 PySem.Spec PyProof.Rows
variable {M : Md} {base : Heap} {H H' : Hp} {ι ι' : List Addr} {X : Cx} {W' : WX}
/-! ### the first n objects, if they are closed -/
mutual
def clW (n : Nat) : W → Bool
  | .ref i => Nat.blt i n
  | .tup ws => clWs n ws
  | _ => true
def clWs (n : Nat) : List W → Bool
  | [] => true
  | w :: ws => clW n w && clWs n ws
end
def clO (n : Nat) : O → Bool
  | .lst ws => clWs n ws
  | .slst ws => clWs n ws
  | .exc _ => true
  | .cup _ => true
  | _ => false
def clS (n : Nat) : Sg → Bool
  | [] => true
  | none :: r => clS n r
  | some w :: r => clW n w && clS n r
def clE (n : Nat) : Hh → Bool
  | [] => true
  | o :: r => clO n o && clE n r
mutual
theorem RelW.takeI {n : Nat} : ∀ {w : W} {v : V}, clW n w = true → RelW M H ι w v → RelW M H (ι.take n) w v
  | .non, _, _, h => h
  | .bl _, _, _, h => h
  | .int _, _, _, h => h
  | .str _, _, _, h => h
  | .fn _, _, _, h => h
  | .ty _, _, _, h => h
  | .ref i, v, c, ⟨a, e, hv⟩ => ⟨a, by rw [List.getElem?_take_of_lt (Nat.le_of_ble_eq_true c)]; exact e, hv⟩
  | .tup ws, v, c, ⟨a, vs, e, t, r⟩ => ⟨a, vs, e, t, RelWs.takeI c r⟩
theorem RelWs.takeI {n : Nat} : ∀ {ws : List W} {vs : List V}, clWs n ws = true → RelWs M H ι ws vs → RelWs M H (ι.take n) ws vs
  | [], _, _, h => h
  | w :: ws, _, c, ⟨v, r, e, h1, h2⟩ => by
    obtain ⟨c1, c2⟩ := Bool.and_eq_true_iff.mp (show (clW n w && clWs n ws) = true from c)
    exact ⟨v, r, e, RelW.takeI c1 h1, RelWs.takeI c2 h2⟩
end
theorem RelO.takeI {n : Nat} {a : Addr} {o : O} (c : clO n o = true) (h : RelO M H ι a o) : RelO M H (ι.take n) a o := by
  cases o with
  | lst ws => obtain ⟨vs, h1, h2⟩ := h; exact ⟨vs, h1, RelWs.takeI c h2⟩
  | slst ws => obtain ⟨vs, h1, h2⟩ := h; exact ⟨vs, h1, RelWs.takeI c h2⟩
  | exc b => exact h
  | cup j => exact h
  | _ => cases c
theorem clE_at {n : Nat} : ∀ {E : Hh} {i : Nat} {o : O}, clE n E = true → E[i]? = some o → clO n o = true
  | [], _, _, _, e => by cases e
  | u :: r, 0, o, c, e => by
    cases e
    exact (Bool.and_eq_true_iff.mp (show (clO n u && clE n r) = true from c)).1
  | u :: r, i + 1, o, c, e => clE_at (Bool.and_eq_true_iff.mp (show (clO n u && clE n r) = true from c)).2 e
theorem clS_at {n : Nat} : ∀ {σ : Sg} {i : Nat} {w : W}, clS n σ = true → σ[i]? = some (some w) → clW n w = true
  | [], _, _, _, e => by cases e
  | none :: r, 0, w, c, e => by cases e
  | some u :: r, 0, w, c, e => by
    cases e
    exact (Bool.and_eq_true_iff.mp (show (clW n u && clS n r) = true from c)).1
  | none :: r, i + 1, w, c, e => clS_at (show clS n r = true from c) e
  | some u :: r, i + 1, w, c, e => clS_at (Bool.and_eq_true_iff.mp (show (clW n u && clS n r) = true from c)).2 e
theorem take_at {α : Type} {l : List α} {n i : Nat} {x : α} (e : (l.take n)[i]? = some x) : l[i]? = some x ∧ i < n := by
  by_cases h : i < n
  · rw [List.getElem?_take_of_lt h] at e
    exact ⟨e, h⟩
  · rw [List.getElem?_eq_none (by rw [List.length_take]; omega)] at e
    cases e
theorem Rel.takeI {n : Nat} {E : Hh} (R : Rel M ι E H) (c : clE n (E.take n) = true) : Rel M (ι.take n) (E.take n) H :=
  ⟨by rw [List.length_take, List.length_take, R.len], fun i j a o u h1 h2 e1 e2 m1 m2 => R.inj i j a o u (take_at h1).1 (take_at h2).1 (take_at e1).1 (take_at e2).1 m1 m2, fun i o e => by
    obtain ⟨e1, hi⟩ := take_at e
    obtain ⟨a, ea, ro⟩ := R.obj i o e1
    exact ⟨a, by rw [List.getElem?_take_of_lt hi]; exact ea, RelO.takeI (clE_at c e) ro⟩, R.tabs⟩
theorem RelS.takeI {n : Nat} {σE : Sg} {σ : L2.St} (h : RelS M H ι σE σ) (c : clS n σE = true) : RelS M H (ι.take n) σE σ := ⟨h.1, fun i w e => by
  obtain ⟨v, e1, r⟩ := h.2 i w e
  exact ⟨v, e1, RelW.takeI (clS_at c e) r⟩⟩
/-- the heap without what lies behind the n-th object, if nothing told names it -/
def cutH (n : Nat) (σ : Sg) (E : Hh) : Hh := match clS n σ && clE n (E.take n) with
  | true => E.take n
  | false => E
theorem cut_ok {n : Nat} {E : Hh} {σE : Sg} {σ : L2.St} (R : Rel M ι E H) (rs : RelS M H ι σE σ) : ∃ κ, Rel M κ (cutH n σE E) H ∧ RelS M H κ σE σ := by
  unfold cutH
  cases q : clS n σE && clE n (E.take n) with
  | false => exact ⟨ι, R, rs⟩
  | true =>
    obtain ⟨c1, c2⟩ := Bool.and_eq_true_iff.mp q
    exact ⟨ι.take n, R.takeI c2, rs.takeI c1⟩
/-! ### what statements do from a known state -/
def Gd (M : Md) (X : Cx) (D : Ends) (ss : List Stmt) (σE : Sg) (E : Hh) : Prop := ∃ t, PSs X ss t ∧ ∀ ι σ H, Rel M ι E H → RelS M H ι σE σ → t D σ H
def nxS (n : Nat) : Option (Rz Fl) → Option (Sg × Hh)
  | some (.ok (.nx σ) E) => some (σ, cutH n σ E)
  | _ => none
def rtS : Option (Rz Fl) → Option W
  | some (.ok (.rt w) _) => some w
  | _ => none
theorem gd_nx {P : Pg} {m n : Nat} {Γ : Gm} {D : Ends} {s : Stmt} {ss : List Stmt} {σE σ1 : Sg} {E E1 : Hh} (i : In M P Γ W' X) (h : nxS n (stepS P (rcs P m) Γ 30 s σE E) = some (σ1, E1)) (g : Gd M X D ss σ1 E1) : Gd M X D (s :: ss) σE E := by
  obtain ⟨t, ht, k⟩ := g
  refine ⟨_, pss_cons (stepS_ok (rcs_ok m) i 30 s) ht, fun ι σ H R rs => ?_⟩
  unfold nxS at h
  split at h
  · rename_i σ2 E2 e
    obtain ⟨rfl, rfl⟩ := Prod.mk.inj (Option.some.inj h)
    refine ⟨ι, E, σE, R, rs, .inl ⟨_, _, e, fun ι' H' x R' σ' rs' => ?_⟩⟩
    obtain ⟨κ, R2, rs2⟩ := cut_ok R' rs'
    exact k κ σ' H' R2 rs2
  · cases h
theorem gd_rt {P : Pg} {m : Nat} {Γ : Gm} {D : Ends} {s : Stmt} {ss : List Stmt} {σE : Sg} {E : Hh} {w : W} (i : In M P Γ W' X) (h : rtS (stepS P (rcs P m) Γ 30 s σE E) = some w) (hD : ∀ ι H v, RelW M H ι w v → D.rt v H) : Gd M X D (s :: ss) σE E := by
  refine ⟨_, pss_cons (stepS_ok (rcs_ok m) i 30 s) (bodyA_ok (n := m) i ss), fun ι σ H R rs => ?_⟩
  unfold rtS at h
  split at h
  · rename_i w2 E2 e
    cases h
    exact ⟨ι, E, σE, R, rs, .inl ⟨_, _, e, fun ι' H' x R' v rv => hD _ _ _ rv⟩⟩
  · cases h
/-! ### the law's context over a module's table -/
theorem in_def {T : Tb} {m n k : Nat} {low l : Cal} {qual : Str} {d : Fd} {f : Addr} {cdv : Value} {A : Around} {outer : List Env} {s : Shared} {H : Hp} {E : XK} (ok : TbOk M base T) (S : FnScope d.N d.ps (defScope d.st)) (tb : d.lam = true → Tbd M base cdv (qual ++ ".<locals>.")) (hlow : FnsOk M base T n low) (hk : n = k + 2) (hl : FnsOk M base T k l) (hr : Room n (A.deeper (envOfC qual (defScope d.st) s.heap.objs.size f cdv))) :
    In M (T.pgOf low) (T.gmOf m low (some l) d) (fun cls d _ H => E cls d H) (cxOf (L2N.CX M.P M.w) M.P M.w M.K M.mg base d.N qual (defScope d.st) f cdv A outer s H E) := by
  let X : Cx := cxOf (L2N.CX M.P M.w) M.P M.w M.K M.mg base d.N qual (defScope d.st) f cdv A outer s H E
  let W' : WX := fun cls d _ H => E cls d H
  have at' : At M (T.gmOf m low (some l) d) W' X := ⟨rfl, rfl, rfl, rfl, rfl, S.nd, rfl, S.kind, rfl, by have := hr.un; show (A.deeper _).units + 65 < _; omega, L2N.takes_of rfl rfl rfl rfl, passes_of rfl, fun _ _ => rfl⟩
  refine ⟨at', has_of ok hlow rfl rfl rfl rfl rfl hr, ok.glob low, fun _ _ _ _ _ h => h, fun e c hc0 => ?_⟩
  have hc : T.lamH m d (T.pgOf low) (T.pgOf l) e = some c := hc0
  clear hc0
  subst hk
  unfold Tb.lamH at hc
  split at hc
  · split at hc
    · rename_i hx
      obtain ⟨rfl, h2, h3, h4, h5⟩ := hx
      obtain rfl := Option.some.inj hc
      obtain rfl := noParams_ok h4
      exact pe_lamG (k := k) at' (ok.glob low) (ok.catch_ k) (tb h2) hr h5 h3 (fun _ => rfl) (fun _ _ _ _ _ => rfl) (fun A' hr' Y y1 y2 y3 y4 y5 y6 => has_of ok hl y1 y2 y3 y4 y5 (by rw [y6]; exact hr')) (ok.glob l)
    · cases hc
  · cases hc
end G

set_option Elab.async false
set_option linter.all false
set_option maxRecDepth 100000
set_option maxHeartbeats 4000000
namespace G
open PySem L2 PySem.Spec PyProof.Rows
variable {M : Md} {base : Heap} {H H' : Hp} {ι ι' : List Addr} {X : Cx} {W' : WX}
/-! ### the rolls of a script -/
def nJ (j : Nat) : Nat := match j with
  | 0 => 8
  | 1 => 8
  | 2 => 8
  | _ => 9
theorem nJ_pos (j : Nat) : 0 < nJ j ∧ nJ j ≤ 64 := by
  unfold nJ
  split <;> exact ⟨by decide, by decide⟩
def csOf (ns : List Int) : Nat → Int × Int
  | 0 => (cupG ns, cupC ns)
  | j + 1 => (rollG (csOf ns j).1 (nJ j), rollC (csOf ns j).1 (csOf ns j).2)
theorem csOf_lim (ns : List Int) : ∀ j, 0 ≤ (csOf ns j).2 ∧ (csOf ns j).2 < 2 ^ 32
  | 0 => by
    show 0 ≤ cupC ns ∧ cupC ns < 2 ^ 32
    unfold cupC
    omega
  | j + 1 => by
    have ih := csOf_lim ns j
    show 0 ≤ rollC _ _ ∧ rollC _ _ < 2 ^ 32
    unfold rollC
    split
    · exact ih
    · omega
theorem rollR_lim (g c : Int) {n : Nat} (h : 0 < n) : ∃ r : Nat, r < n ∧ rollR g c n = (r : Int) := by
  have key : ∀ z : Int, ∃ r : Nat, r < n ∧ z % (n : Int) = (r : Int) := fun z => by
    have h1 : 0 ≤ z % (n : Int) := Int.emod_nonneg _ (by omega)
    have h2 : z % (n : Int) < n := Int.emod_lt_of_pos _ (by omega)
    exact ⟨(z % (n : Int)).toNat, by omega, by omega⟩
  unfold rollR
  split
  · exact key _
  · exact key _
/-! ### _law_some, as an act -/
def someC (r j n : Nat) (ws : List W) (E : Hh) : Option (Rz W) := match ws with
  | [.ref i, .ref t] => (match E[i]?, E[t]? with
    | some (.cup j'), some (.lst xs) => if j' = j ∧ xs.length = n ∧ i ≠ t then (match xs[r]? with
      | some w => some (.ok w (E.set i (.cup (j + 1))))
      | none => none) else none
    | _, _ => none)
  | _ => none
theorem someC_eq {r j n : Nat} {ws : List W} {E : Hh} {z : Rz W} (h : someC r j n ws E = some z) : ∃ i t xs w, ws = [.ref i, .ref t] ∧ E[i]? = some (.cup j) ∧ E[t]? = some (.lst xs) ∧ xs.length = n ∧ i ≠ t ∧ xs[r]? = some w ∧ z = .ok w (E.set i (.cup (j + 1))) := by
  unfold someC at h
  split at h
  · rename_i i t
    split at h
    · rename_i j' xs e1 e2
      split at h
      · rename_i c
        obtain ⟨rfl, c2, c3⟩ := c
        split at h
        · rename_i w e3
          cases h
          exact ⟨i, t, xs, w, rfl, e1, e2, c2, c3, e3, rfl⟩
        · cases h
      · cases h
    · cases h
  · cases h
theorem some_sp {r j n : Nat} (hl : 0 ≤ (M.cs j).2 ∧ (M.cs j).2 < 2 ^ 32) (h1 : M.cs (j + 1) = (rollG (M.cs j).1 n, rollC (M.cs j).1 (M.cs j).2)) (hr : rollR (M.cs j).1 (M.cs j).2 n = (r : Int)) (hn : 0 < n ∧ n ≤ 64) (vs : List V) (H : Hp) (Q : VK) (Ex : XK) (h : spOf M (someC r j n) vs H Q Ex) : spSome vs H Q Ex := by
  obtain ⟨ι, E, ws, R, rws, h⟩ := h
  rcases h with ⟨w, E', e, k⟩ | ⟨y, E', e, _⟩
  · obtain ⟨i, t, xs, w', rfl, e1, e2, e3, e4, e5, e6⟩ := someC_eq e
    cases e6
    obtain ⟨v1, r1, rfl, ⟨a, ea, rfl⟩, v2, r2, rfl, ⟨b, eb, rfl⟩, rfl⟩ := rws
    have ha : H a = some (.lst [V.int (M.cs j).1, V.int (M.cs j).2]) := R.at e1 ea
    obtain ⟨us, hb, ru⟩ : ∃ us, H b = some (.lst us) ∧ RelWs M H ι xs us := R.at e2 eb
    have hlen : us.length = n := by rw [← ru.length]; exact e3
    obtain ⟨u, eu, rwu⟩ := ru.get e5
    have hrn : r < us.length := (List.getElem?_eq_some_iff.mp eu).1
    refine ⟨a, b, (M.cs j).1, (M.cs j).2, us, u, rfl, ha, hb, fun z => ?_, by omega, by omega, hl.1, hl.2, ?_, ?_⟩
    · subst z
      exact e4 (R.inj i t b _ _ ea eb e1 e2 rfl rfl)
    · rw [hlen, hr]
      unfold atI ixN
      rw [if_pos (by omega)]
      show (if _ then _ else _ : Option Nat).bind _ = _
      rw [if_pos (by omega)]
      simpa using eu
    · rw [hlen]
      have pt := R.put (ho := .lst [V.int (M.cs (j + 1)).1, V.int (M.cs (j + 1)).2]) (o := .cup (j + 1)) ea e1 rfl (fun q hq => by rw [ha] at hq; cases hq; exact ⟨fun _ z => (nomatch z), fun _ _ z => (nomatch z)⟩) rfl fun _ => upd_same
      have z := k ι _ u pt.2 pt.1 (rwu.ext pt.2)
      rw [h1] at z
      exact z
  · obtain ⟨_, _, _, _, _, _, _, _, _, _, e6⟩ := someC_eq e
    cases e6
/-! ### the calls of the law's body -/
def lowR (c : Cal) (r j n : Nat) : Cal := fun x ws E => if x = ("_law_some" : Str) then someC r j n ws E else c x ws E
def dRoll : Fd := ⟨sRoll, ["_law_cup_here", "_law_many", "_law_found", "_law_deep"], ["_law_cup_here", "_law_many"], false⟩
def dSome : Fd := ⟨sSome, ["_law_cup_here", "_law_things"], ["_law_cup_here", "_law_things"], false⟩
def dCup : Fd := ⟨sCup, ["_law_script", "_law_cell", "_law_great"], ["_law_script"], false⟩
theorem fnRoll : q14.tb.fn "_law_roll" = some dRoll := by kernel_rfl
theorem fnSome : q14.tb.fn "_law_some" = some dSome := by kernel_rfl
theorem fnCup : q14.tb.fn "_law_cup" = some dCup := by kernel_rfl
theorem non_of {T : Tb} (ok : TbOk M base T) {x : Str} (h : T.non x = true) : M.mg x = none := (ok.glob fun _ _ _ => none).non x h
theorem roll_ok (ok : TbOk M base q14.tb) {f : Addr} {fd : FuncData} (D : DefOk M base "_law_roll" dRoll f fd) : FnOk M.P M.w M.K M.mg base (L2N.CX M.P M.w) 1 f fd ["_law_cup_here", "_law_many"] spRoll := by
  obtain ⟨qual, oc, od, kV, doc, pm, an, cdv, ct, osl, rfl, lk, hcd, tb⟩ := D.F
  exact fn_of lk hcd scRoll (fun vs H Q E ⟨_, _, _, _, e, _⟩ => by rw [e]; rfl) fun A outer s H vs Q E hr h => pss_roll (non_of ok (by kernel_rfl)) rfl rfl scRoll.kind vs H Q E h
theorem some_ok (ok : TbOk M base q14.tb) {f : Addr} {fd : FuncData} (D : DefOk M base "_law_some" dSome f fd) : FnOk M.P M.w M.K M.mg base (L2N.CX M.P M.w) 2 f fd ["_law_cup_here", "_law_things"] spSome := by
  obtain ⟨qual, oc, od, kV, doc, pm, an, cdv, ct, osl, rfl, lk, hcd, tb⟩ := D.F
  obtain ⟨⟨fr, fdr, Dr⟩, _⟩ := ok.fn _ _ fnRoll
  exact fn_of lk hcd scSome (fun vs H Q E ⟨_, _, _, _, _, _, e, _⟩ => by rw [e]; rfl) fun A outer s H vs Q E hr h =>
    pss_some (E0 := E) (roll_ok ok Dr) hr Dr.m Dr.kp Dr.b (L2N.passes_call (L2N.takes_of rfl rfl rfl rfl) fun _ _ _ _ h => h) (non_of ok (by kernel_rfl)) rfl rfl vs H Q E h
theorem cup_ok (ok : TbOk M base q14.tb) {f : Addr} {fd : FuncData} (D : DefOk M base "_law_cup" dCup f fd) : FnOk M.P M.w M.K M.mg base (L2N.CX M.P M.w) 1 f fd ["_law_script"] (spCup M.K) := by
  obtain ⟨qual, oc, od, kV, doc, pm, an, cdv, ct, osl, rfl, lk, hcd, tb⟩ := D.F
  exact fn_of lk hcd scCup (fun vs H Q E ⟨_, _, e, _⟩ => by rw [e]; rfl) fun A outer s H vs Q E hr h => pss_cup (non_of ok (by kernel_rfl)) (non_of ok (by kernel_rfl)) (non_of ok (by kernel_rfl)) rfl rfl vs H Q E h
theorem lowR_ok (ok : TbOk M base q14.tb) {c : Cal} {L r j n : Nat} (hL : 2 ≤ L) (hc : FnsOk M base q14.tb L c) (hl : 0 ≤ (M.cs j).2 ∧ (M.cs j).2 < 2 ^ 32) (h1 : M.cs (j + 1) = (rollG (M.cs j).1 n, rollC (M.cs j).1 (M.cs j).2)) (hr : rollR (M.cs j).1 (M.cs j).2 n = (r : Int)) (hn : 0 < n ∧ n ≤ 64) :
    FnsOk M base q14.tb L (lowR c r j n) := fun x d f fd hd D => by
  by_cases hx : x = ("_law_some" : Str)
  · subst hx
    rw [fnSome] at hd
    cases hd
    refine FnOk.imp ((some_ok ok D).mono hL) fun vs H Q E h => some_sp hl h1 hr hn vs H Q E ?_
    have e : lowR c r j n "_law_some" = someC r j n := by
      funext ws E
      exact if_pos rfl
    rw [e] at h
    exact h
  · have e : lowR c r j n x = c x := by
      funext ws E
      exact if_neg hx
    rw [e]
    exact hc x d f fd hd D
end G

set_option Elab.async false
set_option linter.all false
set_option maxRecDepth 100000
set_option maxHeartbeats 4000000
namespace G
open PySem L2 PySem.Spec PyProof.Rows
def dLaw : Fd := ⟨topN 148, ["_law_script", "_law_cup_here", "_law_a", "_law_b", "_law_c", "_law_d", "_law_lotted", "_law_bare", "_law_manners", "_law_orders", "_law_full", "_law_work", "_law_works", "_law_odd"], ["_law_script"], true⟩
theorem fnLaw : q14.tb.fn "law" = some dLaw := by kernel_rfl
def mm : Nat := 60
def LL : Nat := 120
def lowB : Cal := q14.tb.call mm 120
def lamC : Cal := q14.tb.call mm 118
def stA (low : Cal) (s : Stmt) : ActS := stepS (q14.tb.pgOf low) (rcs (q14.tb.pgOf low) mm) (q14.tb.gmOf mm low (some lamC) dLaw) 30 s
def body14 : List Stmt := defBody (topN 148)
def st14 (k : Nat) : Stmt := body14.getD k (.Pass ⟨0, 0, 0, 0⟩)
end G

set_option Elab.async false
set_option linter.all false
set_option maxRecDepth 100000
set_option maxHeartbeats 4000000
namespace G
open PySem L2 PySem.Spec PyProof.Rows
variable {base : Heap} {H H' : Hp} {ι ι' : List Addr} {X : Cx} {W' : WX}
def Md.at (M : Md) (ns : List Int) : Md := { M with cs := csOf ns }
def spLaw (M : Md) : Sp := fun vs H Q _ => ∃ (a : Addr) (ns : List Int), vs = [.ref a] ∧ SqL M.K H a (ns.map V.int) ∧ ns.length ≤ 63 ∧ LamX.Tabs M.T H ∧ ∀ H', Q (.bl true) H'
/-- the contexts of the law's body: P, as one roll gives it -/
def Ctx (M : Md) (W' : WX) (X : Cx) (ns : List Int) : Prop := In M (q14.tb.pgOf lowB) (q14.tb.gmOf mm lowB (some lamC) dLaw) W' X ∧
  ∀ j, ∃ r : Nat, r < nJ j ∧ In M (q14.tb.pgOf (lowR lowB r j (nJ j))) (q14.tb.gmOf mm (lowR lowB r j (nJ j)) (some lamC) dLaw) W' X
def chainOk : Prop := ∀ (M : Md) (W' : WX) (X : Cx) (ns : List Int) (D : Ends), Ctx M W' X ns → (∀ H, D.rt (.bl true) H) → Gd M X D (body14.drop 1) [none, some (.ref 0), none, none, none, none, none, none, none, none, none, none, none, none] [.cup 0]
theorem law_ok {M : Md} (C : chainOk) (ok : ∀ ns, TbOk (M.at ns) base q14.tb) {f : Addr} {fd : FuncData} (D : DefOk M base "law" dLaw f fd) : FnOk M.P M.w M.K M.mg base (L2N.CX M.P M.w) 121 f fd ["_law_script"] (spLaw M) := by
  obtain ⟨qual, oc, od, kV, doc, pm, an, cdv, ct, osl, rfl, lk, hcd, tb⟩ := D.F
  refine fn_of lk hcd D.S (fun vs H Q E ⟨_, _, e, _⟩ => by rw [e]; rfl) fun A outer s H vs Q E hr hsp => ?_
  obtain ⟨a, ns, rfl, hS, hlen, hT, hQ⟩ := hsp
  have okn := ok ns
  let M' : Md := M.at ns
  let X : Cx := cxOf (L2N.CX M.P M.w) M.P M.w M.K M.mg base dLaw.N qual (defScope dLaw.st) f cdv A outer s H E
  have tb' : dLaw.lam = true → Tbd M' base cdv (qual ++ ".<locals>.") := fun h => by
    obtain ⟨c, P, t1, t2, t3, t4⟩ := tb h
    exact ⟨c, P, t1, t2, t3, t4⟩
  have hl298 : FnsOk M' base q14.tb 118 lamC := fn_ok okn 118
  have hl300 : FnsOk M' base q14.tb 120 lowB := fn_ok okn 120
  have ctx : Ctx M' (fun cls d _ H => E cls d H) X ns := by
    refine ⟨in_def okn D.S tb' hl300 rfl hl298 hr, fun j => ?_⟩
    obtain ⟨r, r1, r2⟩ := rollR_lim (csOf ns j).1 (csOf ns j).2 (nJ_pos j).1
    exact ⟨r, r1, in_def okn D.S tb' (lowR_ok okn (by decide) hl300 (csOf_lim ns j) rfl r2 (nJ_pos j)) rfl hl298 hr⟩
  obtain ⟨t, ht, hk⟩ := C M' (fun cls d _ H => E cls d H) X ns { nx := fun _ H' => Q .non H', rt := Q } ctx fun H => hQ H
  obtain ⟨⟨fc, fdc, Dc⟩, _⟩ := okn.fn _ _ fnCup
  have n0 : X.N[0]? = some ("_law_script" : Str) := rfl
  have n1 : X.N[1]? = some ("_law_cup_here" : Str) := rfl
  have l1 : X.env.scope.names.lookup ("_law_cup_here" : Str) = some .local := by
    show (defScope (topN 148)).names.lookup _ = _
    decide +kernel
  have v0 : Vis X.env.scope ("_law_script" : Str) := .inl (by
    show (defScope (topN 148)).names.lookup _ = _
    decide +kernel)
  have gc : Gl X ("_law_cup" : Str) := by
    show (defScope (topN 148)).names.lookup _ = _
    decide +kernel
  have F : FnOk X.prog X.w X.K X.mg X.base (L2N.CX X.prog X.w) 1 fc fdc ["_law_script"] (spCup M.K) := cup_ok okn Dc
  have hr1 : Room 1 X.A := hr.mono (by decide)
  refine ⟨_, pss_cons (ps_set (i := 1) D.S.nd n1 (.inl l1) (pe_call (E := E) F hr1 gc Dc.m Dc.kp Dc.b .nil (L2N.passes_call (L2N.takes_of rfl rfl rfl rfl) fun _ _ _ _ h => h) (pa_cons (pv 0 n0 v0) pa_nil)) (hf := .inr l1)) ht, ?_⟩
  refine ⟨_, rfl, a, ns, rfl, hS, hlen, fun H' p e1 e2 hp => ?_⟩
  refine hk [p] _ _ ⟨rfl, fun i j b o u h1 h2 h3 h4 _ _ => ?_, fun i o e => ?_, (hT.ext e1).ext fun b o e => ?_⟩ ⟨rfl, fun i w e => ?_⟩
  · have l := (List.getElem?_eq_some_iff.mp h3).1
    have l2 := (List.getElem?_eq_some_iff.mp h4).1
    simp at l l2
    omega
  · match i, e with
    | 0, e =>
      cases e
      exact ⟨p, rfl, upd_same⟩
  · rw [upd_ne (ne_of_none e hp)]
    exact e
  · match i, e with
    | 1, e =>
      cases e
      exact ⟨.ref p, rfl, p, rfl, rfl⟩
    | 0, e => cases e
    | i + 2, e =>
      exfalso
      have z : (List.replicate 12 (none : Option W))[i]? = some (some w) := e
      rw [List.getElem?_replicate] at z
      split at z <;> cases z
end G

set_option Elab.async false
set_option linter.all false
set_option maxRecDepth 100000
set_option maxHeartbeats 4000000
namespace G
open PySem L2 PySem.Spec PyProof.Rows
variable {M : Md} {base : Heap} {H H' : Hp} {ι ι' ι1 : List Addr} {X : Cx} {W' : WX}
/-! ### for, the heap cut behind each turn -/
theorem cut_pre {n : Nat} {E : Hh} {σE : Sg} {σ : L2.St} (R : Rel M ι E H) (rs : RelS M H ι σE σ) (p : ι1 <+: ι) (hn : ι1.length ≤ n) : ∃ κ, ι1 <+: κ ∧ Rel M κ (cutH n σE E) H ∧ RelS M H κ σE σ := by
  unfold cutH
  cases q : clS n σE && clE n (E.take n) with
  | false => exact ⟨ι, p, R, rs⟩
  | true =>
    obtain ⟨c1, c2⟩ := Bool.and_eq_true_iff.mp q
    refine ⟨ι.take n, ?_, R.takeI c2, rs.takeI c1⟩
    obtain ⟨t, rfl⟩ := p
    rw [List.take_append, List.take_of_length_le hn]
    exact List.prefix_append _ _
/-- the turns, each from the heap E -/
def TurnsC (n : Nat) (g : ActG) (body : ActS) (E : Hh) : List W → Sg → Sg → Prop
  | [], σ, σ' => σ = σ'
  | w :: r, σ, σ' => ∃ σ1, nxS n (andThen (g w σ E) body) = some (σ1, E) ∧ TurnsC n g body E r σ1 σ'
theorem nxS_then {n : Nat} {o : Option (Rz Sg)} {body : ActS} {σ' : Sg} {E' : Hh} (h : nxS n (andThen o body) = some (σ', E')) : ∃ σ1 E2 E3, o = some (.ok σ1 E2) ∧ body σ1 E2 = some (.ok (.nx σ') E3) ∧ cutH n σ' E3 = E' := by
  cases o with
  | none => cases h
  | some r =>
    cases r with
    | ex x E => cases h
    | ok σ1 E2 =>
      have h2 : nxS n (body σ1 E2) = some (σ', E') := h
      unfold nxS at h2
      split at h2
      · rename_i σ2 E3 e
        obtain ⟨rfl, rfl⟩ := Prod.mk.inj (Option.some.inj h2)
        exact ⟨σ1, E2, E3, rfl, e, rfl⟩
      · cases h2
theorem gd_for {P : Pg} {m : Nat} {Γ : Gm} {D : Ends} {tg e : Expr} {body ss : List Stmt} {pos : Pos} {σE σ1 : Sg} {E E1 : Hh} {s : Src} (i : In M P Γ W' X) (hp : plainSrc e = true) (hs : (rcs P m).src Γ tg e σE E = some (.ok s E1)) (hl : s.ls = [])
    (ht : TurnsC E1.length (tgA (rcs P m) Γ 9 tg) (blkA (stepS P (rcs P m) Γ 29) body) E1 s.ws σE σ1) (g : Gd M X D ss σ1 E1) : Gd M X D (.For tg e body [] pos :: ss) σE E := by
  obtain ⟨t, tt, k⟩ := g
  refine ⟨_, pss_cons (ps_for i.at'.own i.at'.calm ((rcs_ok m).src i tg e hp) (tgA_ok (rcs_ok m) i 9 tg) (blkA_ok i.wind (stepS_ok (rcs_ok m) i 29) body) (plainSrc_ok hp _)) tt, fun ι σ H R rs => ?_⟩
  refine ⟨ι, E, σE, R, rs, .inl ⟨s, E1, hs, fun ι1 H1 J x1 R1 wk => ?_⟩⟩
  have st : ∀ E', stay E' s.ls = true := fun E' => by rw [hl]; rfl
  have hlen : ι1.length ≤ E1.length := Nat.le_of_eq R1.len
  let Iv : Nat → L2.St → Hp → Prop := fun i σ H' => ∃ ι' σE, Ext M ι1 H1 ι' H' ∧ Rel M ι' E1 H' ∧ RelS M H' ι' σE σ ∧ TurnsC E1.length (tgA (rcs P m) Γ 9 tg) (blkA (stepS P (rcs P m) Γ 29) body) E1 (s.ws.drop i) σE σ1
  refine ⟨fun i n σ H' => n = s.ws.length - i ∧ i ≤ s.ws.length ∧ Iv i σ H', ⟨s.ws.length, by simp, Nat.zero_le _, ι1, σE, Ext.refl _ _, R1, rs.ext x1, by rw [List.drop_zero]; exact ht⟩, ?_⟩
  rintro j n σ H' ⟨rfl, hle, ι', σj, x', R', rs', k'⟩
  by_cases hlt : j < s.ws.length
  · obtain ⟨w0, hw0⟩ : ∃ w, s.ws[j]? = some w := ⟨_, List.getElem?_eq_getElem hlt⟩
    rw [drop_cons hw0] at k'
    obtain ⟨σ2, e2, k2⟩ := k'
    obtain ⟨σa, Ea, Eb, ea, eb, ec⟩ := nxS_then e2
    refine .inr ⟨wk.go j ι' E1 H' hlt x' R' (st _), fun σ2 H2 => Iv (j + 1) σ2 H2, fun σ2 H2 q => ⟨s.ws.length - (j + 1), by omega, rfl, hlt, q⟩, fun x H'' y => ?_⟩
    obtain ⟨R'', x'', w, hw, rx⟩ := wk.yld j ι' E1 H' x H'' hlt x' R' (st _) y
    obtain rfl : w0 = w := by rw [hw0] at hw; exact Option.some.inj hw
    refine ⟨ι', E1, σj, w0, R'', rs'.ext x'', rx, .inl ⟨σa, Ea, ea, fun ι2 H2 σ' x2 R2 rs2 => ?_⟩⟩
    refine ⟨ι2, Ea, σa, R2, rs2, .inl ⟨.nx σ2, Eb, eb, fun ι3 H3 x3 R3 σ'' rs3 => ?_⟩⟩
    have xx := ((x'.trans x'').trans x2).trans x3
    obtain ⟨κ, p, Rk, rk⟩ := cut_pre (n := E1.length) R3 rs3 xx.pre hlen
    rw [ec] at Rk
    exact ⟨κ, σ2, ⟨p, xx.tup, xx.frz⟩, Rk, rk, k2⟩
  · have e : j = s.ws.length := by omega
    subst e
    rw [List.drop_length] at k'
    have k3 : σj = σ1 := k'
    subst k3
    exact .inl ⟨wk.stop ι' E1 H' x' R' (st _), k ι' σ H' R' rs'⟩
theorem gd_cut {n : Nat} {D : Ends} {ss : List Stmt} {σE : Sg} {E : Hh} (g : Gd M X D ss σE (cutH n σE E)) : Gd M X D ss σE E := by
  obtain ⟨t, ht, k⟩ := g
  refine ⟨t, ht, fun ι σ H R rs => ?_⟩
  obtain ⟨κ, R2, rs2⟩ := cut_ok (n := n) R rs
  exact k κ σ H R2 rs2
/-- a loop's parts -/
def forP (s : Stmt) : Expr × Expr × List Stmt × Pos := match s with
  | .For tg e b _ p => (tg, e, b, p)
  | _ => (.Constant .none 0 ⟨0, 0, 0, 0⟩, .Constant .none 0 ⟨0, 0, 0, 0⟩, [], ⟨0, 0, 0, 0⟩)
abbrev PgB : Pg := q14.tb.pgOf lowB
abbrev GmB : Gm := q14.tb.gmOf mm lowB (some lamC) dLaw
def turnB (n : Nat) (s : Stmt) (w : W) (σ : Sg) (E : Hh) : Option (Sg × Hh) := nxS n (andThen (tgA (rcs PgB mm) GmB 9 (forP s).1 w σ E) (blkA (stepS PgB (rcs PgB mm) GmB 29) (forP s).2.2.1))
end G

set_option Elab.async false
set_option linter.all false
set_option maxRecDepth 100000
set_option maxHeartbeats 4000000
namespace G
open PySem L2 PySem.Spec PyProof.Rows
variable {M : Md} {base : Heap} {H H' : Hp} {ι ι' ι1 : List Addr} {X : Cx} {W' : WX}
/-! ### calls that are known: what comes at this heap, what lies behind it cut -/
def oEq : O → O → Bool
  | .lst a, .lst b => wEqs a b
  | .cup i, .cup j => i == j
  | _, _ => false
def hEq : Hh → Hh → Bool
  | [], [] => true
  | a :: r, b :: s => oEq a b && hEq r s
  | _, _ => false
theorem oEq_ok : ∀ {a b : O}, oEq a b = true → a = b
  | .lst a, b, h => by
    cases b with
    | lst b => rw [wEqs_ok (show wEqs a b = true from h)]
    | _ => cases h
  | .cup i, b, h => by
    cases b with
    | cup j => rw [eq_of_beq (show (i == j) = true from h)]
    | _ => cases h
  | .slst _, _, h => by cases h
  | .dK _, _, h => by cases h
  | .dN _, _, h => by cases h
  | .sdN _, _, h => by cases h
  | .sdK _, _, h => by cases h
  | .exc _, _, h => by cases h
theorem hEq_ok : ∀ {a b : Hh}, hEq a b = true → a = b
  | [], b, h => by cases b <;> first | rfl | cases h
  | a :: r, b, h => by
    cases b with
    | nil => cases h
    | cons b s =>
      obtain ⟨h1, h2⟩ := Bool.and_eq_true_iff.mp (show (oEq a b && hEq r s) = true from h)
      rw [oEq_ok h1, hEq_ok h2]
structure Mem where
  x : Str
  ws : List W
  E : Hh
  w : W
  E' : Hh
def memGet : List Mem → Str → List W → Hh → Option (W × Hh)
  | [], _, _, _ => none
  | e :: r, x, ws, E => match decide (e.x = x) && (wEqs e.ws ws && hEq e.E E) with
    | true => some (e.w, e.E')
    | false => memGet r x ws E
def lowM (c : Cal) (tb : List Mem) : Cal := fun x ws E => match memGet tb x ws E with
  | some p => some (.ok p.1 p.2)
  | none => c x ws E
/-- the heap without what lies behind the n-th object, if w does not name it -/
def cutV (n : Nat) (w : W) (E : Hh) : Hh := match clW n w && clE n (E.take n) with
  | true => E.take n
  | false => E
def rzC (n : Nat) : Option (Rz W) → Option (W × Hh)
  | some (.ok w E) => some (w, cutV n w E)
  | _ => none
/-- c does so -/
def MemOk (c : Cal) (e : Mem) : Prop := ∃ n, e.E.length ≤ n ∧ rzC n (c e.x e.ws e.E) = some (e.w, e.E')
theorem memGet_ok {c : Cal} {x : Str} {ws : List W} {E E' : Hh} {w : W} : ∀ {tb : List Mem}, (∀ e ∈ tb, MemOk c e) → memGet tb x ws E = some (w, E') → ∃ n, E.length ≤ n ∧ rzC n (c x ws E) = some (w, E')
  | [], _, h => by cases h
  | e :: r, ok, h => by
    unfold memGet at h
    split at h
    · rename_i q
      obtain ⟨h1, h2⟩ := Bool.and_eq_true_iff.mp q
      obtain ⟨h3, h4⟩ := Bool.and_eq_true_iff.mp h2
      obtain ⟨n, m1, m2⟩ := ok e List.mem_cons_self
      rw [of_decide_eq_true h1, wEqs_ok h3, hEq_ok h4] at m2
      rw [hEq_ok h4] at m1
      obtain ⟨rfl, rfl⟩ := Prod.mk.inj (Option.some.inj h)
      exact ⟨n, m1, m2⟩
    · exact memGet_ok (fun e' m => ok e' (List.mem_cons_of_mem _ m)) h
theorem rzC_eq {n : Nat} {o : Option (Rz W)} {w : W} {E' : Hh} (h : rzC n o = some (w, E')) : ∃ E2, o = some (.ok w E2) ∧ cutV n w E2 = E' := by
  unfold rzC at h
  split at h
  · rename_i w2 E2
    obtain ⟨rfl, rfl⟩ := Prod.mk.inj (Option.some.inj h)
    exact ⟨E2, rfl, rfl⟩
  · cases h
theorem lowM_sp {c : Cal} {tb : List Mem} (ok : ∀ e ∈ tb, MemOk c e) {x : Str} {vs : List V} {H : Hp} {Q : VK} {Ex : XK} (h : spOf M (lowM c tb x) vs H Q Ex) : spOf M (c x) vs H Q Ex := by
  obtain ⟨ι, E, ws, R, rws, h⟩ := h
  refine ⟨ι, E, ws, R, rws, ?_⟩
  unfold lowM at h
  cases q : memGet tb x ws E with
  | none =>
    rw [q] at h
    exact h
  | some p =>
    obtain ⟨w, E'⟩ := p
    rw [q] at h
    rcases h with ⟨w2, E2, e, k⟩ | ⟨y, E2, e, _⟩
    · cases e
      obtain ⟨n, hn, hr⟩ := memGet_ok ok q
      obtain ⟨E3, e3, ec⟩ := rzC_eq hr
      refine .inl ⟨w, E3, e3, fun ι2 H2 v x2 R2 rv => ?_⟩
      unfold cutV at ec
      cases z : clW n w && clE n (E3.take n) with
      | false =>
        rw [z] at ec
        have ec : E3 = E' := ec
        subst ec
        exact k ι2 H2 v x2 R2 rv
      | true =>
        rw [z] at ec
        have ec : E3.take n = E' := ec
        subst ec
        obtain ⟨c1, c2⟩ := Bool.and_eq_true_iff.mp z
        refine k (ι2.take n) H2 v ⟨?_, x2.tup, x2.frz⟩ (R2.takeI c2) (RelW.takeI c1 rv)
        obtain ⟨t, et⟩ := x2.pre
        rw [← et, List.take_append, List.take_of_length_le (by rw [R.len]; exact hn)]
        exact List.prefix_append _ _
    · cases e
theorem lowM_ok {T : Tb} {L : Nat} {c : Cal} {tb : List Mem} (hc : FnsOk M base T L c) (ok : ∀ e ∈ tb, MemOk c e) : FnsOk M base T L (lowM c tb) := fun x d f fd hd D => FnOk.imp (hc x d f fd hd D) fun vs H Q E h => lowM_sp ok h
end G

set_option Elab.async false
set_option linter.all false
set_option maxRecDepth 100000
set_option maxHeartbeats 0
namespace G
open PySem L2 PySem.Spec PyProof.Rows
def S0 : Sg := [none, some (.ref 0), none, none, none, none, none, none, none, none, none, none, none, none]
def E0H : Hh := [.cup 0]
def S1 : Sg := [none, some (.ref 0), some (.tup [(.str "hold"), (.tup [(.str "x"), (.tup [])]), (.tup [(.str "amount"), (.int (1))]), (.tup [(.str "maker"), (.tup [(.str "m"), (.tup [])]), (.tup [(.tup [(.tup []), (.tup [(.str "use"), (.tup [(.str "x"), (.tup [])])])])]), (.tup [(.str "hold"), (.tup [(.str "x"), (.tup [])]), (.tup [(.str "amount"), (.int (2))]), (.tup [(.str "make"), (.tup [(.str "m"), (.tup [])]), (.tup [])])])])]), some (.tup [(.str "maker"), (.tup [(.str "swap"), (.tup [])]), (.tup [(.tup [(.tup [(.tup [(.str "any"), (.str "a")]), (.tup [(.str "any"), (.str "b")])]), (.tup [(.str "hold"), (.tup [(.str "t"), (.tup [])]), (.tup [(.str "fill"), (.str "a")]), (.tup [(.str "reckon"), (.str "-"), (.tup [(.str "fill"), (.str "b")]), (.tup [(.str "use"), (.tup [(.str "t"), (.tup [])])])])])])]), (.tup [(.str "hold"), (.tup [(.str "t"), (.tup [])]), (.tup [(.str "amount"), (.int (5))]), (.tup [(.str "make"), (.tup [(.str "swap"), (.tup [])]), (.tup [(.tup [(.str "amount"), (.int (2))]), (.tup [(.str "use"), (.tup [(.str "t"), (.tup [])])])])])])]), some (.tup [(.str "maker"), (.tup [(.str "bind"), (.tup [])]), (.tup [(.tup [(.tup [(.tup [(.str "name"), (.str "n")]), (.tup [(.str "any"), (.str "e")]), (.tup [(.str "any"), (.str "b")])]), (.tup [(.str "hold"), (.tup [(.str "fill"), (.str "n")]), (.tup [(.str "fill"), (.str "e")]), (.tup [(.str "fill"), (.str "b")])])])]), (.tup [(.str "make"), (.tup [(.str "bind"), (.tup [])]), (.tup [(.tup [(.str "use"), (.tup [(.str "y"), (.tup [])])]), (.tup [(.str "amount"), (.int (3))]), (.tup [(.str "reckon"), (.str "+"), (.tup [(.str "use"), (.tup [(.str "y"), (.tup [])])]), (.tup [(.str "use"), (.tup [(.str "y"), (.tup [])])])])])])]), some (.tup [(.str "hold"), (.tup [(.str "x"), (.tup [])]), (.tup [(.str "amount"), (.int (0))]), (.tup [(.str "maker"), (.tup [(.str "m"), (.tup [])]), (.tup [(.tup [(.tup [(.tup [(.str "name"), (.str "n")])]), (.tup [(.str "hold"), (.tup [(.str "fill"), (.str "n")]), (.tup [(.str "amount"), (.int (1))]), (.tup [(.str "use"), (.tup [(.str "x"), (.tup [])])])])])]), (.tup [(.str "make"), (.tup [(.str "m"), (.tup [])]), (.tup [(.tup [(.str "use"), (.tup [(.str "x"), (.tup [])])])])])])]), none, none, none, none, none, none, none, none]
def E1H : Hh := [(.cup 0)]
def S2 : Sg := [none, some (.ref 0), some (.tup [(.str "hold"), (.tup [(.str "x"), (.tup [])]), (.tup [(.str "amount"), (.int (1))]), (.tup [(.str "maker"), (.tup [(.str "m"), (.tup [])]), (.tup [(.tup [(.tup []), (.tup [(.str "use"), (.tup [(.str "x"), (.tup [])])])])]), (.tup [(.str "hold"), (.tup [(.str "x"), (.tup [])]), (.tup [(.str "amount"), (.int (2))]), (.tup [(.str "make"), (.tup [(.str "m"), (.tup [])]), (.tup [])])])])]), some (.tup [(.str "maker"), (.tup [(.str "swap"), (.tup [])]), (.tup [(.tup [(.tup [(.tup [(.str "any"), (.str "a")]), (.tup [(.str "any"), (.str "b")])]), (.tup [(.str "hold"), (.tup [(.str "t"), (.tup [])]), (.tup [(.str "fill"), (.str "a")]), (.tup [(.str "reckon"), (.str "-"), (.tup [(.str "fill"), (.str "b")]), (.tup [(.str "use"), (.tup [(.str "t"), (.tup [])])])])])])]), (.tup [(.str "hold"), (.tup [(.str "t"), (.tup [])]), (.tup [(.str "amount"), (.int (5))]), (.tup [(.str "make"), (.tup [(.str "swap"), (.tup [])]), (.tup [(.tup [(.str "amount"), (.int (2))]), (.tup [(.str "use"), (.tup [(.str "t"), (.tup [])])])])])])]), some (.tup [(.str "maker"), (.tup [(.str "bind"), (.tup [])]), (.tup [(.tup [(.tup [(.tup [(.str "name"), (.str "n")]), (.tup [(.str "any"), (.str "e")]), (.tup [(.str "any"), (.str "b")])]), (.tup [(.str "hold"), (.tup [(.str "fill"), (.str "n")]), (.tup [(.str "fill"), (.str "e")]), (.tup [(.str "fill"), (.str "b")])])])]), (.tup [(.str "make"), (.tup [(.str "bind"), (.tup [])]), (.tup [(.tup [(.str "use"), (.tup [(.str "y"), (.tup [])])]), (.tup [(.str "amount"), (.int (3))]), (.tup [(.str "reckon"), (.str "+"), (.tup [(.str "use"), (.tup [(.str "y"), (.tup [])])]), (.tup [(.str "use"), (.tup [(.str "y"), (.tup [])])])])])])]), some (.tup [(.str "hold"), (.tup [(.str "x"), (.tup [])]), (.tup [(.str "amount"), (.int (0))]), (.tup [(.str "maker"), (.tup [(.str "m"), (.tup [])]), (.tup [(.tup [(.tup [(.tup [(.str "name"), (.str "n")])]), (.tup [(.str "hold"), (.tup [(.str "fill"), (.str "n")]), (.tup [(.str "amount"), (.int (1))]), (.tup [(.str "use"), (.tup [(.str "x"), (.tup [])])])])])]), (.tup [(.str "make"), (.tup [(.str "m"), (.tup [])]), (.tup [(.tup [(.str "use"), (.tup [(.str "x"), (.tup [])])])])])])]), some (.ref 1), none, none, none, none, none, none, none]
def E2H : Hh := [(.cup 0), (.lst [.non, (.tup []), (.tup [(.str "use"), (.tup [(.str "x"), (.tup [(.int (2)), (.int (1))])])]), (.tup [(.str "use"), (.tup [(.str "x"), (.tup [(.int (0))])])]), (.tup [(.str "use"), (.tup [(.str "x"), (.tup [(.bl true)])])]), (.tup [(.str "fill"), (.str "x")]), (.str "use"), (.int (7))])]
def S3 : Sg := [none, some (.ref 0), some (.tup [(.str "hold"), (.tup [(.str "x"), (.tup [])]), (.tup [(.str "amount"), (.int (1))]), (.tup [(.str "maker"), (.tup [(.str "m"), (.tup [])]), (.tup [(.tup [(.tup []), (.tup [(.str "use"), (.tup [(.str "x"), (.tup [])])])])]), (.tup [(.str "hold"), (.tup [(.str "x"), (.tup [])]), (.tup [(.str "amount"), (.int (2))]), (.tup [(.str "make"), (.tup [(.str "m"), (.tup [])]), (.tup [])])])])]), some (.tup [(.str "maker"), (.tup [(.str "swap"), (.tup [])]), (.tup [(.tup [(.tup [(.tup [(.str "any"), (.str "a")]), (.tup [(.str "any"), (.str "b")])]), (.tup [(.str "hold"), (.tup [(.str "t"), (.tup [])]), (.tup [(.str "fill"), (.str "a")]), (.tup [(.str "reckon"), (.str "-"), (.tup [(.str "fill"), (.str "b")]), (.tup [(.str "use"), (.tup [(.str "t"), (.tup [])])])])])])]), (.tup [(.str "hold"), (.tup [(.str "t"), (.tup [])]), (.tup [(.str "amount"), (.int (5))]), (.tup [(.str "make"), (.tup [(.str "swap"), (.tup [])]), (.tup [(.tup [(.str "amount"), (.int (2))]), (.tup [(.str "use"), (.tup [(.str "t"), (.tup [])])])])])])]), some (.tup [(.str "maker"), (.tup [(.str "bind"), (.tup [])]), (.tup [(.tup [(.tup [(.tup [(.str "name"), (.str "n")]), (.tup [(.str "any"), (.str "e")]), (.tup [(.str "any"), (.str "b")])]), (.tup [(.str "hold"), (.tup [(.str "fill"), (.str "n")]), (.tup [(.str "fill"), (.str "e")]), (.tup [(.str "fill"), (.str "b")])])])]), (.tup [(.str "make"), (.tup [(.str "bind"), (.tup [])]), (.tup [(.tup [(.str "use"), (.tup [(.str "y"), (.tup [])])]), (.tup [(.str "amount"), (.int (3))]), (.tup [(.str "reckon"), (.str "+"), (.tup [(.str "use"), (.tup [(.str "y"), (.tup [])])]), (.tup [(.str "use"), (.tup [(.str "y"), (.tup [])])])])])])]), some (.tup [(.str "hold"), (.tup [(.str "x"), (.tup [])]), (.tup [(.str "amount"), (.int (0))]), (.tup [(.str "maker"), (.tup [(.str "m"), (.tup [])]), (.tup [(.tup [(.tup [(.tup [(.str "name"), (.str "n")])]), (.tup [(.str "hold"), (.tup [(.str "fill"), (.str "n")]), (.tup [(.str "amount"), (.int (1))]), (.tup [(.str "use"), (.tup [(.str "x"), (.tup [])])])])])]), (.tup [(.str "make"), (.tup [(.str "m"), (.tup [])]), (.tup [(.tup [(.str "use"), (.tup [(.str "x"), (.tup [])])])])])])]), some (.ref 1), none, none, none, none, none, none, none]
def E3H : Hh := [(.cup 1), (.lst [.non, (.tup []), (.tup [(.str "use"), (.tup [(.str "x"), (.tup [(.int (2)), (.int (1))])])]), (.tup [(.str "use"), (.tup [(.str "x"), (.tup [(.int (0))])])]), (.tup [(.str "use"), (.tup [(.str "x"), (.tup [(.bl true)])])]), (.tup [(.str "fill"), (.str "x")]), (.str "use"), (.int (7))])]
def S4 : Sg := [none, some (.ref 0), some (.tup [(.str "hold"), (.tup [(.str "x"), (.tup [])]), (.tup [(.str "amount"), (.int (1))]), (.tup [(.str "maker"), (.tup [(.str "m"), (.tup [])]), (.tup [(.tup [(.tup []), (.tup [(.str "use"), (.tup [(.str "x"), (.tup [])])])])]), (.tup [(.str "hold"), (.tup [(.str "x"), (.tup [])]), (.tup [(.str "amount"), (.int (2))]), (.tup [(.str "make"), (.tup [(.str "m"), (.tup [])]), (.tup [])])])])]), some (.tup [(.str "maker"), (.tup [(.str "swap"), (.tup [])]), (.tup [(.tup [(.tup [(.tup [(.str "any"), (.str "a")]), (.tup [(.str "any"), (.str "b")])]), (.tup [(.str "hold"), (.tup [(.str "t"), (.tup [])]), (.tup [(.str "fill"), (.str "a")]), (.tup [(.str "reckon"), (.str "-"), (.tup [(.str "fill"), (.str "b")]), (.tup [(.str "use"), (.tup [(.str "t"), (.tup [])])])])])])]), (.tup [(.str "hold"), (.tup [(.str "t"), (.tup [])]), (.tup [(.str "amount"), (.int (5))]), (.tup [(.str "make"), (.tup [(.str "swap"), (.tup [])]), (.tup [(.tup [(.str "amount"), (.int (2))]), (.tup [(.str "use"), (.tup [(.str "t"), (.tup [])])])])])])]), some (.tup [(.str "maker"), (.tup [(.str "bind"), (.tup [])]), (.tup [(.tup [(.tup [(.tup [(.str "name"), (.str "n")]), (.tup [(.str "any"), (.str "e")]), (.tup [(.str "any"), (.str "b")])]), (.tup [(.str "hold"), (.tup [(.str "fill"), (.str "n")]), (.tup [(.str "fill"), (.str "e")]), (.tup [(.str "fill"), (.str "b")])])])]), (.tup [(.str "make"), (.tup [(.str "bind"), (.tup [])]), (.tup [(.tup [(.str "use"), (.tup [(.str "y"), (.tup [])])]), (.tup [(.str "amount"), (.int (3))]), (.tup [(.str "reckon"), (.str "+"), (.tup [(.str "use"), (.tup [(.str "y"), (.tup [])])]), (.tup [(.str "use"), (.tup [(.str "y"), (.tup [])])])])])])]), some (.tup [(.str "hold"), (.tup [(.str "x"), (.tup [])]), (.tup [(.str "amount"), (.int (0))]), (.tup [(.str "maker"), (.tup [(.str "m"), (.tup [])]), (.tup [(.tup [(.tup [(.tup [(.str "name"), (.str "n")])]), (.tup [(.str "hold"), (.tup [(.str "fill"), (.str "n")]), (.tup [(.str "amount"), (.int (1))]), (.tup [(.str "use"), (.tup [(.str "x"), (.tup [])])])])])]), (.tup [(.str "make"), (.tup [(.str "m"), (.tup [])]), (.tup [(.tup [(.str "use"), (.tup [(.str "x"), (.tup [])])])])])])]), some (.ref 1), some (.ref 3), none, none, none, none, none, none]
def E4H : Hh := [(.cup 1), (.lst [.non, (.tup []), (.tup [(.str "use"), (.tup [(.str "x"), (.tup [(.int (2)), (.int (1))])])]), (.tup [(.str "use"), (.tup [(.str "x"), (.tup [(.int (0))])])]), (.tup [(.str "use"), (.tup [(.str "x"), (.tup [(.bl true)])])]), (.tup [(.str "fill"), (.str "x")]), (.str "use"), (.int (7))]), (.lst [(.str "amount"), (.int (1))]), (.lst [.non, (.tup []), (.tup [(.str "use"), (.tup [(.str "x"), (.tup [(.int (1))])])]), (.tup [(.str "given"), (.tup [(.str "x"), (.tup [(.int (2))])]), (.tup [(.str "amount"), (.int (1))])]), (.tup [(.str "fill"), (.str "x")]), (.ref 2)])]
def S5 : Sg := [none, some (.ref 0), some (.tup [(.str "hold"), (.tup [(.str "x"), (.tup [])]), (.tup [(.str "amount"), (.int (1))]), (.tup [(.str "maker"), (.tup [(.str "m"), (.tup [])]), (.tup [(.tup [(.tup []), (.tup [(.str "use"), (.tup [(.str "x"), (.tup [])])])])]), (.tup [(.str "hold"), (.tup [(.str "x"), (.tup [])]), (.tup [(.str "amount"), (.int (2))]), (.tup [(.str "make"), (.tup [(.str "m"), (.tup [])]), (.tup [])])])])]), some (.tup [(.str "maker"), (.tup [(.str "swap"), (.tup [])]), (.tup [(.tup [(.tup [(.tup [(.str "any"), (.str "a")]), (.tup [(.str "any"), (.str "b")])]), (.tup [(.str "hold"), (.tup [(.str "t"), (.tup [])]), (.tup [(.str "fill"), (.str "a")]), (.tup [(.str "reckon"), (.str "-"), (.tup [(.str "fill"), (.str "b")]), (.tup [(.str "use"), (.tup [(.str "t"), (.tup [])])])])])])]), (.tup [(.str "hold"), (.tup [(.str "t"), (.tup [])]), (.tup [(.str "amount"), (.int (5))]), (.tup [(.str "make"), (.tup [(.str "swap"), (.tup [])]), (.tup [(.tup [(.str "amount"), (.int (2))]), (.tup [(.str "use"), (.tup [(.str "t"), (.tup [])])])])])])]), some (.tup [(.str "maker"), (.tup [(.str "bind"), (.tup [])]), (.tup [(.tup [(.tup [(.tup [(.str "name"), (.str "n")]), (.tup [(.str "any"), (.str "e")]), (.tup [(.str "any"), (.str "b")])]), (.tup [(.str "hold"), (.tup [(.str "fill"), (.str "n")]), (.tup [(.str "fill"), (.str "e")]), (.tup [(.str "fill"), (.str "b")])])])]), (.tup [(.str "make"), (.tup [(.str "bind"), (.tup [])]), (.tup [(.tup [(.str "use"), (.tup [(.str "y"), (.tup [])])]), (.tup [(.str "amount"), (.int (3))]), (.tup [(.str "reckon"), (.str "+"), (.tup [(.str "use"), (.tup [(.str "y"), (.tup [])])]), (.tup [(.str "use"), (.tup [(.str "y"), (.tup [])])])])])])]), some (.tup [(.str "hold"), (.tup [(.str "x"), (.tup [])]), (.tup [(.str "amount"), (.int (0))]), (.tup [(.str "maker"), (.tup [(.str "m"), (.tup [])]), (.tup [(.tup [(.tup [(.tup [(.str "name"), (.str "n")])]), (.tup [(.str "hold"), (.tup [(.str "fill"), (.str "n")]), (.tup [(.str "amount"), (.int (1))]), (.tup [(.str "use"), (.tup [(.str "x"), (.tup [])])])])])]), (.tup [(.str "make"), (.tup [(.str "m"), (.tup [])]), (.tup [(.tup [(.str "use"), (.tup [(.str "x"), (.tup [])])])])])])]), some (.ref 1), some (.ref 3), none, none, none, none, none, none]
def E5H : Hh := [(.cup 1), (.lst [.non, (.tup []), (.tup [(.str "use"), (.tup [(.str "x"), (.tup [(.int (2)), (.int (1))])])]), (.tup [(.str "use"), (.tup [(.str "x"), (.tup [(.int (0))])])]), (.tup [(.str "use"), (.tup [(.str "x"), (.tup [(.bl true)])])]), (.tup [(.str "fill"), (.str "x")]), (.str "use"), (.int (7))]), (.lst [(.str "amount"), (.int (1))]), (.lst [.non, (.tup []), (.tup [(.str "use"), (.tup [(.str "x"), (.tup [(.int (1))])])]), (.tup [(.str "given"), (.tup [(.str "x"), (.tup [(.int (2))])]), (.tup [(.str "amount"), (.int (1))])]), (.tup [(.str "fill"), (.str "x")]), (.ref 2), (.tup [(.str "amount")])])]
def S6 : Sg := [none, some (.ref 0), some (.tup [(.str "hold"), (.tup [(.str "x"), (.tup [])]), (.tup [(.str "amount"), (.int (1))]), (.tup [(.str "maker"), (.tup [(.str "m"), (.tup [])]), (.tup [(.tup [(.tup []), (.tup [(.str "use"), (.tup [(.str "x"), (.tup [])])])])]), (.tup [(.str "hold"), (.tup [(.str "x"), (.tup [])]), (.tup [(.str "amount"), (.int (2))]), (.tup [(.str "make"), (.tup [(.str "m"), (.tup [])]), (.tup [])])])])]), some (.tup [(.str "maker"), (.tup [(.str "swap"), (.tup [])]), (.tup [(.tup [(.tup [(.tup [(.str "any"), (.str "a")]), (.tup [(.str "any"), (.str "b")])]), (.tup [(.str "hold"), (.tup [(.str "t"), (.tup [])]), (.tup [(.str "fill"), (.str "a")]), (.tup [(.str "reckon"), (.str "-"), (.tup [(.str "fill"), (.str "b")]), (.tup [(.str "use"), (.tup [(.str "t"), (.tup [])])])])])])]), (.tup [(.str "hold"), (.tup [(.str "t"), (.tup [])]), (.tup [(.str "amount"), (.int (5))]), (.tup [(.str "make"), (.tup [(.str "swap"), (.tup [])]), (.tup [(.tup [(.str "amount"), (.int (2))]), (.tup [(.str "use"), (.tup [(.str "t"), (.tup [])])])])])])]), some (.tup [(.str "maker"), (.tup [(.str "bind"), (.tup [])]), (.tup [(.tup [(.tup [(.tup [(.str "name"), (.str "n")]), (.tup [(.str "any"), (.str "e")]), (.tup [(.str "any"), (.str "b")])]), (.tup [(.str "hold"), (.tup [(.str "fill"), (.str "n")]), (.tup [(.str "fill"), (.str "e")]), (.tup [(.str "fill"), (.str "b")])])])]), (.tup [(.str "make"), (.tup [(.str "bind"), (.tup [])]), (.tup [(.tup [(.str "use"), (.tup [(.str "y"), (.tup [])])]), (.tup [(.str "amount"), (.int (3))]), (.tup [(.str "reckon"), (.str "+"), (.tup [(.str "use"), (.tup [(.str "y"), (.tup [])])]), (.tup [(.str "use"), (.tup [(.str "y"), (.tup [])])])])])])]), some (.tup [(.str "hold"), (.tup [(.str "x"), (.tup [])]), (.tup [(.str "amount"), (.int (0))]), (.tup [(.str "maker"), (.tup [(.str "m"), (.tup [])]), (.tup [(.tup [(.tup [(.tup [(.str "name"), (.str "n")])]), (.tup [(.str "hold"), (.tup [(.str "fill"), (.str "n")]), (.tup [(.str "amount"), (.int (1))]), (.tup [(.str "use"), (.tup [(.str "x"), (.tup [])])])])])]), (.tup [(.str "make"), (.tup [(.str "m"), (.tup [])]), (.tup [(.tup [(.str "use"), (.tup [(.str "x"), (.tup [])])])])])])]), some (.ref 1), some (.ref 3), none, none, none, none, none, none]
def E6H : Hh := [(.cup 1), (.lst [.non, (.tup []), (.tup [(.str "use"), (.tup [(.str "x"), (.tup [(.int (2)), (.int (1))])])]), (.tup [(.str "use"), (.tup [(.str "x"), (.tup [(.int (0))])])]), (.tup [(.str "use"), (.tup [(.str "x"), (.tup [(.bl true)])])]), (.tup [(.str "fill"), (.str "x")]), (.str "use"), (.int (7))]), (.lst [(.str "amount"), (.int (1))]), (.lst [.non, (.tup []), (.tup [(.str "use"), (.tup [(.str "x"), (.tup [(.int (1))])])]), (.tup [(.str "given"), (.tup [(.str "x"), (.tup [(.int (2))])]), (.tup [(.str "amount"), (.int (1))])]), (.tup [(.str "fill"), (.str "x")]), (.ref 2), (.tup [(.str "amount")]), (.tup [(.str "maker"), (.tup [(.str "m"), (.tup [])]), (.tup [(.tup [(.tup [(.tup [(.str "word"), (.tup [(.str "x"), (.tup [(.int (1))])])])]), (.tup [(.str "amount"), (.int (1))])])]), (.tup [(.str "amount"), (.int (1))])])])]
def S7 : Sg := [none, some (.ref 0), some (.tup [(.str "hold"), (.tup [(.str "x"), (.tup [])]), (.tup [(.str "amount"), (.int (1))]), (.tup [(.str "maker"), (.tup [(.str "m"), (.tup [])]), (.tup [(.tup [(.tup []), (.tup [(.str "use"), (.tup [(.str "x"), (.tup [])])])])]), (.tup [(.str "hold"), (.tup [(.str "x"), (.tup [])]), (.tup [(.str "amount"), (.int (2))]), (.tup [(.str "make"), (.tup [(.str "m"), (.tup [])]), (.tup [])])])])]), some (.tup [(.str "maker"), (.tup [(.str "swap"), (.tup [])]), (.tup [(.tup [(.tup [(.tup [(.str "any"), (.str "a")]), (.tup [(.str "any"), (.str "b")])]), (.tup [(.str "hold"), (.tup [(.str "t"), (.tup [])]), (.tup [(.str "fill"), (.str "a")]), (.tup [(.str "reckon"), (.str "-"), (.tup [(.str "fill"), (.str "b")]), (.tup [(.str "use"), (.tup [(.str "t"), (.tup [])])])])])])]), (.tup [(.str "hold"), (.tup [(.str "t"), (.tup [])]), (.tup [(.str "amount"), (.int (5))]), (.tup [(.str "make"), (.tup [(.str "swap"), (.tup [])]), (.tup [(.tup [(.str "amount"), (.int (2))]), (.tup [(.str "use"), (.tup [(.str "t"), (.tup [])])])])])])]), some (.tup [(.str "maker"), (.tup [(.str "bind"), (.tup [])]), (.tup [(.tup [(.tup [(.tup [(.str "name"), (.str "n")]), (.tup [(.str "any"), (.str "e")]), (.tup [(.str "any"), (.str "b")])]), (.tup [(.str "hold"), (.tup [(.str "fill"), (.str "n")]), (.tup [(.str "fill"), (.str "e")]), (.tup [(.str "fill"), (.str "b")])])])]), (.tup [(.str "make"), (.tup [(.str "bind"), (.tup [])]), (.tup [(.tup [(.str "use"), (.tup [(.str "y"), (.tup [])])]), (.tup [(.str "amount"), (.int (3))]), (.tup [(.str "reckon"), (.str "+"), (.tup [(.str "use"), (.tup [(.str "y"), (.tup [])])]), (.tup [(.str "use"), (.tup [(.str "y"), (.tup [])])])])])])]), some (.tup [(.str "hold"), (.tup [(.str "x"), (.tup [])]), (.tup [(.str "amount"), (.int (0))]), (.tup [(.str "maker"), (.tup [(.str "m"), (.tup [])]), (.tup [(.tup [(.tup [(.tup [(.str "name"), (.str "n")])]), (.tup [(.str "hold"), (.tup [(.str "fill"), (.str "n")]), (.tup [(.str "amount"), (.int (1))]), (.tup [(.str "use"), (.tup [(.str "x"), (.tup [])])])])])]), (.tup [(.str "make"), (.tup [(.str "m"), (.tup [])]), (.tup [(.tup [(.str "use"), (.tup [(.str "x"), (.tup [])])])])])])]), some (.ref 1), some (.ref 3), none, none, none, none, none, none]
def E7H : Hh := [(.cup 2), (.lst [.non, (.tup []), (.tup [(.str "use"), (.tup [(.str "x"), (.tup [(.int (2)), (.int (1))])])]), (.tup [(.str "use"), (.tup [(.str "x"), (.tup [(.int (0))])])]), (.tup [(.str "use"), (.tup [(.str "x"), (.tup [(.bl true)])])]), (.tup [(.str "fill"), (.str "x")]), (.str "use"), (.int (7))]), (.lst [(.str "amount"), (.int (1))]), (.lst [.non, (.tup []), (.tup [(.str "use"), (.tup [(.str "x"), (.tup [(.int (1))])])]), (.tup [(.str "given"), (.tup [(.str "x"), (.tup [(.int (2))])]), (.tup [(.str "amount"), (.int (1))])]), (.tup [(.str "fill"), (.str "x")]), (.ref 2), (.tup [(.str "amount")]), (.tup [(.str "maker"), (.tup [(.str "m"), (.tup [])]), (.tup [(.tup [(.tup [(.tup [(.str "word"), (.tup [(.str "x"), (.tup [(.int (1))])])])]), (.tup [(.str "amount"), (.int (1))])])]), (.tup [(.str "amount"), (.int (1))])])])]
def S8 : Sg := [none, some (.ref 0), some (.tup [(.str "hold"), (.tup [(.str "x"), (.tup [])]), (.tup [(.str "amount"), (.int (1))]), (.tup [(.str "maker"), (.tup [(.str "m"), (.tup [])]), (.tup [(.tup [(.tup []), (.tup [(.str "use"), (.tup [(.str "x"), (.tup [])])])])]), (.tup [(.str "hold"), (.tup [(.str "x"), (.tup [])]), (.tup [(.str "amount"), (.int (2))]), (.tup [(.str "make"), (.tup [(.str "m"), (.tup [])]), (.tup [])])])])]), some (.tup [(.str "maker"), (.tup [(.str "swap"), (.tup [])]), (.tup [(.tup [(.tup [(.tup [(.str "any"), (.str "a")]), (.tup [(.str "any"), (.str "b")])]), (.tup [(.str "hold"), (.tup [(.str "t"), (.tup [])]), (.tup [(.str "fill"), (.str "a")]), (.tup [(.str "reckon"), (.str "-"), (.tup [(.str "fill"), (.str "b")]), (.tup [(.str "use"), (.tup [(.str "t"), (.tup [])])])])])])]), (.tup [(.str "hold"), (.tup [(.str "t"), (.tup [])]), (.tup [(.str "amount"), (.int (5))]), (.tup [(.str "make"), (.tup [(.str "swap"), (.tup [])]), (.tup [(.tup [(.str "amount"), (.int (2))]), (.tup [(.str "use"), (.tup [(.str "t"), (.tup [])])])])])])]), some (.tup [(.str "maker"), (.tup [(.str "bind"), (.tup [])]), (.tup [(.tup [(.tup [(.tup [(.str "name"), (.str "n")]), (.tup [(.str "any"), (.str "e")]), (.tup [(.str "any"), (.str "b")])]), (.tup [(.str "hold"), (.tup [(.str "fill"), (.str "n")]), (.tup [(.str "fill"), (.str "e")]), (.tup [(.str "fill"), (.str "b")])])])]), (.tup [(.str "make"), (.tup [(.str "bind"), (.tup [])]), (.tup [(.tup [(.str "use"), (.tup [(.str "y"), (.tup [])])]), (.tup [(.str "amount"), (.int (3))]), (.tup [(.str "reckon"), (.str "+"), (.tup [(.str "use"), (.tup [(.str "y"), (.tup [])])]), (.tup [(.str "use"), (.tup [(.str "y"), (.tup [])])])])])])]), some (.tup [(.str "hold"), (.tup [(.str "x"), (.tup [])]), (.tup [(.str "amount"), (.int (0))]), (.tup [(.str "maker"), (.tup [(.str "m"), (.tup [])]), (.tup [(.tup [(.tup [(.tup [(.str "name"), (.str "n")])]), (.tup [(.str "hold"), (.tup [(.str "fill"), (.str "n")]), (.tup [(.str "amount"), (.int (1))]), (.tup [(.str "use"), (.tup [(.str "x"), (.tup [])])])])])]), (.tup [(.str "make"), (.tup [(.str "m"), (.tup [])]), (.tup [(.tup [(.str "use"), (.tup [(.str "x"), (.tup [])])])])])])]), some (.ref 1), some (.ref 3), some (.ref 5), none, none, none, none, none]
def E8H : Hh := [(.cup 2), (.lst [.non, (.tup []), (.tup [(.str "use"), (.tup [(.str "x"), (.tup [(.int (2)), (.int (1))])])]), (.tup [(.str "use"), (.tup [(.str "x"), (.tup [(.int (0))])])]), (.tup [(.str "use"), (.tup [(.str "x"), (.tup [(.bl true)])])]), (.tup [(.str "fill"), (.str "x")]), (.str "use"), (.int (7))]), (.lst [(.str "amount"), (.int (1))]), (.lst [.non, (.tup []), (.tup [(.str "use"), (.tup [(.str "x"), (.tup [(.int (1))])])]), (.tup [(.str "given"), (.tup [(.str "x"), (.tup [(.int (2))])]), (.tup [(.str "amount"), (.int (1))])]), (.tup [(.str "fill"), (.str "x")]), (.ref 2), (.tup [(.str "amount")]), (.tup [(.str "maker"), (.tup [(.str "m"), (.tup [])]), (.tup [(.tup [(.tup [(.tup [(.str "word"), (.tup [(.str "x"), (.tup [(.int (1))])])])]), (.tup [(.str "amount"), (.int (1))])])]), (.tup [(.str "amount"), (.int (1))])])]), (.lst [(.bl true), (.bl true), (.bl true)]), (.lst [.non, (.tup []), (.tup [(.bl true), (.bl true)]), (.tup [(.bl true), (.bl true), (.int (1))]), (.ref 4), (.tup [(.bl true), (.bl true), (.bl true), (.bl true)]), (.bl true), (.tup [(.str "x"), (.bl true), (.bl true)])])]
def S9 : Sg := [none, some (.ref 0), some (.tup [(.str "hold"), (.tup [(.str "x"), (.tup [])]), (.tup [(.str "amount"), (.int (1))]), (.tup [(.str "maker"), (.tup [(.str "m"), (.tup [])]), (.tup [(.tup [(.tup []), (.tup [(.str "use"), (.tup [(.str "x"), (.tup [])])])])]), (.tup [(.str "hold"), (.tup [(.str "x"), (.tup [])]), (.tup [(.str "amount"), (.int (2))]), (.tup [(.str "make"), (.tup [(.str "m"), (.tup [])]), (.tup [])])])])]), some (.tup [(.str "maker"), (.tup [(.str "swap"), (.tup [])]), (.tup [(.tup [(.tup [(.tup [(.str "any"), (.str "a")]), (.tup [(.str "any"), (.str "b")])]), (.tup [(.str "hold"), (.tup [(.str "t"), (.tup [])]), (.tup [(.str "fill"), (.str "a")]), (.tup [(.str "reckon"), (.str "-"), (.tup [(.str "fill"), (.str "b")]), (.tup [(.str "use"), (.tup [(.str "t"), (.tup [])])])])])])]), (.tup [(.str "hold"), (.tup [(.str "t"), (.tup [])]), (.tup [(.str "amount"), (.int (5))]), (.tup [(.str "make"), (.tup [(.str "swap"), (.tup [])]), (.tup [(.tup [(.str "amount"), (.int (2))]), (.tup [(.str "use"), (.tup [(.str "t"), (.tup [])])])])])])]), some (.tup [(.str "maker"), (.tup [(.str "bind"), (.tup [])]), (.tup [(.tup [(.tup [(.tup [(.str "name"), (.str "n")]), (.tup [(.str "any"), (.str "e")]), (.tup [(.str "any"), (.str "b")])]), (.tup [(.str "hold"), (.tup [(.str "fill"), (.str "n")]), (.tup [(.str "fill"), (.str "e")]), (.tup [(.str "fill"), (.str "b")])])])]), (.tup [(.str "make"), (.tup [(.str "bind"), (.tup [])]), (.tup [(.tup [(.str "use"), (.tup [(.str "y"), (.tup [])])]), (.tup [(.str "amount"), (.int (3))]), (.tup [(.str "reckon"), (.str "+"), (.tup [(.str "use"), (.tup [(.str "y"), (.tup [])])]), (.tup [(.str "use"), (.tup [(.str "y"), (.tup [])])])])])])]), some (.tup [(.str "hold"), (.tup [(.str "x"), (.tup [])]), (.tup [(.str "amount"), (.int (0))]), (.tup [(.str "maker"), (.tup [(.str "m"), (.tup [])]), (.tup [(.tup [(.tup [(.tup [(.str "name"), (.str "n")])]), (.tup [(.str "hold"), (.tup [(.str "fill"), (.str "n")]), (.tup [(.str "amount"), (.int (1))]), (.tup [(.str "use"), (.tup [(.str "x"), (.tup [])])])])])]), (.tup [(.str "make"), (.tup [(.str "m"), (.tup [])]), (.tup [(.tup [(.str "use"), (.tup [(.str "x"), (.tup [])])])])])])]), some (.ref 1), some (.ref 3), some (.ref 5), none, none, none, none, none]
def E9H : Hh := [(.cup 3), (.lst [.non, (.tup []), (.tup [(.str "use"), (.tup [(.str "x"), (.tup [(.int (2)), (.int (1))])])]), (.tup [(.str "use"), (.tup [(.str "x"), (.tup [(.int (0))])])]), (.tup [(.str "use"), (.tup [(.str "x"), (.tup [(.bl true)])])]), (.tup [(.str "fill"), (.str "x")]), (.str "use"), (.int (7))]), (.lst [(.str "amount"), (.int (1))]), (.lst [.non, (.tup []), (.tup [(.str "use"), (.tup [(.str "x"), (.tup [(.int (1))])])]), (.tup [(.str "given"), (.tup [(.str "x"), (.tup [(.int (2))])]), (.tup [(.str "amount"), (.int (1))])]), (.tup [(.str "fill"), (.str "x")]), (.ref 2), (.tup [(.str "amount")]), (.tup [(.str "maker"), (.tup [(.str "m"), (.tup [])]), (.tup [(.tup [(.tup [(.tup [(.str "word"), (.tup [(.str "x"), (.tup [(.int (1))])])])]), (.tup [(.str "amount"), (.int (1))])])]), (.tup [(.str "amount"), (.int (1))])])]), (.lst [(.bl true), (.bl true), (.bl true)]), (.lst [.non, (.tup []), (.tup [(.bl true), (.bl true)]), (.tup [(.bl true), (.bl true), (.int (1))]), (.ref 4), (.tup [(.bl true), (.bl true), (.bl true), (.bl true)]), (.bl true), (.tup [(.str "x"), (.bl true), (.bl true)])])]
def S10 : Sg := [none, some (.ref 0), some (.tup [(.str "hold"), (.tup [(.str "x"), (.tup [])]), (.tup [(.str "amount"), (.int (1))]), (.tup [(.str "maker"), (.tup [(.str "m"), (.tup [])]), (.tup [(.tup [(.tup []), (.tup [(.str "use"), (.tup [(.str "x"), (.tup [])])])])]), (.tup [(.str "hold"), (.tup [(.str "x"), (.tup [])]), (.tup [(.str "amount"), (.int (2))]), (.tup [(.str "make"), (.tup [(.str "m"), (.tup [])]), (.tup [])])])])]), some (.tup [(.str "maker"), (.tup [(.str "swap"), (.tup [])]), (.tup [(.tup [(.tup [(.tup [(.str "any"), (.str "a")]), (.tup [(.str "any"), (.str "b")])]), (.tup [(.str "hold"), (.tup [(.str "t"), (.tup [])]), (.tup [(.str "fill"), (.str "a")]), (.tup [(.str "reckon"), (.str "-"), (.tup [(.str "fill"), (.str "b")]), (.tup [(.str "use"), (.tup [(.str "t"), (.tup [])])])])])])]), (.tup [(.str "hold"), (.tup [(.str "t"), (.tup [])]), (.tup [(.str "amount"), (.int (5))]), (.tup [(.str "make"), (.tup [(.str "swap"), (.tup [])]), (.tup [(.tup [(.str "amount"), (.int (2))]), (.tup [(.str "use"), (.tup [(.str "t"), (.tup [])])])])])])]), some (.tup [(.str "maker"), (.tup [(.str "bind"), (.tup [])]), (.tup [(.tup [(.tup [(.tup [(.str "name"), (.str "n")]), (.tup [(.str "any"), (.str "e")]), (.tup [(.str "any"), (.str "b")])]), (.tup [(.str "hold"), (.tup [(.str "fill"), (.str "n")]), (.tup [(.str "fill"), (.str "e")]), (.tup [(.str "fill"), (.str "b")])])])]), (.tup [(.str "make"), (.tup [(.str "bind"), (.tup [])]), (.tup [(.tup [(.str "use"), (.tup [(.str "y"), (.tup [])])]), (.tup [(.str "amount"), (.int (3))]), (.tup [(.str "reckon"), (.str "+"), (.tup [(.str "use"), (.tup [(.str "y"), (.tup [])])]), (.tup [(.str "use"), (.tup [(.str "y"), (.tup [])])])])])])]), some (.tup [(.str "hold"), (.tup [(.str "x"), (.tup [])]), (.tup [(.str "amount"), (.int (0))]), (.tup [(.str "maker"), (.tup [(.str "m"), (.tup [])]), (.tup [(.tup [(.tup [(.tup [(.str "name"), (.str "n")])]), (.tup [(.str "hold"), (.tup [(.str "fill"), (.str "n")]), (.tup [(.str "amount"), (.int (1))]), (.tup [(.str "use"), (.tup [(.str "x"), (.tup [])])])])])]), (.tup [(.str "make"), (.tup [(.str "m"), (.tup [])]), (.tup [(.tup [(.str "use"), (.tup [(.str "x"), (.tup [])])])])])])]), some (.ref 1), some (.ref 3), some (.ref 5), some (.ref 8), none, none, none, none]
def E10H : Hh := [(.cup 3), (.lst [.non, (.tup []), (.tup [(.str "use"), (.tup [(.str "x"), (.tup [(.int (2)), (.int (1))])])]), (.tup [(.str "use"), (.tup [(.str "x"), (.tup [(.int (0))])])]), (.tup [(.str "use"), (.tup [(.str "x"), (.tup [(.bl true)])])]), (.tup [(.str "fill"), (.str "x")]), (.str "use"), (.int (7))]), (.lst [(.str "amount"), (.int (1))]), (.lst [.non, (.tup []), (.tup [(.str "use"), (.tup [(.str "x"), (.tup [(.int (1))])])]), (.tup [(.str "given"), (.tup [(.str "x"), (.tup [(.int (2))])]), (.tup [(.str "amount"), (.int (1))])]), (.tup [(.str "fill"), (.str "x")]), (.ref 2), (.tup [(.str "amount")]), (.tup [(.str "maker"), (.tup [(.str "m"), (.tup [])]), (.tup [(.tup [(.tup [(.tup [(.str "word"), (.tup [(.str "x"), (.tup [(.int (1))])])])]), (.tup [(.str "amount"), (.int (1))])])]), (.tup [(.str "amount"), (.int (1))])])]), (.lst [(.bl true), (.bl true), (.bl true)]), (.lst [.non, (.tup []), (.tup [(.bl true), (.bl true)]), (.tup [(.bl true), (.bl true), (.int (1))]), (.ref 4), (.tup [(.bl true), (.bl true), (.bl true), (.bl true)]), (.bl true), (.tup [(.str "x"), (.bl true), (.bl true)])]), (.lst []), (.lst []), (.lst [.non, (.ref 6), (.str "x"), (.tup [(.int (1))]), (.tup [(.ref 7)]), (.tup [(.tup [(.bl true)])]), (.tup [(.tup [(.str "0")])]), (.tup [(.tup []), (.tup []), (.tup []), (.tup []), (.tup []), (.tup []), (.tup []), (.tup []), (.tup []), (.tup []), (.tup []), (.tup []), (.tup []), (.tup []), (.tup []), (.tup []), (.tup []), (.tup []), (.tup []), (.tup []), (.tup []), (.tup []), (.tup []), (.tup []), (.tup []), (.tup []), (.tup []), (.tup []), (.tup []), (.tup []), (.tup []), (.tup []), (.tup []), (.tup []), (.tup []), (.tup []), (.tup []), (.tup []), (.tup []), (.tup []), (.tup []), (.tup []), (.tup []), (.tup []), (.tup []), (.tup []), (.tup []), (.tup []), (.tup []), (.tup []), (.tup []), (.tup []), (.tup []), (.tup []), (.tup []), (.tup []), (.tup []), (.tup []), (.tup []), (.tup []), (.tup [])]), (.tup [(.tup [(.int (0))]), .non])])]
def S11 : Sg := [none, some (.ref 0), some (.tup [(.str "hold"), (.tup [(.str "x"), (.tup [])]), (.tup [(.str "amount"), (.int (1))]), (.tup [(.str "maker"), (.tup [(.str "m"), (.tup [])]), (.tup [(.tup [(.tup []), (.tup [(.str "use"), (.tup [(.str "x"), (.tup [])])])])]), (.tup [(.str "hold"), (.tup [(.str "x"), (.tup [])]), (.tup [(.str "amount"), (.int (2))]), (.tup [(.str "make"), (.tup [(.str "m"), (.tup [])]), (.tup [])])])])]), some (.tup [(.str "maker"), (.tup [(.str "swap"), (.tup [])]), (.tup [(.tup [(.tup [(.tup [(.str "any"), (.str "a")]), (.tup [(.str "any"), (.str "b")])]), (.tup [(.str "hold"), (.tup [(.str "t"), (.tup [])]), (.tup [(.str "fill"), (.str "a")]), (.tup [(.str "reckon"), (.str "-"), (.tup [(.str "fill"), (.str "b")]), (.tup [(.str "use"), (.tup [(.str "t"), (.tup [])])])])])])]), (.tup [(.str "hold"), (.tup [(.str "t"), (.tup [])]), (.tup [(.str "amount"), (.int (5))]), (.tup [(.str "make"), (.tup [(.str "swap"), (.tup [])]), (.tup [(.tup [(.str "amount"), (.int (2))]), (.tup [(.str "use"), (.tup [(.str "t"), (.tup [])])])])])])]), some (.tup [(.str "maker"), (.tup [(.str "bind"), (.tup [])]), (.tup [(.tup [(.tup [(.tup [(.str "name"), (.str "n")]), (.tup [(.str "any"), (.str "e")]), (.tup [(.str "any"), (.str "b")])]), (.tup [(.str "hold"), (.tup [(.str "fill"), (.str "n")]), (.tup [(.str "fill"), (.str "e")]), (.tup [(.str "fill"), (.str "b")])])])]), (.tup [(.str "make"), (.tup [(.str "bind"), (.tup [])]), (.tup [(.tup [(.str "use"), (.tup [(.str "y"), (.tup [])])]), (.tup [(.str "amount"), (.int (3))]), (.tup [(.str "reckon"), (.str "+"), (.tup [(.str "use"), (.tup [(.str "y"), (.tup [])])]), (.tup [(.str "use"), (.tup [(.str "y"), (.tup [])])])])])])]), some (.tup [(.str "hold"), (.tup [(.str "x"), (.tup [])]), (.tup [(.str "amount"), (.int (0))]), (.tup [(.str "maker"), (.tup [(.str "m"), (.tup [])]), (.tup [(.tup [(.tup [(.tup [(.str "name"), (.str "n")])]), (.tup [(.str "hold"), (.tup [(.str "fill"), (.str "n")]), (.tup [(.str "amount"), (.int (1))]), (.tup [(.str "use"), (.tup [(.str "x"), (.tup [])])])])])]), (.tup [(.str "make"), (.tup [(.str "m"), (.tup [])]), (.tup [(.tup [(.str "use"), (.tup [(.str "x"), (.tup [])])])])])])]), some (.ref 1), some (.ref 3), some (.ref 5), some (.ref 8), none, none, none, none]
def E11H : Hh := [(.cup 4), (.lst [.non, (.tup []), (.tup [(.str "use"), (.tup [(.str "x"), (.tup [(.int (2)), (.int (1))])])]), (.tup [(.str "use"), (.tup [(.str "x"), (.tup [(.int (0))])])]), (.tup [(.str "use"), (.tup [(.str "x"), (.tup [(.bl true)])])]), (.tup [(.str "fill"), (.str "x")]), (.str "use"), (.int (7))]), (.lst [(.str "amount"), (.int (1))]), (.lst [.non, (.tup []), (.tup [(.str "use"), (.tup [(.str "x"), (.tup [(.int (1))])])]), (.tup [(.str "given"), (.tup [(.str "x"), (.tup [(.int (2))])]), (.tup [(.str "amount"), (.int (1))])]), (.tup [(.str "fill"), (.str "x")]), (.ref 2), (.tup [(.str "amount")]), (.tup [(.str "maker"), (.tup [(.str "m"), (.tup [])]), (.tup [(.tup [(.tup [(.tup [(.str "word"), (.tup [(.str "x"), (.tup [(.int (1))])])])]), (.tup [(.str "amount"), (.int (1))])])]), (.tup [(.str "amount"), (.int (1))])])]), (.lst [(.bl true), (.bl true), (.bl true)]), (.lst [.non, (.tup []), (.tup [(.bl true), (.bl true)]), (.tup [(.bl true), (.bl true), (.int (1))]), (.ref 4), (.tup [(.bl true), (.bl true), (.bl true), (.bl true)]), (.bl true), (.tup [(.str "x"), (.bl true), (.bl true)])]), (.lst []), (.lst []), (.lst [.non, (.ref 6), (.str "x"), (.tup [(.int (1))]), (.tup [(.ref 7)]), (.tup [(.tup [(.bl true)])]), (.tup [(.tup [(.str "0")])]), (.tup [(.tup []), (.tup []), (.tup []), (.tup []), (.tup []), (.tup []), (.tup []), (.tup []), (.tup []), (.tup []), (.tup []), (.tup []), (.tup []), (.tup []), (.tup []), (.tup []), (.tup []), (.tup []), (.tup []), (.tup []), (.tup []), (.tup []), (.tup []), (.tup []), (.tup []), (.tup []), (.tup []), (.tup []), (.tup []), (.tup []), (.tup []), (.tup []), (.tup []), (.tup []), (.tup []), (.tup []), (.tup []), (.tup []), (.tup []), (.tup []), (.tup []), (.tup []), (.tup []), (.tup []), (.tup []), (.tup []), (.tup []), (.tup []), (.tup []), (.tup []), (.tup []), (.tup []), (.tup []), (.tup []), (.tup []), (.tup []), (.tup []), (.tup []), (.tup []), (.tup []), (.tup [])]), (.tup [(.tup [(.int (0))]), .non])])]
def S12 : Sg := [none, some (.ref 0), some (.tup [(.str "hold"), (.tup [(.str "x"), (.tup [])]), (.tup [(.str "amount"), (.int (1))]), (.tup [(.str "maker"), (.tup [(.str "m"), (.tup [])]), (.tup [(.tup [(.tup []), (.tup [(.str "use"), (.tup [(.str "x"), (.tup [])])])])]), (.tup [(.str "hold"), (.tup [(.str "x"), (.tup [])]), (.tup [(.str "amount"), (.int (2))]), (.tup [(.str "make"), (.tup [(.str "m"), (.tup [])]), (.tup [])])])])]), some (.tup [(.str "maker"), (.tup [(.str "swap"), (.tup [])]), (.tup [(.tup [(.tup [(.tup [(.str "any"), (.str "a")]), (.tup [(.str "any"), (.str "b")])]), (.tup [(.str "hold"), (.tup [(.str "t"), (.tup [])]), (.tup [(.str "fill"), (.str "a")]), (.tup [(.str "reckon"), (.str "-"), (.tup [(.str "fill"), (.str "b")]), (.tup [(.str "use"), (.tup [(.str "t"), (.tup [])])])])])])]), (.tup [(.str "hold"), (.tup [(.str "t"), (.tup [])]), (.tup [(.str "amount"), (.int (5))]), (.tup [(.str "make"), (.tup [(.str "swap"), (.tup [])]), (.tup [(.tup [(.str "amount"), (.int (2))]), (.tup [(.str "use"), (.tup [(.str "t"), (.tup [])])])])])])]), some (.tup [(.str "maker"), (.tup [(.str "bind"), (.tup [])]), (.tup [(.tup [(.tup [(.tup [(.str "name"), (.str "n")]), (.tup [(.str "any"), (.str "e")]), (.tup [(.str "any"), (.str "b")])]), (.tup [(.str "hold"), (.tup [(.str "fill"), (.str "n")]), (.tup [(.str "fill"), (.str "e")]), (.tup [(.str "fill"), (.str "b")])])])]), (.tup [(.str "make"), (.tup [(.str "bind"), (.tup [])]), (.tup [(.tup [(.str "use"), (.tup [(.str "y"), (.tup [])])]), (.tup [(.str "amount"), (.int (3))]), (.tup [(.str "reckon"), (.str "+"), (.tup [(.str "use"), (.tup [(.str "y"), (.tup [])])]), (.tup [(.str "use"), (.tup [(.str "y"), (.tup [])])])])])])]), some (.tup [(.str "hold"), (.tup [(.str "x"), (.tup [])]), (.tup [(.str "amount"), (.int (0))]), (.tup [(.str "maker"), (.tup [(.str "m"), (.tup [])]), (.tup [(.tup [(.tup [(.tup [(.str "name"), (.str "n")])]), (.tup [(.str "hold"), (.tup [(.str "fill"), (.str "n")]), (.tup [(.str "amount"), (.int (1))]), (.tup [(.str "use"), (.tup [(.str "x"), (.tup [])])])])])]), (.tup [(.str "make"), (.tup [(.str "m"), (.tup [])]), (.tup [(.tup [(.str "use"), (.tup [(.str "x"), (.tup [])])])])])])]), some (.ref 1), some (.ref 3), some (.ref 5), some (.ref 8), some (.tup [(.bl true), (.bl true), (.bl true)]), none, none, none]
def E12H : Hh := [(.cup 4), (.lst [.non, (.tup []), (.tup [(.str "use"), (.tup [(.str "x"), (.tup [(.int (2)), (.int (1))])])]), (.tup [(.str "use"), (.tup [(.str "x"), (.tup [(.int (0))])])]), (.tup [(.str "use"), (.tup [(.str "x"), (.tup [(.bl true)])])]), (.tup [(.str "fill"), (.str "x")]), (.str "use"), (.int (7))]), (.lst [(.str "amount"), (.int (1))]), (.lst [.non, (.tup []), (.tup [(.str "use"), (.tup [(.str "x"), (.tup [(.int (1))])])]), (.tup [(.str "given"), (.tup [(.str "x"), (.tup [(.int (2))])]), (.tup [(.str "amount"), (.int (1))])]), (.tup [(.str "fill"), (.str "x")]), (.ref 2), (.tup [(.str "amount")]), (.tup [(.str "maker"), (.tup [(.str "m"), (.tup [])]), (.tup [(.tup [(.tup [(.tup [(.str "word"), (.tup [(.str "x"), (.tup [(.int (1))])])])]), (.tup [(.str "amount"), (.int (1))])])]), (.tup [(.str "amount"), (.int (1))])])]), (.lst [(.bl true), (.bl true), (.bl true)]), (.lst [.non, (.tup []), (.tup [(.bl true), (.bl true)]), (.tup [(.bl true), (.bl true), (.int (1))]), (.ref 4), (.tup [(.bl true), (.bl true), (.bl true), (.bl true)]), (.bl true), (.tup [(.str "x"), (.bl true), (.bl true)])]), (.lst []), (.lst []), (.lst [.non, (.ref 6), (.str "x"), (.tup [(.int (1))]), (.tup [(.ref 7)]), (.tup [(.tup [(.bl true)])]), (.tup [(.tup [(.str "0")])]), (.tup [(.tup []), (.tup []), (.tup []), (.tup []), (.tup []), (.tup []), (.tup []), (.tup []), (.tup []), (.tup []), (.tup []), (.tup []), (.tup []), (.tup []), (.tup []), (.tup []), (.tup []), (.tup []), (.tup []), (.tup []), (.tup []), (.tup []), (.tup []), (.tup []), (.tup []), (.tup []), (.tup []), (.tup []), (.tup []), (.tup []), (.tup []), (.tup []), (.tup []), (.tup []), (.tup []), (.tup []), (.tup []), (.tup []), (.tup []), (.tup []), (.tup []), (.tup []), (.tup []), (.tup []), (.tup []), (.tup []), (.tup []), (.tup []), (.tup []), (.tup []), (.tup []), (.tup []), (.tup []), (.tup []), (.tup []), (.tup []), (.tup []), (.tup []), (.tup []), (.tup []), (.tup [])]), (.tup [(.tup [(.int (0))]), .non])])]
def S13 : Sg := [none, some (.ref 0), some (.tup [(.str "hold"), (.tup [(.str "x"), (.tup [])]), (.tup [(.str "amount"), (.int (1))]), (.tup [(.str "maker"), (.tup [(.str "m"), (.tup [])]), (.tup [(.tup [(.tup []), (.tup [(.str "use"), (.tup [(.str "x"), (.tup [])])])])]), (.tup [(.str "hold"), (.tup [(.str "x"), (.tup [])]), (.tup [(.str "amount"), (.int (2))]), (.tup [(.str "make"), (.tup [(.str "m"), (.tup [])]), (.tup [])])])])]), some (.tup [(.str "maker"), (.tup [(.str "swap"), (.tup [])]), (.tup [(.tup [(.tup [(.tup [(.str "any"), (.str "a")]), (.tup [(.str "any"), (.str "b")])]), (.tup [(.str "hold"), (.tup [(.str "t"), (.tup [])]), (.tup [(.str "fill"), (.str "a")]), (.tup [(.str "reckon"), (.str "-"), (.tup [(.str "fill"), (.str "b")]), (.tup [(.str "use"), (.tup [(.str "t"), (.tup [])])])])])])]), (.tup [(.str "hold"), (.tup [(.str "t"), (.tup [])]), (.tup [(.str "amount"), (.int (5))]), (.tup [(.str "make"), (.tup [(.str "swap"), (.tup [])]), (.tup [(.tup [(.str "amount"), (.int (2))]), (.tup [(.str "use"), (.tup [(.str "t"), (.tup [])])])])])])]), some (.tup [(.str "maker"), (.tup [(.str "bind"), (.tup [])]), (.tup [(.tup [(.tup [(.tup [(.str "name"), (.str "n")]), (.tup [(.str "any"), (.str "e")]), (.tup [(.str "any"), (.str "b")])]), (.tup [(.str "hold"), (.tup [(.str "fill"), (.str "n")]), (.tup [(.str "fill"), (.str "e")]), (.tup [(.str "fill"), (.str "b")])])])]), (.tup [(.str "make"), (.tup [(.str "bind"), (.tup [])]), (.tup [(.tup [(.str "use"), (.tup [(.str "y"), (.tup [])])]), (.tup [(.str "amount"), (.int (3))]), (.tup [(.str "reckon"), (.str "+"), (.tup [(.str "use"), (.tup [(.str "y"), (.tup [])])]), (.tup [(.str "use"), (.tup [(.str "y"), (.tup [])])])])])])]), some (.tup [(.str "hold"), (.tup [(.str "x"), (.tup [])]), (.tup [(.str "amount"), (.int (0))]), (.tup [(.str "maker"), (.tup [(.str "m"), (.tup [])]), (.tup [(.tup [(.tup [(.tup [(.str "name"), (.str "n")])]), (.tup [(.str "hold"), (.tup [(.str "fill"), (.str "n")]), (.tup [(.str "amount"), (.int (1))]), (.tup [(.str "use"), (.tup [(.str "x"), (.tup [])])])])])]), (.tup [(.str "make"), (.tup [(.str "m"), (.tup [])]), (.tup [(.tup [(.str "use"), (.tup [(.str "x"), (.tup [])])])])])])]), some (.ref 1), some (.ref 3), some (.ref 5), some (.ref 8), some (.tup [(.bl true), (.bl true), (.bl true)]), some (.tup [(.tup [(.bl true), (.bl true), (.bl true)]), (.tup [(.str "maker"), (.tup [(.str "swap"), (.tup [(.int (1))])]), (.tup [(.tup [(.tup [(.tup [(.str "any"), (.str "a")]), (.tup [(.str "any"), (.str "b")])]), (.tup [(.str "hold"), (.tup [(.str "t"), (.tup [(.int (1))])]), (.tup [(.str "fill"), (.str "a")]), (.tup [(.str "reckon"), (.str "-"), (.tup [(.str "fill"), (.str "b")]), (.tup [(.str "use"), (.tup [(.str "t"), (.tup [(.int (1))])])])])])])]), (.tup [(.str "hold"), (.tup [(.str "t"), (.tup [(.int (1)), (.int (2))])]), (.tup [(.str "amount"), (.int (5))]), (.tup [(.str "make"), (.tup [(.str "swap"), (.tup [(.int (1)), (.int (2))])]), (.tup [(.tup [(.str "amount"), (.int (2))]), (.tup [(.str "use"), (.tup [(.str "t"), (.tup [(.int (1)), (.int (2))])])])])])])]), (.int (0)), (.int (2))]), none, none]
def E13H : Hh := [(.cup 4), (.lst [.non, (.tup []), (.tup [(.str "use"), (.tup [(.str "x"), (.tup [(.int (2)), (.int (1))])])]), (.tup [(.str "use"), (.tup [(.str "x"), (.tup [(.int (0))])])]), (.tup [(.str "use"), (.tup [(.str "x"), (.tup [(.bl true)])])]), (.tup [(.str "fill"), (.str "x")]), (.str "use"), (.int (7))]), (.lst [(.str "amount"), (.int (1))]), (.lst [.non, (.tup []), (.tup [(.str "use"), (.tup [(.str "x"), (.tup [(.int (1))])])]), (.tup [(.str "given"), (.tup [(.str "x"), (.tup [(.int (2))])]), (.tup [(.str "amount"), (.int (1))])]), (.tup [(.str "fill"), (.str "x")]), (.ref 2), (.tup [(.str "amount")]), (.tup [(.str "maker"), (.tup [(.str "m"), (.tup [])]), (.tup [(.tup [(.tup [(.tup [(.str "word"), (.tup [(.str "x"), (.tup [(.int (1))])])])]), (.tup [(.str "amount"), (.int (1))])])]), (.tup [(.str "amount"), (.int (1))])])]), (.lst [(.bl true), (.bl true), (.bl true)]), (.lst [.non, (.tup []), (.tup [(.bl true), (.bl true)]), (.tup [(.bl true), (.bl true), (.int (1))]), (.ref 4), (.tup [(.bl true), (.bl true), (.bl true), (.bl true)]), (.bl true), (.tup [(.str "x"), (.bl true), (.bl true)])]), (.lst []), (.lst []), (.lst [.non, (.ref 6), (.str "x"), (.tup [(.int (1))]), (.tup [(.ref 7)]), (.tup [(.tup [(.bl true)])]), (.tup [(.tup [(.str "0")])]), (.tup [(.tup []), (.tup []), (.tup []), (.tup []), (.tup []), (.tup []), (.tup []), (.tup []), (.tup []), (.tup []), (.tup []), (.tup []), (.tup []), (.tup []), (.tup []), (.tup []), (.tup []), (.tup []), (.tup []), (.tup []), (.tup []), (.tup []), (.tup []), (.tup []), (.tup []), (.tup []), (.tup []), (.tup []), (.tup []), (.tup []), (.tup []), (.tup []), (.tup []), (.tup []), (.tup []), (.tup []), (.tup []), (.tup []), (.tup []), (.tup []), (.tup []), (.tup []), (.tup []), (.tup []), (.tup []), (.tup []), (.tup []), (.tup []), (.tup []), (.tup []), (.tup []), (.tup []), (.tup []), (.tup []), (.tup []), (.tup []), (.tup []), (.tup []), (.tup []), (.tup []), (.tup [])]), (.tup [(.tup [(.int (0))]), .non])])]
def S14 : Sg := [none, some (.ref 0), some (.tup [(.str "hold"), (.tup [(.str "x"), (.tup [])]), (.tup [(.str "amount"), (.int (1))]), (.tup [(.str "maker"), (.tup [(.str "m"), (.tup [])]), (.tup [(.tup [(.tup []), (.tup [(.str "use"), (.tup [(.str "x"), (.tup [])])])])]), (.tup [(.str "hold"), (.tup [(.str "x"), (.tup [])]), (.tup [(.str "amount"), (.int (2))]), (.tup [(.str "make"), (.tup [(.str "m"), (.tup [])]), (.tup [])])])])]), some (.tup [(.str "maker"), (.tup [(.str "swap"), (.tup [])]), (.tup [(.tup [(.tup [(.tup [(.str "any"), (.str "a")]), (.tup [(.str "any"), (.str "b")])]), (.tup [(.str "hold"), (.tup [(.str "t"), (.tup [])]), (.tup [(.str "fill"), (.str "a")]), (.tup [(.str "reckon"), (.str "-"), (.tup [(.str "fill"), (.str "b")]), (.tup [(.str "use"), (.tup [(.str "t"), (.tup [])])])])])])]), (.tup [(.str "hold"), (.tup [(.str "t"), (.tup [])]), (.tup [(.str "amount"), (.int (5))]), (.tup [(.str "make"), (.tup [(.str "swap"), (.tup [])]), (.tup [(.tup [(.str "amount"), (.int (2))]), (.tup [(.str "use"), (.tup [(.str "t"), (.tup [])])])])])])]), some (.tup [(.str "maker"), (.tup [(.str "bind"), (.tup [])]), (.tup [(.tup [(.tup [(.tup [(.str "name"), (.str "n")]), (.tup [(.str "any"), (.str "e")]), (.tup [(.str "any"), (.str "b")])]), (.tup [(.str "hold"), (.tup [(.str "fill"), (.str "n")]), (.tup [(.str "fill"), (.str "e")]), (.tup [(.str "fill"), (.str "b")])])])]), (.tup [(.str "make"), (.tup [(.str "bind"), (.tup [])]), (.tup [(.tup [(.str "use"), (.tup [(.str "y"), (.tup [])])]), (.tup [(.str "amount"), (.int (3))]), (.tup [(.str "reckon"), (.str "+"), (.tup [(.str "use"), (.tup [(.str "y"), (.tup [])])]), (.tup [(.str "use"), (.tup [(.str "y"), (.tup [])])])])])])]), some (.tup [(.str "hold"), (.tup [(.str "x"), (.tup [])]), (.tup [(.str "amount"), (.int (0))]), (.tup [(.str "maker"), (.tup [(.str "m"), (.tup [])]), (.tup [(.tup [(.tup [(.tup [(.str "name"), (.str "n")])]), (.tup [(.str "hold"), (.tup [(.str "fill"), (.str "n")]), (.tup [(.str "amount"), (.int (1))]), (.tup [(.str "use"), (.tup [(.str "x"), (.tup [])])])])])]), (.tup [(.str "make"), (.tup [(.str "m"), (.tup [])]), (.tup [(.tup [(.str "use"), (.tup [(.str "x"), (.tup [])])])])])])]), some (.ref 1), some (.ref 3), some (.ref 5), some (.ref 8), some (.tup [(.bl true), (.bl true), (.bl true)]), some (.tup [(.tup [(.bl true), (.bl true), (.bl true)]), (.tup [(.str "maker"), (.tup [(.str "swap"), (.tup [(.int (1))])]), (.tup [(.tup [(.tup [(.tup [(.str "any"), (.str "a")]), (.tup [(.str "any"), (.str "b")])]), (.tup [(.str "hold"), (.tup [(.str "t"), (.tup [(.int (1))])]), (.tup [(.str "fill"), (.str "a")]), (.tup [(.str "reckon"), (.str "-"), (.tup [(.str "fill"), (.str "b")]), (.tup [(.str "use"), (.tup [(.str "t"), (.tup [(.int (1))])])])])])])]), (.tup [(.str "hold"), (.tup [(.str "t"), (.tup [(.int (1)), (.int (2))])]), (.tup [(.str "amount"), (.int (5))]), (.tup [(.str "make"), (.tup [(.str "swap"), (.tup [(.int (1)), (.int (2))])]), (.tup [(.tup [(.str "amount"), (.int (2))]), (.tup [(.str "use"), (.tup [(.str "t"), (.tup [(.int (1)), (.int (2))])])])])])])]), (.int (0)), (.int (2))]), some (.ref 10), none]
def E14H : Hh := [(.cup 4), (.lst [.non, (.tup []), (.tup [(.str "use"), (.tup [(.str "x"), (.tup [(.int (2)), (.int (1))])])]), (.tup [(.str "use"), (.tup [(.str "x"), (.tup [(.int (0))])])]), (.tup [(.str "use"), (.tup [(.str "x"), (.tup [(.bl true)])])]), (.tup [(.str "fill"), (.str "x")]), (.str "use"), (.int (7))]), (.lst [(.str "amount"), (.int (1))]), (.lst [.non, (.tup []), (.tup [(.str "use"), (.tup [(.str "x"), (.tup [(.int (1))])])]), (.tup [(.str "given"), (.tup [(.str "x"), (.tup [(.int (2))])]), (.tup [(.str "amount"), (.int (1))])]), (.tup [(.str "fill"), (.str "x")]), (.ref 2), (.tup [(.str "amount")]), (.tup [(.str "maker"), (.tup [(.str "m"), (.tup [])]), (.tup [(.tup [(.tup [(.tup [(.str "word"), (.tup [(.str "x"), (.tup [(.int (1))])])])]), (.tup [(.str "amount"), (.int (1))])])]), (.tup [(.str "amount"), (.int (1))])])]), (.lst [(.bl true), (.bl true), (.bl true)]), (.lst [.non, (.tup []), (.tup [(.bl true), (.bl true)]), (.tup [(.bl true), (.bl true), (.int (1))]), (.ref 4), (.tup [(.bl true), (.bl true), (.bl true), (.bl true)]), (.bl true), (.tup [(.str "x"), (.bl true), (.bl true)])]), (.lst []), (.lst []), (.lst [.non, (.ref 6), (.str "x"), (.tup [(.int (1))]), (.tup [(.ref 7)]), (.tup [(.tup [(.bl true)])]), (.tup [(.tup [(.str "0")])]), (.tup [(.tup []), (.tup []), (.tup []), (.tup []), (.tup []), (.tup []), (.tup []), (.tup []), (.tup []), (.tup []), (.tup []), (.tup []), (.tup []), (.tup []), (.tup []), (.tup []), (.tup []), (.tup []), (.tup []), (.tup []), (.tup []), (.tup []), (.tup []), (.tup []), (.tup []), (.tup []), (.tup []), (.tup []), (.tup []), (.tup []), (.tup []), (.tup []), (.tup []), (.tup []), (.tup []), (.tup []), (.tup []), (.tup []), (.tup []), (.tup []), (.tup []), (.tup []), (.tup []), (.tup []), (.tup []), (.tup []), (.tup []), (.tup []), (.tup []), (.tup []), (.tup []), (.tup []), (.tup []), (.tup []), (.tup []), (.tup []), (.tup []), (.tup []), (.tup []), (.tup []), (.tup [])]), (.tup [(.tup [(.int (0))]), .non])]), (.lst [(.tup [(.bl true), (.bl true), (.bl true)]), (.tup [(.str "maker"), (.tup [(.str "swap"), (.tup [(.int (1))])]), (.tup [(.tup [(.tup [(.tup [(.str "any"), (.str "a")]), (.tup [(.str "any"), (.str "b")])]), (.tup [(.str "hold"), (.tup [(.str "t"), (.tup [(.int (1))])]), (.tup [(.str "fill"), (.str "a")]), (.tup [(.str "reckon"), (.str "-"), (.tup [(.str "fill"), (.str "b")]), (.tup [(.str "use"), (.tup [(.str "t"), (.tup [(.int (1))])])])])])])]), (.tup [(.str "hold"), (.tup [(.str "t"), (.tup [(.int (1)), (.int (2))])]), (.tup [(.str "amount"), (.int (5))]), (.tup [(.str "make"), (.tup [(.str "swap"), (.tup [(.int (1)), (.int (2))])]), (.tup [(.tup [(.str "amount"), (.int (2))]), (.tup [(.str "use"), (.tup [(.str "t"), (.tup [(.int (1)), (.int (2))])])])])])])]), (.int (0)), (.int (2))]), (.lst [.non, (.tup []), (.tup [(.tup [(.bl true), (.bl true), (.bl true)]), (.tup [(.str "maker"), (.tup [(.str "swap"), (.tup [(.int (1))])]), (.tup [(.tup [(.tup [(.tup [(.str "any"), (.str "a")]), (.tup [(.str "any"), (.str "b")])]), (.tup [(.str "hold"), (.tup [(.str "t"), (.tup [(.int (1))])]), (.tup [(.str "fill"), (.str "a")]), (.tup [(.str "reckon"), (.str "-"), (.tup [(.str "fill"), (.str "b")]), (.tup [(.str "use"), (.tup [(.str "t"), (.tup [(.int (1))])])])])])])]), (.tup [(.str "hold"), (.tup [(.str "t"), (.tup [(.int (1)), (.int (2))])]), (.tup [(.str "amount"), (.int (5))]), (.tup [(.str "make"), (.tup [(.str "swap"), (.tup [(.int (1)), (.int (2))])]), (.tup [(.tup [(.str "amount"), (.int (2))]), (.tup [(.str "use"), (.tup [(.str "t"), (.tup [(.int (1)), (.int (2))])])])])])])]), (.int (0))]), (.tup [(.tup [(.bl true), (.bl true), (.bl true)]), (.tup [(.str "maker"), (.tup [(.str "swap"), (.tup [(.int (1))])]), (.tup [(.tup [(.tup [(.tup [(.str "any"), (.str "a")]), (.tup [(.str "any"), (.str "b")])]), (.tup [(.str "hold"), (.tup [(.str "t"), (.tup [(.int (1))])]), (.tup [(.str "fill"), (.str "a")]), (.tup [(.str "reckon"), (.str "-"), (.tup [(.str "fill"), (.str "b")]), (.tup [(.str "use"), (.tup [(.str "t"), (.tup [(.int (1))])])])])])])]), (.tup [(.str "hold"), (.tup [(.str "t"), (.tup [(.int (1)), (.int (2))])]), (.tup [(.str "amount"), (.int (5))]), (.tup [(.str "make"), (.tup [(.str "swap"), (.tup [(.int (1)), (.int (2))])]), (.tup [(.tup [(.str "amount"), (.int (2))]), (.tup [(.str "use"), (.tup [(.str "t"), (.tup [(.int (1)), (.int (2))])])])])])])]), (.int (0)), (.int (2)), (.int (1))]), (.tup [.non, (.tup [(.str "maker"), (.tup [(.str "swap"), (.tup [(.int (1))])]), (.tup [(.tup [(.tup [(.tup [(.str "any"), (.str "a")]), (.tup [(.str "any"), (.str "b")])]), (.tup [(.str "hold"), (.tup [(.str "t"), (.tup [(.int (1))])]), (.tup [(.str "fill"), (.str "a")]), (.tup [(.str "reckon"), (.str "-"), (.tup [(.str "fill"), (.str "b")]), (.tup [(.str "use"), (.tup [(.str "t"), (.tup [(.int (1))])])])])])])]), (.tup [(.str "hold"), (.tup [(.str "t"), (.tup [(.int (1)), (.int (2))])]), (.tup [(.str "amount"), (.int (5))]), (.tup [(.str "make"), (.tup [(.str "swap"), (.tup [(.int (1)), (.int (2))])]), (.tup [(.tup [(.str "amount"), (.int (2))]), (.tup [(.str "use"), (.tup [(.str "t"), (.tup [(.int (1)), (.int (2))])])])])])])]), (.int (0)), (.int (2))]), (.tup [(.tup [(.bl true), (.bl true), (.bl true)]), (.tup [(.str "maker"), (.tup [(.str "swap"), (.tup [(.int (1))])]), (.tup [(.tup [(.tup [(.tup [(.str "any"), (.str "a")]), (.tup [(.str "any"), (.str "b")])]), (.tup [(.str "hold"), (.tup [(.str "t"), (.tup [(.int (1))])]), (.tup [(.str "fill"), (.str "a")]), (.tup [(.str "reckon"), (.str "-"), (.tup [(.str "fill"), (.str "b")]), (.tup [(.str "use"), (.tup [(.str "t"), (.tup [(.int (1))])])])])])])]), (.tup [(.str "hold"), (.tup [(.str "t"), (.tup [(.int (1)), (.int (2))])]), (.tup [(.str "amount"), (.int (5))]), (.tup [(.str "make"), (.tup [(.str "swap"), (.tup [(.int (1)), (.int (2))])]), (.tup [(.tup [(.str "amount"), (.int (2))]), (.tup [(.str "use"), (.tup [(.str "t"), (.tup [(.int (1)), (.int (2))])])])])])])]), (.int (0)), (.int (1))]), (.tup [(.tup [(.bl true), (.bl true), (.bl true)]), (.tup [(.str "maker"), (.tup [(.str "swap"), (.tup [(.int (1))])]), (.tup [(.tup [(.tup [(.tup [(.str "any"), (.str "a")]), (.tup [(.str "any"), (.str "b")])]), (.tup [(.str "hold"), (.tup [(.str "t"), (.tup [(.int (1))])]), (.tup [(.str "fill"), (.str "a")]), (.tup [(.str "reckon"), (.str "-"), (.tup [(.str "fill"), (.str "b")]), (.tup [(.str "use"), (.tup [(.str "t"), (.tup [(.int (1))])])])])])])]), (.tup [(.str "hold"), (.tup [(.str "t"), (.tup [(.int (1)), (.int (2))])]), (.tup [(.str "amount"), (.int (5))]), (.tup [(.str "make"), (.tup [(.str "swap"), (.tup [(.int (1)), (.int (2))])]), (.tup [(.tup [(.str "amount"), (.int (2))]), (.tup [(.str "use"), (.tup [(.str "t"), (.tup [(.int (1)), (.int (2))])])])])])])]), (.int (41)), (.int (9))]), (.ref 9), (.tup [(.str "maker"), (.tup [(.str "swap"), (.tup [])]), (.tup [(.tup [(.tup [(.tup [(.str "any"), (.str "a")]), (.tup [(.str "any"), (.str "b")])]), (.tup [(.str "hold"), (.tup [(.str "t"), (.tup [])]), (.tup [(.str "fill"), (.str "a")]), (.tup [(.str "reckon"), (.str "-"), (.tup [(.str "fill"), (.str "b")]), (.tup [(.str "use"), (.tup [(.str "t"), (.tup [])])])])])])]), (.tup [(.str "hold"), (.tup [(.str "t"), (.tup [])]), (.tup [(.str "amount"), (.int (5))]), (.tup [(.str "make"), (.tup [(.str "swap"), (.tup [])]), (.tup [(.tup [(.str "amount"), (.int (2))]), (.tup [(.str "use"), (.tup [(.str "t"), (.tup [])])])])])])])])]
def S15 : Sg := [none, some (.ref 0), some (.tup [(.str "hold"), (.tup [(.str "x"), (.tup [])]), (.tup [(.str "amount"), (.int (1))]), (.tup [(.str "maker"), (.tup [(.str "m"), (.tup [])]), (.tup [(.tup [(.tup []), (.tup [(.str "use"), (.tup [(.str "x"), (.tup [])])])])]), (.tup [(.str "hold"), (.tup [(.str "x"), (.tup [])]), (.tup [(.str "amount"), (.int (2))]), (.tup [(.str "make"), (.tup [(.str "m"), (.tup [])]), (.tup [])])])])]), some (.tup [(.str "maker"), (.tup [(.str "swap"), (.tup [])]), (.tup [(.tup [(.tup [(.tup [(.str "any"), (.str "a")]), (.tup [(.str "any"), (.str "b")])]), (.tup [(.str "hold"), (.tup [(.str "t"), (.tup [])]), (.tup [(.str "fill"), (.str "a")]), (.tup [(.str "reckon"), (.str "-"), (.tup [(.str "fill"), (.str "b")]), (.tup [(.str "use"), (.tup [(.str "t"), (.tup [])])])])])])]), (.tup [(.str "hold"), (.tup [(.str "t"), (.tup [])]), (.tup [(.str "amount"), (.int (5))]), (.tup [(.str "make"), (.tup [(.str "swap"), (.tup [])]), (.tup [(.tup [(.str "amount"), (.int (2))]), (.tup [(.str "use"), (.tup [(.str "t"), (.tup [])])])])])])]), some (.tup [(.str "maker"), (.tup [(.str "bind"), (.tup [])]), (.tup [(.tup [(.tup [(.tup [(.str "name"), (.str "n")]), (.tup [(.str "any"), (.str "e")]), (.tup [(.str "any"), (.str "b")])]), (.tup [(.str "hold"), (.tup [(.str "fill"), (.str "n")]), (.tup [(.str "fill"), (.str "e")]), (.tup [(.str "fill"), (.str "b")])])])]), (.tup [(.str "make"), (.tup [(.str "bind"), (.tup [])]), (.tup [(.tup [(.str "use"), (.tup [(.str "y"), (.tup [])])]), (.tup [(.str "amount"), (.int (3))]), (.tup [(.str "reckon"), (.str "+"), (.tup [(.str "use"), (.tup [(.str "y"), (.tup [])])]), (.tup [(.str "use"), (.tup [(.str "y"), (.tup [])])])])])])]), some (.tup [(.str "hold"), (.tup [(.str "x"), (.tup [])]), (.tup [(.str "amount"), (.int (0))]), (.tup [(.str "maker"), (.tup [(.str "m"), (.tup [])]), (.tup [(.tup [(.tup [(.tup [(.str "name"), (.str "n")])]), (.tup [(.str "hold"), (.tup [(.str "fill"), (.str "n")]), (.tup [(.str "amount"), (.int (1))]), (.tup [(.str "use"), (.tup [(.str "x"), (.tup [])])])])])]), (.tup [(.str "make"), (.tup [(.str "m"), (.tup [])]), (.tup [(.tup [(.str "use"), (.tup [(.str "x"), (.tup [])])])])])])]), some (.ref 1), some (.ref 3), some (.ref 5), some (.ref 8), some (.tup [(.bl true), (.bl true), (.bl true)]), some (.tup [(.tup [(.bl true), (.bl true), (.bl true)]), (.tup [(.str "maker"), (.tup [(.str "swap"), (.tup [(.int (1))])]), (.tup [(.tup [(.tup [(.tup [(.str "any"), (.str "a")]), (.tup [(.str "any"), (.str "b")])]), (.tup [(.str "hold"), (.tup [(.str "t"), (.tup [(.int (1))])]), (.tup [(.str "fill"), (.str "a")]), (.tup [(.str "reckon"), (.str "-"), (.tup [(.str "fill"), (.str "b")]), (.tup [(.str "use"), (.tup [(.str "t"), (.tup [(.int (1))])])])])])])]), (.tup [(.str "hold"), (.tup [(.str "t"), (.tup [(.int (1)), (.int (2))])]), (.tup [(.str "amount"), (.int (5))]), (.tup [(.str "make"), (.tup [(.str "swap"), (.tup [(.int (1)), (.int (2))])]), (.tup [(.tup [(.str "amount"), (.int (2))]), (.tup [(.str "use"), (.tup [(.str "t"), (.tup [(.int (1)), (.int (2))])])])])])])]), (.int (0)), (.int (2))]), some (.ref 10), none]
def E15H : Hh := [(.cup 5), (.lst [.non, (.tup []), (.tup [(.str "use"), (.tup [(.str "x"), (.tup [(.int (2)), (.int (1))])])]), (.tup [(.str "use"), (.tup [(.str "x"), (.tup [(.int (0))])])]), (.tup [(.str "use"), (.tup [(.str "x"), (.tup [(.bl true)])])]), (.tup [(.str "fill"), (.str "x")]), (.str "use"), (.int (7))]), (.lst [(.str "amount"), (.int (1))]), (.lst [.non, (.tup []), (.tup [(.str "use"), (.tup [(.str "x"), (.tup [(.int (1))])])]), (.tup [(.str "given"), (.tup [(.str "x"), (.tup [(.int (2))])]), (.tup [(.str "amount"), (.int (1))])]), (.tup [(.str "fill"), (.str "x")]), (.ref 2), (.tup [(.str "amount")]), (.tup [(.str "maker"), (.tup [(.str "m"), (.tup [])]), (.tup [(.tup [(.tup [(.tup [(.str "word"), (.tup [(.str "x"), (.tup [(.int (1))])])])]), (.tup [(.str "amount"), (.int (1))])])]), (.tup [(.str "amount"), (.int (1))])])]), (.lst [(.bl true), (.bl true), (.bl true)]), (.lst [.non, (.tup []), (.tup [(.bl true), (.bl true)]), (.tup [(.bl true), (.bl true), (.int (1))]), (.ref 4), (.tup [(.bl true), (.bl true), (.bl true), (.bl true)]), (.bl true), (.tup [(.str "x"), (.bl true), (.bl true)])]), (.lst []), (.lst []), (.lst [.non, (.ref 6), (.str "x"), (.tup [(.int (1))]), (.tup [(.ref 7)]), (.tup [(.tup [(.bl true)])]), (.tup [(.tup [(.str "0")])]), (.tup [(.tup []), (.tup []), (.tup []), (.tup []), (.tup []), (.tup []), (.tup []), (.tup []), (.tup []), (.tup []), (.tup []), (.tup []), (.tup []), (.tup []), (.tup []), (.tup []), (.tup []), (.tup []), (.tup []), (.tup []), (.tup []), (.tup []), (.tup []), (.tup []), (.tup []), (.tup []), (.tup []), (.tup []), (.tup []), (.tup []), (.tup []), (.tup []), (.tup []), (.tup []), (.tup []), (.tup []), (.tup []), (.tup []), (.tup []), (.tup []), (.tup []), (.tup []), (.tup []), (.tup []), (.tup []), (.tup []), (.tup []), (.tup []), (.tup []), (.tup []), (.tup []), (.tup []), (.tup []), (.tup []), (.tup []), (.tup []), (.tup []), (.tup []), (.tup []), (.tup []), (.tup [])]), (.tup [(.tup [(.int (0))]), .non])]), (.lst [(.tup [(.bl true), (.bl true), (.bl true)]), (.tup [(.str "maker"), (.tup [(.str "swap"), (.tup [(.int (1))])]), (.tup [(.tup [(.tup [(.tup [(.str "any"), (.str "a")]), (.tup [(.str "any"), (.str "b")])]), (.tup [(.str "hold"), (.tup [(.str "t"), (.tup [(.int (1))])]), (.tup [(.str "fill"), (.str "a")]), (.tup [(.str "reckon"), (.str "-"), (.tup [(.str "fill"), (.str "b")]), (.tup [(.str "use"), (.tup [(.str "t"), (.tup [(.int (1))])])])])])])]), (.tup [(.str "hold"), (.tup [(.str "t"), (.tup [(.int (1)), (.int (2))])]), (.tup [(.str "amount"), (.int (5))]), (.tup [(.str "make"), (.tup [(.str "swap"), (.tup [(.int (1)), (.int (2))])]), (.tup [(.tup [(.str "amount"), (.int (2))]), (.tup [(.str "use"), (.tup [(.str "t"), (.tup [(.int (1)), (.int (2))])])])])])])]), (.int (0)), (.int (2))]), (.lst [.non, (.tup []), (.tup [(.tup [(.bl true), (.bl true), (.bl true)]), (.tup [(.str "maker"), (.tup [(.str "swap"), (.tup [(.int (1))])]), (.tup [(.tup [(.tup [(.tup [(.str "any"), (.str "a")]), (.tup [(.str "any"), (.str "b")])]), (.tup [(.str "hold"), (.tup [(.str "t"), (.tup [(.int (1))])]), (.tup [(.str "fill"), (.str "a")]), (.tup [(.str "reckon"), (.str "-"), (.tup [(.str "fill"), (.str "b")]), (.tup [(.str "use"), (.tup [(.str "t"), (.tup [(.int (1))])])])])])])]), (.tup [(.str "hold"), (.tup [(.str "t"), (.tup [(.int (1)), (.int (2))])]), (.tup [(.str "amount"), (.int (5))]), (.tup [(.str "make"), (.tup [(.str "swap"), (.tup [(.int (1)), (.int (2))])]), (.tup [(.tup [(.str "amount"), (.int (2))]), (.tup [(.str "use"), (.tup [(.str "t"), (.tup [(.int (1)), (.int (2))])])])])])])]), (.int (0))]), (.tup [(.tup [(.bl true), (.bl true), (.bl true)]), (.tup [(.str "maker"), (.tup [(.str "swap"), (.tup [(.int (1))])]), (.tup [(.tup [(.tup [(.tup [(.str "any"), (.str "a")]), (.tup [(.str "any"), (.str "b")])]), (.tup [(.str "hold"), (.tup [(.str "t"), (.tup [(.int (1))])]), (.tup [(.str "fill"), (.str "a")]), (.tup [(.str "reckon"), (.str "-"), (.tup [(.str "fill"), (.str "b")]), (.tup [(.str "use"), (.tup [(.str "t"), (.tup [(.int (1))])])])])])])]), (.tup [(.str "hold"), (.tup [(.str "t"), (.tup [(.int (1)), (.int (2))])]), (.tup [(.str "amount"), (.int (5))]), (.tup [(.str "make"), (.tup [(.str "swap"), (.tup [(.int (1)), (.int (2))])]), (.tup [(.tup [(.str "amount"), (.int (2))]), (.tup [(.str "use"), (.tup [(.str "t"), (.tup [(.int (1)), (.int (2))])])])])])])]), (.int (0)), (.int (2)), (.int (1))]), (.tup [.non, (.tup [(.str "maker"), (.tup [(.str "swap"), (.tup [(.int (1))])]), (.tup [(.tup [(.tup [(.tup [(.str "any"), (.str "a")]), (.tup [(.str "any"), (.str "b")])]), (.tup [(.str "hold"), (.tup [(.str "t"), (.tup [(.int (1))])]), (.tup [(.str "fill"), (.str "a")]), (.tup [(.str "reckon"), (.str "-"), (.tup [(.str "fill"), (.str "b")]), (.tup [(.str "use"), (.tup [(.str "t"), (.tup [(.int (1))])])])])])])]), (.tup [(.str "hold"), (.tup [(.str "t"), (.tup [(.int (1)), (.int (2))])]), (.tup [(.str "amount"), (.int (5))]), (.tup [(.str "make"), (.tup [(.str "swap"), (.tup [(.int (1)), (.int (2))])]), (.tup [(.tup [(.str "amount"), (.int (2))]), (.tup [(.str "use"), (.tup [(.str "t"), (.tup [(.int (1)), (.int (2))])])])])])])]), (.int (0)), (.int (2))]), (.tup [(.tup [(.bl true), (.bl true), (.bl true)]), (.tup [(.str "maker"), (.tup [(.str "swap"), (.tup [(.int (1))])]), (.tup [(.tup [(.tup [(.tup [(.str "any"), (.str "a")]), (.tup [(.str "any"), (.str "b")])]), (.tup [(.str "hold"), (.tup [(.str "t"), (.tup [(.int (1))])]), (.tup [(.str "fill"), (.str "a")]), (.tup [(.str "reckon"), (.str "-"), (.tup [(.str "fill"), (.str "b")]), (.tup [(.str "use"), (.tup [(.str "t"), (.tup [(.int (1))])])])])])])]), (.tup [(.str "hold"), (.tup [(.str "t"), (.tup [(.int (1)), (.int (2))])]), (.tup [(.str "amount"), (.int (5))]), (.tup [(.str "make"), (.tup [(.str "swap"), (.tup [(.int (1)), (.int (2))])]), (.tup [(.tup [(.str "amount"), (.int (2))]), (.tup [(.str "use"), (.tup [(.str "t"), (.tup [(.int (1)), (.int (2))])])])])])])]), (.int (0)), (.int (1))]), (.tup [(.tup [(.bl true), (.bl true), (.bl true)]), (.tup [(.str "maker"), (.tup [(.str "swap"), (.tup [(.int (1))])]), (.tup [(.tup [(.tup [(.tup [(.str "any"), (.str "a")]), (.tup [(.str "any"), (.str "b")])]), (.tup [(.str "hold"), (.tup [(.str "t"), (.tup [(.int (1))])]), (.tup [(.str "fill"), (.str "a")]), (.tup [(.str "reckon"), (.str "-"), (.tup [(.str "fill"), (.str "b")]), (.tup [(.str "use"), (.tup [(.str "t"), (.tup [(.int (1))])])])])])])]), (.tup [(.str "hold"), (.tup [(.str "t"), (.tup [(.int (1)), (.int (2))])]), (.tup [(.str "amount"), (.int (5))]), (.tup [(.str "make"), (.tup [(.str "swap"), (.tup [(.int (1)), (.int (2))])]), (.tup [(.tup [(.str "amount"), (.int (2))]), (.tup [(.str "use"), (.tup [(.str "t"), (.tup [(.int (1)), (.int (2))])])])])])])]), (.int (41)), (.int (9))]), (.ref 9), (.tup [(.str "maker"), (.tup [(.str "swap"), (.tup [])]), (.tup [(.tup [(.tup [(.tup [(.str "any"), (.str "a")]), (.tup [(.str "any"), (.str "b")])]), (.tup [(.str "hold"), (.tup [(.str "t"), (.tup [])]), (.tup [(.str "fill"), (.str "a")]), (.tup [(.str "reckon"), (.str "-"), (.tup [(.str "fill"), (.str "b")]), (.tup [(.str "use"), (.tup [(.str "t"), (.tup [])])])])])])]), (.tup [(.str "hold"), (.tup [(.str "t"), (.tup [])]), (.tup [(.str "amount"), (.int (5))]), (.tup [(.str "make"), (.tup [(.str "swap"), (.tup [])]), (.tup [(.tup [(.str "amount"), (.int (2))]), (.tup [(.str "use"), (.tup [(.str "t"), (.tup [])])])])])])])])]
def S16 : Sg := [none, some (.ref 0), some (.tup [(.str "hold"), (.tup [(.str "x"), (.tup [])]), (.tup [(.str "amount"), (.int (1))]), (.tup [(.str "maker"), (.tup [(.str "m"), (.tup [])]), (.tup [(.tup [(.tup []), (.tup [(.str "use"), (.tup [(.str "x"), (.tup [])])])])]), (.tup [(.str "hold"), (.tup [(.str "x"), (.tup [])]), (.tup [(.str "amount"), (.int (2))]), (.tup [(.str "make"), (.tup [(.str "m"), (.tup [])]), (.tup [])])])])]), some (.tup [(.str "maker"), (.tup [(.str "swap"), (.tup [])]), (.tup [(.tup [(.tup [(.tup [(.str "any"), (.str "a")]), (.tup [(.str "any"), (.str "b")])]), (.tup [(.str "hold"), (.tup [(.str "t"), (.tup [])]), (.tup [(.str "fill"), (.str "a")]), (.tup [(.str "reckon"), (.str "-"), (.tup [(.str "fill"), (.str "b")]), (.tup [(.str "use"), (.tup [(.str "t"), (.tup [])])])])])])]), (.tup [(.str "hold"), (.tup [(.str "t"), (.tup [])]), (.tup [(.str "amount"), (.int (5))]), (.tup [(.str "make"), (.tup [(.str "swap"), (.tup [])]), (.tup [(.tup [(.str "amount"), (.int (2))]), (.tup [(.str "use"), (.tup [(.str "t"), (.tup [])])])])])])]), some (.tup [(.str "maker"), (.tup [(.str "bind"), (.tup [])]), (.tup [(.tup [(.tup [(.tup [(.str "name"), (.str "n")]), (.tup [(.str "any"), (.str "e")]), (.tup [(.str "any"), (.str "b")])]), (.tup [(.str "hold"), (.tup [(.str "fill"), (.str "n")]), (.tup [(.str "fill"), (.str "e")]), (.tup [(.str "fill"), (.str "b")])])])]), (.tup [(.str "make"), (.tup [(.str "bind"), (.tup [])]), (.tup [(.tup [(.str "use"), (.tup [(.str "y"), (.tup [])])]), (.tup [(.str "amount"), (.int (3))]), (.tup [(.str "reckon"), (.str "+"), (.tup [(.str "use"), (.tup [(.str "y"), (.tup [])])]), (.tup [(.str "use"), (.tup [(.str "y"), (.tup [])])])])])])]), some (.tup [(.str "hold"), (.tup [(.str "x"), (.tup [])]), (.tup [(.str "amount"), (.int (0))]), (.tup [(.str "maker"), (.tup [(.str "m"), (.tup [])]), (.tup [(.tup [(.tup [(.tup [(.str "name"), (.str "n")])]), (.tup [(.str "hold"), (.tup [(.str "fill"), (.str "n")]), (.tup [(.str "amount"), (.int (1))]), (.tup [(.str "use"), (.tup [(.str "x"), (.tup [])])])])])]), (.tup [(.str "make"), (.tup [(.str "m"), (.tup [])]), (.tup [(.tup [(.str "use"), (.tup [(.str "x"), (.tup [])])])])])])]), some (.ref 1), some (.ref 3), some (.ref 5), some (.ref 8), some (.tup [(.bl true), (.bl true), (.bl true)]), some (.tup [(.tup [(.bl true), (.bl true), (.bl true)]), (.tup [(.str "maker"), (.tup [(.str "swap"), (.tup [(.int (1))])]), (.tup [(.tup [(.tup [(.tup [(.str "any"), (.str "a")]), (.tup [(.str "any"), (.str "b")])]), (.tup [(.str "hold"), (.tup [(.str "t"), (.tup [(.int (1))])]), (.tup [(.str "fill"), (.str "a")]), (.tup [(.str "reckon"), (.str "-"), (.tup [(.str "fill"), (.str "b")]), (.tup [(.str "use"), (.tup [(.str "t"), (.tup [(.int (1))])])])])])])]), (.tup [(.str "hold"), (.tup [(.str "t"), (.tup [(.int (1)), (.int (2))])]), (.tup [(.str "amount"), (.int (5))]), (.tup [(.str "make"), (.tup [(.str "swap"), (.tup [(.int (1)), (.int (2))])]), (.tup [(.tup [(.str "amount"), (.int (2))]), (.tup [(.str "use"), (.tup [(.str "t"), (.tup [(.int (1)), (.int (2))])])])])])])]), (.int (0)), (.int (2))]), some (.ref 10), some (.tup [(.int (1)), (.int (-1))])]
def E16H : Hh := [(.cup 5), (.lst [.non, (.tup []), (.tup [(.str "use"), (.tup [(.str "x"), (.tup [(.int (2)), (.int (1))])])]), (.tup [(.str "use"), (.tup [(.str "x"), (.tup [(.int (0))])])]), (.tup [(.str "use"), (.tup [(.str "x"), (.tup [(.bl true)])])]), (.tup [(.str "fill"), (.str "x")]), (.str "use"), (.int (7))]), (.lst [(.str "amount"), (.int (1))]), (.lst [.non, (.tup []), (.tup [(.str "use"), (.tup [(.str "x"), (.tup [(.int (1))])])]), (.tup [(.str "given"), (.tup [(.str "x"), (.tup [(.int (2))])]), (.tup [(.str "amount"), (.int (1))])]), (.tup [(.str "fill"), (.str "x")]), (.ref 2), (.tup [(.str "amount")]), (.tup [(.str "maker"), (.tup [(.str "m"), (.tup [])]), (.tup [(.tup [(.tup [(.tup [(.str "word"), (.tup [(.str "x"), (.tup [(.int (1))])])])]), (.tup [(.str "amount"), (.int (1))])])]), (.tup [(.str "amount"), (.int (1))])])]), (.lst [(.bl true), (.bl true), (.bl true)]), (.lst [.non, (.tup []), (.tup [(.bl true), (.bl true)]), (.tup [(.bl true), (.bl true), (.int (1))]), (.ref 4), (.tup [(.bl true), (.bl true), (.bl true), (.bl true)]), (.bl true), (.tup [(.str "x"), (.bl true), (.bl true)])]), (.lst []), (.lst []), (.lst [.non, (.ref 6), (.str "x"), (.tup [(.int (1))]), (.tup [(.ref 7)]), (.tup [(.tup [(.bl true)])]), (.tup [(.tup [(.str "0")])]), (.tup [(.tup []), (.tup []), (.tup []), (.tup []), (.tup []), (.tup []), (.tup []), (.tup []), (.tup []), (.tup []), (.tup []), (.tup []), (.tup []), (.tup []), (.tup []), (.tup []), (.tup []), (.tup []), (.tup []), (.tup []), (.tup []), (.tup []), (.tup []), (.tup []), (.tup []), (.tup []), (.tup []), (.tup []), (.tup []), (.tup []), (.tup []), (.tup []), (.tup []), (.tup []), (.tup []), (.tup []), (.tup []), (.tup []), (.tup []), (.tup []), (.tup []), (.tup []), (.tup []), (.tup []), (.tup []), (.tup []), (.tup []), (.tup []), (.tup []), (.tup []), (.tup []), (.tup []), (.tup []), (.tup []), (.tup []), (.tup []), (.tup []), (.tup []), (.tup []), (.tup []), (.tup [])]), (.tup [(.tup [(.int (0))]), .non])]), (.lst [(.tup [(.bl true), (.bl true), (.bl true)]), (.tup [(.str "maker"), (.tup [(.str "swap"), (.tup [(.int (1))])]), (.tup [(.tup [(.tup [(.tup [(.str "any"), (.str "a")]), (.tup [(.str "any"), (.str "b")])]), (.tup [(.str "hold"), (.tup [(.str "t"), (.tup [(.int (1))])]), (.tup [(.str "fill"), (.str "a")]), (.tup [(.str "reckon"), (.str "-"), (.tup [(.str "fill"), (.str "b")]), (.tup [(.str "use"), (.tup [(.str "t"), (.tup [(.int (1))])])])])])])]), (.tup [(.str "hold"), (.tup [(.str "t"), (.tup [(.int (1)), (.int (2))])]), (.tup [(.str "amount"), (.int (5))]), (.tup [(.str "make"), (.tup [(.str "swap"), (.tup [(.int (1)), (.int (2))])]), (.tup [(.tup [(.str "amount"), (.int (2))]), (.tup [(.str "use"), (.tup [(.str "t"), (.tup [(.int (1)), (.int (2))])])])])])])]), (.int (0)), (.int (2))]), (.lst [.non, (.tup []), (.tup [(.tup [(.bl true), (.bl true), (.bl true)]), (.tup [(.str "maker"), (.tup [(.str "swap"), (.tup [(.int (1))])]), (.tup [(.tup [(.tup [(.tup [(.str "any"), (.str "a")]), (.tup [(.str "any"), (.str "b")])]), (.tup [(.str "hold"), (.tup [(.str "t"), (.tup [(.int (1))])]), (.tup [(.str "fill"), (.str "a")]), (.tup [(.str "reckon"), (.str "-"), (.tup [(.str "fill"), (.str "b")]), (.tup [(.str "use"), (.tup [(.str "t"), (.tup [(.int (1))])])])])])])]), (.tup [(.str "hold"), (.tup [(.str "t"), (.tup [(.int (1)), (.int (2))])]), (.tup [(.str "amount"), (.int (5))]), (.tup [(.str "make"), (.tup [(.str "swap"), (.tup [(.int (1)), (.int (2))])]), (.tup [(.tup [(.str "amount"), (.int (2))]), (.tup [(.str "use"), (.tup [(.str "t"), (.tup [(.int (1)), (.int (2))])])])])])])]), (.int (0))]), (.tup [(.tup [(.bl true), (.bl true), (.bl true)]), (.tup [(.str "maker"), (.tup [(.str "swap"), (.tup [(.int (1))])]), (.tup [(.tup [(.tup [(.tup [(.str "any"), (.str "a")]), (.tup [(.str "any"), (.str "b")])]), (.tup [(.str "hold"), (.tup [(.str "t"), (.tup [(.int (1))])]), (.tup [(.str "fill"), (.str "a")]), (.tup [(.str "reckon"), (.str "-"), (.tup [(.str "fill"), (.str "b")]), (.tup [(.str "use"), (.tup [(.str "t"), (.tup [(.int (1))])])])])])])]), (.tup [(.str "hold"), (.tup [(.str "t"), (.tup [(.int (1)), (.int (2))])]), (.tup [(.str "amount"), (.int (5))]), (.tup [(.str "make"), (.tup [(.str "swap"), (.tup [(.int (1)), (.int (2))])]), (.tup [(.tup [(.str "amount"), (.int (2))]), (.tup [(.str "use"), (.tup [(.str "t"), (.tup [(.int (1)), (.int (2))])])])])])])]), (.int (0)), (.int (2)), (.int (1))]), (.tup [.non, (.tup [(.str "maker"), (.tup [(.str "swap"), (.tup [(.int (1))])]), (.tup [(.tup [(.tup [(.tup [(.str "any"), (.str "a")]), (.tup [(.str "any"), (.str "b")])]), (.tup [(.str "hold"), (.tup [(.str "t"), (.tup [(.int (1))])]), (.tup [(.str "fill"), (.str "a")]), (.tup [(.str "reckon"), (.str "-"), (.tup [(.str "fill"), (.str "b")]), (.tup [(.str "use"), (.tup [(.str "t"), (.tup [(.int (1))])])])])])])]), (.tup [(.str "hold"), (.tup [(.str "t"), (.tup [(.int (1)), (.int (2))])]), (.tup [(.str "amount"), (.int (5))]), (.tup [(.str "make"), (.tup [(.str "swap"), (.tup [(.int (1)), (.int (2))])]), (.tup [(.tup [(.str "amount"), (.int (2))]), (.tup [(.str "use"), (.tup [(.str "t"), (.tup [(.int (1)), (.int (2))])])])])])])]), (.int (0)), (.int (2))]), (.tup [(.tup [(.bl true), (.bl true), (.bl true)]), (.tup [(.str "maker"), (.tup [(.str "swap"), (.tup [(.int (1))])]), (.tup [(.tup [(.tup [(.tup [(.str "any"), (.str "a")]), (.tup [(.str "any"), (.str "b")])]), (.tup [(.str "hold"), (.tup [(.str "t"), (.tup [(.int (1))])]), (.tup [(.str "fill"), (.str "a")]), (.tup [(.str "reckon"), (.str "-"), (.tup [(.str "fill"), (.str "b")]), (.tup [(.str "use"), (.tup [(.str "t"), (.tup [(.int (1))])])])])])])]), (.tup [(.str "hold"), (.tup [(.str "t"), (.tup [(.int (1)), (.int (2))])]), (.tup [(.str "amount"), (.int (5))]), (.tup [(.str "make"), (.tup [(.str "swap"), (.tup [(.int (1)), (.int (2))])]), (.tup [(.tup [(.str "amount"), (.int (2))]), (.tup [(.str "use"), (.tup [(.str "t"), (.tup [(.int (1)), (.int (2))])])])])])])]), (.int (0)), (.int (1))]), (.tup [(.tup [(.bl true), (.bl true), (.bl true)]), (.tup [(.str "maker"), (.tup [(.str "swap"), (.tup [(.int (1))])]), (.tup [(.tup [(.tup [(.tup [(.str "any"), (.str "a")]), (.tup [(.str "any"), (.str "b")])]), (.tup [(.str "hold"), (.tup [(.str "t"), (.tup [(.int (1))])]), (.tup [(.str "fill"), (.str "a")]), (.tup [(.str "reckon"), (.str "-"), (.tup [(.str "fill"), (.str "b")]), (.tup [(.str "use"), (.tup [(.str "t"), (.tup [(.int (1))])])])])])])]), (.tup [(.str "hold"), (.tup [(.str "t"), (.tup [(.int (1)), (.int (2))])]), (.tup [(.str "amount"), (.int (5))]), (.tup [(.str "make"), (.tup [(.str "swap"), (.tup [(.int (1)), (.int (2))])]), (.tup [(.tup [(.str "amount"), (.int (2))]), (.tup [(.str "use"), (.tup [(.str "t"), (.tup [(.int (1)), (.int (2))])])])])])])]), (.int (41)), (.int (9))]), (.ref 9), (.tup [(.str "maker"), (.tup [(.str "swap"), (.tup [])]), (.tup [(.tup [(.tup [(.tup [(.str "any"), (.str "a")]), (.tup [(.str "any"), (.str "b")])]), (.tup [(.str "hold"), (.tup [(.str "t"), (.tup [])]), (.tup [(.str "fill"), (.str "a")]), (.tup [(.str "reckon"), (.str "-"), (.tup [(.str "fill"), (.str "b")]), (.tup [(.str "use"), (.tup [(.str "t"), (.tup [])])])])])])]), (.tup [(.str "hold"), (.tup [(.str "t"), (.tup [])]), (.tup [(.str "amount"), (.int (5))]), (.tup [(.str "make"), (.tup [(.str "swap"), (.tup [])]), (.tup [(.tup [(.str "amount"), (.int (2))]), (.tup [(.str "use"), (.tup [(.str "t"), (.tup [])])])])])])])])]
def S17 : Sg := [none, some (.ref 0), some (.tup [(.str "hold"), (.tup [(.str "x"), (.tup [])]), (.tup [(.str "amount"), (.int (1))]), (.tup [(.str "maker"), (.tup [(.str "m"), (.tup [])]), (.tup [(.tup [(.tup []), (.tup [(.str "use"), (.tup [(.str "x"), (.tup [])])])])]), (.tup [(.str "hold"), (.tup [(.str "x"), (.tup [])]), (.tup [(.str "amount"), (.int (2))]), (.tup [(.str "make"), (.tup [(.str "m"), (.tup [])]), (.tup [])])])])]), some (.tup [(.str "maker"), (.tup [(.str "swap"), (.tup [])]), (.tup [(.tup [(.tup [(.tup [(.str "any"), (.str "a")]), (.tup [(.str "any"), (.str "b")])]), (.tup [(.str "hold"), (.tup [(.str "t"), (.tup [])]), (.tup [(.str "fill"), (.str "a")]), (.tup [(.str "reckon"), (.str "-"), (.tup [(.str "fill"), (.str "b")]), (.tup [(.str "use"), (.tup [(.str "t"), (.tup [])])])])])])]), (.tup [(.str "hold"), (.tup [(.str "t"), (.tup [])]), (.tup [(.str "amount"), (.int (5))]), (.tup [(.str "make"), (.tup [(.str "swap"), (.tup [])]), (.tup [(.tup [(.str "amount"), (.int (2))]), (.tup [(.str "use"), (.tup [(.str "t"), (.tup [])])])])])])]), some (.tup [(.str "maker"), (.tup [(.str "bind"), (.tup [])]), (.tup [(.tup [(.tup [(.tup [(.str "name"), (.str "n")]), (.tup [(.str "any"), (.str "e")]), (.tup [(.str "any"), (.str "b")])]), (.tup [(.str "hold"), (.tup [(.str "fill"), (.str "n")]), (.tup [(.str "fill"), (.str "e")]), (.tup [(.str "fill"), (.str "b")])])])]), (.tup [(.str "make"), (.tup [(.str "bind"), (.tup [])]), (.tup [(.tup [(.str "use"), (.tup [(.str "y"), (.tup [])])]), (.tup [(.str "amount"), (.int (3))]), (.tup [(.str "reckon"), (.str "+"), (.tup [(.str "use"), (.tup [(.str "y"), (.tup [])])]), (.tup [(.str "use"), (.tup [(.str "y"), (.tup [])])])])])])]), some (.tup [(.str "hold"), (.tup [(.str "x"), (.tup [])]), (.tup [(.str "amount"), (.int (0))]), (.tup [(.str "maker"), (.tup [(.str "m"), (.tup [])]), (.tup [(.tup [(.tup [(.tup [(.str "name"), (.str "n")])]), (.tup [(.str "hold"), (.tup [(.str "fill"), (.str "n")]), (.tup [(.str "amount"), (.int (1))]), (.tup [(.str "use"), (.tup [(.str "x"), (.tup [])])])])])]), (.tup [(.str "make"), (.tup [(.str "m"), (.tup [])]), (.tup [(.tup [(.str "use"), (.tup [(.str "x"), (.tup [])])])])])])]), some (.ref 1), some (.ref 3), some (.ref 5), some (.ref 8), some (.tup [(.bl true), (.bl true), (.bl true)]), some (.tup [(.tup [(.bl true), (.bl true), (.bl true)]), (.tup [(.str "maker"), (.tup [(.str "swap"), (.tup [(.int (1))])]), (.tup [(.tup [(.tup [(.tup [(.str "any"), (.str "a")]), (.tup [(.str "any"), (.str "b")])]), (.tup [(.str "hold"), (.tup [(.str "t"), (.tup [(.int (1))])]), (.tup [(.str "fill"), (.str "a")]), (.tup [(.str "reckon"), (.str "-"), (.tup [(.str "fill"), (.str "b")]), (.tup [(.str "use"), (.tup [(.str "t"), (.tup [(.int (1))])])])])])])]), (.tup [(.str "hold"), (.tup [(.str "t"), (.tup [(.int (1)), (.int (2))])]), (.tup [(.str "amount"), (.int (5))]), (.tup [(.str "make"), (.tup [(.str "swap"), (.tup [(.int (1)), (.int (2))])]), (.tup [(.tup [(.str "amount"), (.int (2))]), (.tup [(.str "use"), (.tup [(.str "t"), (.tup [(.int (1)), (.int (2))])])])])])])]), (.int (0)), (.int (2))]), some (.ref 10), some (.str "1")]
def E17H : Hh := [(.cup 5), (.lst [.non, (.tup []), (.tup [(.str "use"), (.tup [(.str "x"), (.tup [(.int (2)), (.int (1))])])]), (.tup [(.str "use"), (.tup [(.str "x"), (.tup [(.int (0))])])]), (.tup [(.str "use"), (.tup [(.str "x"), (.tup [(.bl true)])])]), (.tup [(.str "fill"), (.str "x")]), (.str "use"), (.int (7))]), (.lst [(.str "amount"), (.int (1))]), (.lst [.non, (.tup []), (.tup [(.str "use"), (.tup [(.str "x"), (.tup [(.int (1))])])]), (.tup [(.str "given"), (.tup [(.str "x"), (.tup [(.int (2))])]), (.tup [(.str "amount"), (.int (1))])]), (.tup [(.str "fill"), (.str "x")]), (.ref 2), (.tup [(.str "amount")]), (.tup [(.str "maker"), (.tup [(.str "m"), (.tup [])]), (.tup [(.tup [(.tup [(.tup [(.str "word"), (.tup [(.str "x"), (.tup [(.int (1))])])])]), (.tup [(.str "amount"), (.int (1))])])]), (.tup [(.str "amount"), (.int (1))])])]), (.lst [(.bl true), (.bl true), (.bl true)]), (.lst [.non, (.tup []), (.tup [(.bl true), (.bl true)]), (.tup [(.bl true), (.bl true), (.int (1))]), (.ref 4), (.tup [(.bl true), (.bl true), (.bl true), (.bl true)]), (.bl true), (.tup [(.str "x"), (.bl true), (.bl true)])]), (.lst []), (.lst []), (.lst [.non, (.ref 6), (.str "x"), (.tup [(.int (1))]), (.tup [(.ref 7)]), (.tup [(.tup [(.bl true)])]), (.tup [(.tup [(.str "0")])]), (.tup [(.tup []), (.tup []), (.tup []), (.tup []), (.tup []), (.tup []), (.tup []), (.tup []), (.tup []), (.tup []), (.tup []), (.tup []), (.tup []), (.tup []), (.tup []), (.tup []), (.tup []), (.tup []), (.tup []), (.tup []), (.tup []), (.tup []), (.tup []), (.tup []), (.tup []), (.tup []), (.tup []), (.tup []), (.tup []), (.tup []), (.tup []), (.tup []), (.tup []), (.tup []), (.tup []), (.tup []), (.tup []), (.tup []), (.tup []), (.tup []), (.tup []), (.tup []), (.tup []), (.tup []), (.tup []), (.tup []), (.tup []), (.tup []), (.tup []), (.tup []), (.tup []), (.tup []), (.tup []), (.tup []), (.tup []), (.tup []), (.tup []), (.tup []), (.tup []), (.tup []), (.tup [])]), (.tup [(.tup [(.int (0))]), .non])]), (.lst [(.tup [(.bl true), (.bl true), (.bl true)]), (.tup [(.str "maker"), (.tup [(.str "swap"), (.tup [(.int (1))])]), (.tup [(.tup [(.tup [(.tup [(.str "any"), (.str "a")]), (.tup [(.str "any"), (.str "b")])]), (.tup [(.str "hold"), (.tup [(.str "t"), (.tup [(.int (1))])]), (.tup [(.str "fill"), (.str "a")]), (.tup [(.str "reckon"), (.str "-"), (.tup [(.str "fill"), (.str "b")]), (.tup [(.str "use"), (.tup [(.str "t"), (.tup [(.int (1))])])])])])])]), (.tup [(.str "hold"), (.tup [(.str "t"), (.tup [(.int (1)), (.int (2))])]), (.tup [(.str "amount"), (.int (5))]), (.tup [(.str "make"), (.tup [(.str "swap"), (.tup [(.int (1)), (.int (2))])]), (.tup [(.tup [(.str "amount"), (.int (2))]), (.tup [(.str "use"), (.tup [(.str "t"), (.tup [(.int (1)), (.int (2))])])])])])])]), (.int (0)), (.int (2))]), (.lst [.non, (.tup []), (.tup [(.tup [(.bl true), (.bl true), (.bl true)]), (.tup [(.str "maker"), (.tup [(.str "swap"), (.tup [(.int (1))])]), (.tup [(.tup [(.tup [(.tup [(.str "any"), (.str "a")]), (.tup [(.str "any"), (.str "b")])]), (.tup [(.str "hold"), (.tup [(.str "t"), (.tup [(.int (1))])]), (.tup [(.str "fill"), (.str "a")]), (.tup [(.str "reckon"), (.str "-"), (.tup [(.str "fill"), (.str "b")]), (.tup [(.str "use"), (.tup [(.str "t"), (.tup [(.int (1))])])])])])])]), (.tup [(.str "hold"), (.tup [(.str "t"), (.tup [(.int (1)), (.int (2))])]), (.tup [(.str "amount"), (.int (5))]), (.tup [(.str "make"), (.tup [(.str "swap"), (.tup [(.int (1)), (.int (2))])]), (.tup [(.tup [(.str "amount"), (.int (2))]), (.tup [(.str "use"), (.tup [(.str "t"), (.tup [(.int (1)), (.int (2))])])])])])])]), (.int (0))]), (.tup [(.tup [(.bl true), (.bl true), (.bl true)]), (.tup [(.str "maker"), (.tup [(.str "swap"), (.tup [(.int (1))])]), (.tup [(.tup [(.tup [(.tup [(.str "any"), (.str "a")]), (.tup [(.str "any"), (.str "b")])]), (.tup [(.str "hold"), (.tup [(.str "t"), (.tup [(.int (1))])]), (.tup [(.str "fill"), (.str "a")]), (.tup [(.str "reckon"), (.str "-"), (.tup [(.str "fill"), (.str "b")]), (.tup [(.str "use"), (.tup [(.str "t"), (.tup [(.int (1))])])])])])])]), (.tup [(.str "hold"), (.tup [(.str "t"), (.tup [(.int (1)), (.int (2))])]), (.tup [(.str "amount"), (.int (5))]), (.tup [(.str "make"), (.tup [(.str "swap"), (.tup [(.int (1)), (.int (2))])]), (.tup [(.tup [(.str "amount"), (.int (2))]), (.tup [(.str "use"), (.tup [(.str "t"), (.tup [(.int (1)), (.int (2))])])])])])])]), (.int (0)), (.int (2)), (.int (1))]), (.tup [.non, (.tup [(.str "maker"), (.tup [(.str "swap"), (.tup [(.int (1))])]), (.tup [(.tup [(.tup [(.tup [(.str "any"), (.str "a")]), (.tup [(.str "any"), (.str "b")])]), (.tup [(.str "hold"), (.tup [(.str "t"), (.tup [(.int (1))])]), (.tup [(.str "fill"), (.str "a")]), (.tup [(.str "reckon"), (.str "-"), (.tup [(.str "fill"), (.str "b")]), (.tup [(.str "use"), (.tup [(.str "t"), (.tup [(.int (1))])])])])])])]), (.tup [(.str "hold"), (.tup [(.str "t"), (.tup [(.int (1)), (.int (2))])]), (.tup [(.str "amount"), (.int (5))]), (.tup [(.str "make"), (.tup [(.str "swap"), (.tup [(.int (1)), (.int (2))])]), (.tup [(.tup [(.str "amount"), (.int (2))]), (.tup [(.str "use"), (.tup [(.str "t"), (.tup [(.int (1)), (.int (2))])])])])])])]), (.int (0)), (.int (2))]), (.tup [(.tup [(.bl true), (.bl true), (.bl true)]), (.tup [(.str "maker"), (.tup [(.str "swap"), (.tup [(.int (1))])]), (.tup [(.tup [(.tup [(.tup [(.str "any"), (.str "a")]), (.tup [(.str "any"), (.str "b")])]), (.tup [(.str "hold"), (.tup [(.str "t"), (.tup [(.int (1))])]), (.tup [(.str "fill"), (.str "a")]), (.tup [(.str "reckon"), (.str "-"), (.tup [(.str "fill"), (.str "b")]), (.tup [(.str "use"), (.tup [(.str "t"), (.tup [(.int (1))])])])])])])]), (.tup [(.str "hold"), (.tup [(.str "t"), (.tup [(.int (1)), (.int (2))])]), (.tup [(.str "amount"), (.int (5))]), (.tup [(.str "make"), (.tup [(.str "swap"), (.tup [(.int (1)), (.int (2))])]), (.tup [(.tup [(.str "amount"), (.int (2))]), (.tup [(.str "use"), (.tup [(.str "t"), (.tup [(.int (1)), (.int (2))])])])])])])]), (.int (0)), (.int (1))]), (.tup [(.tup [(.bl true), (.bl true), (.bl true)]), (.tup [(.str "maker"), (.tup [(.str "swap"), (.tup [(.int (1))])]), (.tup [(.tup [(.tup [(.tup [(.str "any"), (.str "a")]), (.tup [(.str "any"), (.str "b")])]), (.tup [(.str "hold"), (.tup [(.str "t"), (.tup [(.int (1))])]), (.tup [(.str "fill"), (.str "a")]), (.tup [(.str "reckon"), (.str "-"), (.tup [(.str "fill"), (.str "b")]), (.tup [(.str "use"), (.tup [(.str "t"), (.tup [(.int (1))])])])])])])]), (.tup [(.str "hold"), (.tup [(.str "t"), (.tup [(.int (1)), (.int (2))])]), (.tup [(.str "amount"), (.int (5))]), (.tup [(.str "make"), (.tup [(.str "swap"), (.tup [(.int (1)), (.int (2))])]), (.tup [(.tup [(.str "amount"), (.int (2))]), (.tup [(.str "use"), (.tup [(.str "t"), (.tup [(.int (1)), (.int (2))])])])])])])]), (.int (41)), (.int (9))]), (.ref 9), (.tup [(.str "maker"), (.tup [(.str "swap"), (.tup [])]), (.tup [(.tup [(.tup [(.tup [(.str "any"), (.str "a")]), (.tup [(.str "any"), (.str "b")])]), (.tup [(.str "hold"), (.tup [(.str "t"), (.tup [])]), (.tup [(.str "fill"), (.str "a")]), (.tup [(.str "reckon"), (.str "-"), (.tup [(.str "fill"), (.str "b")]), (.tup [(.str "use"), (.tup [(.str "t"), (.tup [])])])])])])]), (.tup [(.str "hold"), (.tup [(.str "t"), (.tup [])]), (.tup [(.str "amount"), (.int (5))]), (.tup [(.str "make"), (.tup [(.str "swap"), (.tup [])]), (.tup [(.tup [(.str "amount"), (.int (2))]), (.tup [(.str "use"), (.tup [(.str "t"), (.tup [])])])])])])])])]
def S18 : Sg := [none, some (.ref 0), some (.tup [(.str "hold"), (.tup [(.str "x"), (.tup [])]), (.tup [(.str "amount"), (.int (1))]), (.tup [(.str "maker"), (.tup [(.str "m"), (.tup [])]), (.tup [(.tup [(.tup []), (.tup [(.str "use"), (.tup [(.str "x"), (.tup [])])])])]), (.tup [(.str "hold"), (.tup [(.str "x"), (.tup [])]), (.tup [(.str "amount"), (.int (2))]), (.tup [(.str "make"), (.tup [(.str "m"), (.tup [])]), (.tup [])])])])]), some (.tup [(.str "maker"), (.tup [(.str "swap"), (.tup [])]), (.tup [(.tup [(.tup [(.tup [(.str "any"), (.str "a")]), (.tup [(.str "any"), (.str "b")])]), (.tup [(.str "hold"), (.tup [(.str "t"), (.tup [])]), (.tup [(.str "fill"), (.str "a")]), (.tup [(.str "reckon"), (.str "-"), (.tup [(.str "fill"), (.str "b")]), (.tup [(.str "use"), (.tup [(.str "t"), (.tup [])])])])])])]), (.tup [(.str "hold"), (.tup [(.str "t"), (.tup [])]), (.tup [(.str "amount"), (.int (5))]), (.tup [(.str "make"), (.tup [(.str "swap"), (.tup [])]), (.tup [(.tup [(.str "amount"), (.int (2))]), (.tup [(.str "use"), (.tup [(.str "t"), (.tup [])])])])])])]), some (.tup [(.str "maker"), (.tup [(.str "bind"), (.tup [])]), (.tup [(.tup [(.tup [(.tup [(.str "name"), (.str "n")]), (.tup [(.str "any"), (.str "e")]), (.tup [(.str "any"), (.str "b")])]), (.tup [(.str "hold"), (.tup [(.str "fill"), (.str "n")]), (.tup [(.str "fill"), (.str "e")]), (.tup [(.str "fill"), (.str "b")])])])]), (.tup [(.str "make"), (.tup [(.str "bind"), (.tup [])]), (.tup [(.tup [(.str "use"), (.tup [(.str "y"), (.tup [])])]), (.tup [(.str "amount"), (.int (3))]), (.tup [(.str "reckon"), (.str "+"), (.tup [(.str "use"), (.tup [(.str "y"), (.tup [])])]), (.tup [(.str "use"), (.tup [(.str "y"), (.tup [])])])])])])]), some (.tup [(.str "hold"), (.tup [(.str "x"), (.tup [])]), (.tup [(.str "amount"), (.int (0))]), (.tup [(.str "maker"), (.tup [(.str "m"), (.tup [])]), (.tup [(.tup [(.tup [(.tup [(.str "name"), (.str "n")])]), (.tup [(.str "hold"), (.tup [(.str "fill"), (.str "n")]), (.tup [(.str "amount"), (.int (1))]), (.tup [(.str "use"), (.tup [(.str "x"), (.tup [])])])])])]), (.tup [(.str "make"), (.tup [(.str "m"), (.tup [])]), (.tup [(.tup [(.str "use"), (.tup [(.str "x"), (.tup [])])])])])])]), some (.ref 1), some (.ref 3), some (.ref 5), some (.ref 8), some (.tup [(.bl true), (.bl true), (.bl true)]), some (.tup [(.tup [(.bl true), (.bl true), (.bl true)]), (.tup [(.str "maker"), (.tup [(.str "swap"), (.tup [(.int (1))])]), (.tup [(.tup [(.tup [(.tup [(.str "any"), (.str "a")]), (.tup [(.str "any"), (.str "b")])]), (.tup [(.str "hold"), (.tup [(.str "t"), (.tup [(.int (1))])]), (.tup [(.str "fill"), (.str "a")]), (.tup [(.str "reckon"), (.str "-"), (.tup [(.str "fill"), (.str "b")]), (.tup [(.str "use"), (.tup [(.str "t"), (.tup [(.int (1))])])])])])])]), (.tup [(.str "hold"), (.tup [(.str "t"), (.tup [(.int (1)), (.int (2))])]), (.tup [(.str "amount"), (.int (5))]), (.tup [(.str "make"), (.tup [(.str "swap"), (.tup [(.int (1)), (.int (2))])]), (.tup [(.tup [(.str "amount"), (.int (2))]), (.tup [(.str "use"), (.tup [(.str "t"), (.tup [(.int (1)), (.int (2))])])])])])])]), (.int (0)), (.int (2))]), some (.ref 10), some (.tup [(.str "x"), (.tup [(.int (1000001))])])]
def E18H : Hh := [(.cup 5), (.lst [.non, (.tup []), (.tup [(.str "use"), (.tup [(.str "x"), (.tup [(.int (2)), (.int (1))])])]), (.tup [(.str "use"), (.tup [(.str "x"), (.tup [(.int (0))])])]), (.tup [(.str "use"), (.tup [(.str "x"), (.tup [(.bl true)])])]), (.tup [(.str "fill"), (.str "x")]), (.str "use"), (.int (7))]), (.lst [(.str "amount"), (.int (1))]), (.lst [.non, (.tup []), (.tup [(.str "use"), (.tup [(.str "x"), (.tup [(.int (1))])])]), (.tup [(.str "given"), (.tup [(.str "x"), (.tup [(.int (2))])]), (.tup [(.str "amount"), (.int (1))])]), (.tup [(.str "fill"), (.str "x")]), (.ref 2), (.tup [(.str "amount")]), (.tup [(.str "maker"), (.tup [(.str "m"), (.tup [])]), (.tup [(.tup [(.tup [(.tup [(.str "word"), (.tup [(.str "x"), (.tup [(.int (1))])])])]), (.tup [(.str "amount"), (.int (1))])])]), (.tup [(.str "amount"), (.int (1))])])]), (.lst [(.bl true), (.bl true), (.bl true)]), (.lst [.non, (.tup []), (.tup [(.bl true), (.bl true)]), (.tup [(.bl true), (.bl true), (.int (1))]), (.ref 4), (.tup [(.bl true), (.bl true), (.bl true), (.bl true)]), (.bl true), (.tup [(.str "x"), (.bl true), (.bl true)])]), (.lst []), (.lst []), (.lst [.non, (.ref 6), (.str "x"), (.tup [(.int (1))]), (.tup [(.ref 7)]), (.tup [(.tup [(.bl true)])]), (.tup [(.tup [(.str "0")])]), (.tup [(.tup []), (.tup []), (.tup []), (.tup []), (.tup []), (.tup []), (.tup []), (.tup []), (.tup []), (.tup []), (.tup []), (.tup []), (.tup []), (.tup []), (.tup []), (.tup []), (.tup []), (.tup []), (.tup []), (.tup []), (.tup []), (.tup []), (.tup []), (.tup []), (.tup []), (.tup []), (.tup []), (.tup []), (.tup []), (.tup []), (.tup []), (.tup []), (.tup []), (.tup []), (.tup []), (.tup []), (.tup []), (.tup []), (.tup []), (.tup []), (.tup []), (.tup []), (.tup []), (.tup []), (.tup []), (.tup []), (.tup []), (.tup []), (.tup []), (.tup []), (.tup []), (.tup []), (.tup []), (.tup []), (.tup []), (.tup []), (.tup []), (.tup []), (.tup []), (.tup []), (.tup [])]), (.tup [(.tup [(.int (0))]), .non])]), (.lst [(.tup [(.bl true), (.bl true), (.bl true)]), (.tup [(.str "maker"), (.tup [(.str "swap"), (.tup [(.int (1))])]), (.tup [(.tup [(.tup [(.tup [(.str "any"), (.str "a")]), (.tup [(.str "any"), (.str "b")])]), (.tup [(.str "hold"), (.tup [(.str "t"), (.tup [(.int (1))])]), (.tup [(.str "fill"), (.str "a")]), (.tup [(.str "reckon"), (.str "-"), (.tup [(.str "fill"), (.str "b")]), (.tup [(.str "use"), (.tup [(.str "t"), (.tup [(.int (1))])])])])])])]), (.tup [(.str "hold"), (.tup [(.str "t"), (.tup [(.int (1)), (.int (2))])]), (.tup [(.str "amount"), (.int (5))]), (.tup [(.str "make"), (.tup [(.str "swap"), (.tup [(.int (1)), (.int (2))])]), (.tup [(.tup [(.str "amount"), (.int (2))]), (.tup [(.str "use"), (.tup [(.str "t"), (.tup [(.int (1)), (.int (2))])])])])])])]), (.int (0)), (.int (2))]), (.lst [.non, (.tup []), (.tup [(.tup [(.bl true), (.bl true), (.bl true)]), (.tup [(.str "maker"), (.tup [(.str "swap"), (.tup [(.int (1))])]), (.tup [(.tup [(.tup [(.tup [(.str "any"), (.str "a")]), (.tup [(.str "any"), (.str "b")])]), (.tup [(.str "hold"), (.tup [(.str "t"), (.tup [(.int (1))])]), (.tup [(.str "fill"), (.str "a")]), (.tup [(.str "reckon"), (.str "-"), (.tup [(.str "fill"), (.str "b")]), (.tup [(.str "use"), (.tup [(.str "t"), (.tup [(.int (1))])])])])])])]), (.tup [(.str "hold"), (.tup [(.str "t"), (.tup [(.int (1)), (.int (2))])]), (.tup [(.str "amount"), (.int (5))]), (.tup [(.str "make"), (.tup [(.str "swap"), (.tup [(.int (1)), (.int (2))])]), (.tup [(.tup [(.str "amount"), (.int (2))]), (.tup [(.str "use"), (.tup [(.str "t"), (.tup [(.int (1)), (.int (2))])])])])])])]), (.int (0))]), (.tup [(.tup [(.bl true), (.bl true), (.bl true)]), (.tup [(.str "maker"), (.tup [(.str "swap"), (.tup [(.int (1))])]), (.tup [(.tup [(.tup [(.tup [(.str "any"), (.str "a")]), (.tup [(.str "any"), (.str "b")])]), (.tup [(.str "hold"), (.tup [(.str "t"), (.tup [(.int (1))])]), (.tup [(.str "fill"), (.str "a")]), (.tup [(.str "reckon"), (.str "-"), (.tup [(.str "fill"), (.str "b")]), (.tup [(.str "use"), (.tup [(.str "t"), (.tup [(.int (1))])])])])])])]), (.tup [(.str "hold"), (.tup [(.str "t"), (.tup [(.int (1)), (.int (2))])]), (.tup [(.str "amount"), (.int (5))]), (.tup [(.str "make"), (.tup [(.str "swap"), (.tup [(.int (1)), (.int (2))])]), (.tup [(.tup [(.str "amount"), (.int (2))]), (.tup [(.str "use"), (.tup [(.str "t"), (.tup [(.int (1)), (.int (2))])])])])])])]), (.int (0)), (.int (2)), (.int (1))]), (.tup [.non, (.tup [(.str "maker"), (.tup [(.str "swap"), (.tup [(.int (1))])]), (.tup [(.tup [(.tup [(.tup [(.str "any"), (.str "a")]), (.tup [(.str "any"), (.str "b")])]), (.tup [(.str "hold"), (.tup [(.str "t"), (.tup [(.int (1))])]), (.tup [(.str "fill"), (.str "a")]), (.tup [(.str "reckon"), (.str "-"), (.tup [(.str "fill"), (.str "b")]), (.tup [(.str "use"), (.tup [(.str "t"), (.tup [(.int (1))])])])])])])]), (.tup [(.str "hold"), (.tup [(.str "t"), (.tup [(.int (1)), (.int (2))])]), (.tup [(.str "amount"), (.int (5))]), (.tup [(.str "make"), (.tup [(.str "swap"), (.tup [(.int (1)), (.int (2))])]), (.tup [(.tup [(.str "amount"), (.int (2))]), (.tup [(.str "use"), (.tup [(.str "t"), (.tup [(.int (1)), (.int (2))])])])])])])]), (.int (0)), (.int (2))]), (.tup [(.tup [(.bl true), (.bl true), (.bl true)]), (.tup [(.str "maker"), (.tup [(.str "swap"), (.tup [(.int (1))])]), (.tup [(.tup [(.tup [(.tup [(.str "any"), (.str "a")]), (.tup [(.str "any"), (.str "b")])]), (.tup [(.str "hold"), (.tup [(.str "t"), (.tup [(.int (1))])]), (.tup [(.str "fill"), (.str "a")]), (.tup [(.str "reckon"), (.str "-"), (.tup [(.str "fill"), (.str "b")]), (.tup [(.str "use"), (.tup [(.str "t"), (.tup [(.int (1))])])])])])])]), (.tup [(.str "hold"), (.tup [(.str "t"), (.tup [(.int (1)), (.int (2))])]), (.tup [(.str "amount"), (.int (5))]), (.tup [(.str "make"), (.tup [(.str "swap"), (.tup [(.int (1)), (.int (2))])]), (.tup [(.tup [(.str "amount"), (.int (2))]), (.tup [(.str "use"), (.tup [(.str "t"), (.tup [(.int (1)), (.int (2))])])])])])])]), (.int (0)), (.int (1))]), (.tup [(.tup [(.bl true), (.bl true), (.bl true)]), (.tup [(.str "maker"), (.tup [(.str "swap"), (.tup [(.int (1))])]), (.tup [(.tup [(.tup [(.tup [(.str "any"), (.str "a")]), (.tup [(.str "any"), (.str "b")])]), (.tup [(.str "hold"), (.tup [(.str "t"), (.tup [(.int (1))])]), (.tup [(.str "fill"), (.str "a")]), (.tup [(.str "reckon"), (.str "-"), (.tup [(.str "fill"), (.str "b")]), (.tup [(.str "use"), (.tup [(.str "t"), (.tup [(.int (1))])])])])])])]), (.tup [(.str "hold"), (.tup [(.str "t"), (.tup [(.int (1)), (.int (2))])]), (.tup [(.str "amount"), (.int (5))]), (.tup [(.str "make"), (.tup [(.str "swap"), (.tup [(.int (1)), (.int (2))])]), (.tup [(.tup [(.str "amount"), (.int (2))]), (.tup [(.str "use"), (.tup [(.str "t"), (.tup [(.int (1)), (.int (2))])])])])])])]), (.int (41)), (.int (9))]), (.ref 9), (.tup [(.str "maker"), (.tup [(.str "swap"), (.tup [])]), (.tup [(.tup [(.tup [(.tup [(.str "any"), (.str "a")]), (.tup [(.str "any"), (.str "b")])]), (.tup [(.str "hold"), (.tup [(.str "t"), (.tup [])]), (.tup [(.str "fill"), (.str "a")]), (.tup [(.str "reckon"), (.str "-"), (.tup [(.str "fill"), (.str "b")]), (.tup [(.str "use"), (.tup [(.str "t"), (.tup [])])])])])])]), (.tup [(.str "hold"), (.tup [(.str "t"), (.tup [])]), (.tup [(.str "amount"), (.int (5))]), (.tup [(.str "make"), (.tup [(.str "swap"), (.tup [])]), (.tup [(.tup [(.str "amount"), (.int (2))]), (.tup [(.str "use"), (.tup [(.str "t"), (.tup [])])])])])])])])]
def S19 : Sg := [none, some (.ref 0), some (.tup [(.str "hold"), (.tup [(.str "x"), (.tup [])]), (.tup [(.str "amount"), (.int (1))]), (.tup [(.str "maker"), (.tup [(.str "m"), (.tup [])]), (.tup [(.tup [(.tup []), (.tup [(.str "use"), (.tup [(.str "x"), (.tup [])])])])]), (.tup [(.str "hold"), (.tup [(.str "x"), (.tup [])]), (.tup [(.str "amount"), (.int (2))]), (.tup [(.str "make"), (.tup [(.str "m"), (.tup [])]), (.tup [])])])])]), some (.tup [(.str "maker"), (.tup [(.str "swap"), (.tup [])]), (.tup [(.tup [(.tup [(.tup [(.str "any"), (.str "a")]), (.tup [(.str "any"), (.str "b")])]), (.tup [(.str "hold"), (.tup [(.str "t"), (.tup [])]), (.tup [(.str "fill"), (.str "a")]), (.tup [(.str "reckon"), (.str "-"), (.tup [(.str "fill"), (.str "b")]), (.tup [(.str "use"), (.tup [(.str "t"), (.tup [])])])])])])]), (.tup [(.str "hold"), (.tup [(.str "t"), (.tup [])]), (.tup [(.str "amount"), (.int (5))]), (.tup [(.str "make"), (.tup [(.str "swap"), (.tup [])]), (.tup [(.tup [(.str "amount"), (.int (2))]), (.tup [(.str "use"), (.tup [(.str "t"), (.tup [])])])])])])]), some (.tup [(.str "maker"), (.tup [(.str "bind"), (.tup [])]), (.tup [(.tup [(.tup [(.tup [(.str "name"), (.str "n")]), (.tup [(.str "any"), (.str "e")]), (.tup [(.str "any"), (.str "b")])]), (.tup [(.str "hold"), (.tup [(.str "fill"), (.str "n")]), (.tup [(.str "fill"), (.str "e")]), (.tup [(.str "fill"), (.str "b")])])])]), (.tup [(.str "make"), (.tup [(.str "bind"), (.tup [])]), (.tup [(.tup [(.str "use"), (.tup [(.str "y"), (.tup [])])]), (.tup [(.str "amount"), (.int (3))]), (.tup [(.str "reckon"), (.str "+"), (.tup [(.str "use"), (.tup [(.str "y"), (.tup [])])]), (.tup [(.str "use"), (.tup [(.str "y"), (.tup [])])])])])])]), some (.tup [(.str "hold"), (.tup [(.str "x"), (.tup [])]), (.tup [(.str "amount"), (.int (0))]), (.tup [(.str "maker"), (.tup [(.str "m"), (.tup [])]), (.tup [(.tup [(.tup [(.tup [(.str "name"), (.str "n")])]), (.tup [(.str "hold"), (.tup [(.str "fill"), (.str "n")]), (.tup [(.str "amount"), (.int (1))]), (.tup [(.str "use"), (.tup [(.str "x"), (.tup [])])])])])]), (.tup [(.str "make"), (.tup [(.str "m"), (.tup [])]), (.tup [(.tup [(.str "use"), (.tup [(.str "x"), (.tup [])])])])])])]), some (.ref 1), some (.ref 3), some (.ref 5), some (.ref 8), some (.tup [(.bl true), (.bl true), (.bl true)]), some (.tup [(.tup [(.bl true), (.bl true), (.bl true)]), (.tup [(.str "maker"), (.tup [(.str "swap"), (.tup [(.int (1))])]), (.tup [(.tup [(.tup [(.tup [(.str "any"), (.str "a")]), (.tup [(.str "any"), (.str "b")])]), (.tup [(.str "hold"), (.tup [(.str "t"), (.tup [(.int (1))])]), (.tup [(.str "fill"), (.str "a")]), (.tup [(.str "reckon"), (.str "-"), (.tup [(.str "fill"), (.str "b")]), (.tup [(.str "use"), (.tup [(.str "t"), (.tup [(.int (1))])])])])])])]), (.tup [(.str "hold"), (.tup [(.str "t"), (.tup [(.int (1)), (.int (2))])]), (.tup [(.str "amount"), (.int (5))]), (.tup [(.str "make"), (.tup [(.str "swap"), (.tup [(.int (1)), (.int (2))])]), (.tup [(.tup [(.str "amount"), (.int (2))]), (.tup [(.str "use"), (.tup [(.str "t"), (.tup [(.int (1)), (.int (2))])])])])])])]), (.int (0)), (.int (2))]), some (.ref 10), some (.tup [(.str "x"), (.tup [(.int (1000001))])])]
def E19H : Hh := [(.cup 5), (.lst [.non, (.tup []), (.tup [(.str "use"), (.tup [(.str "x"), (.tup [(.int (2)), (.int (1))])])]), (.tup [(.str "use"), (.tup [(.str "x"), (.tup [(.int (0))])])]), (.tup [(.str "use"), (.tup [(.str "x"), (.tup [(.bl true)])])]), (.tup [(.str "fill"), (.str "x")]), (.str "use"), (.int (7))]), (.lst [(.str "amount"), (.int (1))]), (.lst [.non, (.tup []), (.tup [(.str "use"), (.tup [(.str "x"), (.tup [(.int (1))])])]), (.tup [(.str "given"), (.tup [(.str "x"), (.tup [(.int (2))])]), (.tup [(.str "amount"), (.int (1))])]), (.tup [(.str "fill"), (.str "x")]), (.ref 2), (.tup [(.str "amount")]), (.tup [(.str "maker"), (.tup [(.str "m"), (.tup [])]), (.tup [(.tup [(.tup [(.tup [(.str "word"), (.tup [(.str "x"), (.tup [(.int (1))])])])]), (.tup [(.str "amount"), (.int (1))])])]), (.tup [(.str "amount"), (.int (1))])])]), (.lst [(.bl true), (.bl true), (.bl true)]), (.lst [.non, (.tup []), (.tup [(.bl true), (.bl true)]), (.tup [(.bl true), (.bl true), (.int (1))]), (.ref 4), (.tup [(.bl true), (.bl true), (.bl true), (.bl true)]), (.bl true), (.tup [(.str "x"), (.bl true), (.bl true)])]), (.lst []), (.lst []), (.lst [.non, (.ref 6), (.str "x"), (.tup [(.int (1))]), (.tup [(.ref 7)]), (.tup [(.tup [(.bl true)])]), (.tup [(.tup [(.str "0")])]), (.tup [(.tup []), (.tup []), (.tup []), (.tup []), (.tup []), (.tup []), (.tup []), (.tup []), (.tup []), (.tup []), (.tup []), (.tup []), (.tup []), (.tup []), (.tup []), (.tup []), (.tup []), (.tup []), (.tup []), (.tup []), (.tup []), (.tup []), (.tup []), (.tup []), (.tup []), (.tup []), (.tup []), (.tup []), (.tup []), (.tup []), (.tup []), (.tup []), (.tup []), (.tup []), (.tup []), (.tup []), (.tup []), (.tup []), (.tup []), (.tup []), (.tup []), (.tup []), (.tup []), (.tup []), (.tup []), (.tup []), (.tup []), (.tup []), (.tup []), (.tup []), (.tup []), (.tup []), (.tup []), (.tup []), (.tup []), (.tup []), (.tup []), (.tup []), (.tup []), (.tup []), (.tup [])]), (.tup [(.tup [(.int (0))]), .non])]), (.lst [(.tup [(.bl true), (.bl true), (.bl true)]), (.tup [(.str "maker"), (.tup [(.str "swap"), (.tup [(.int (1))])]), (.tup [(.tup [(.tup [(.tup [(.str "any"), (.str "a")]), (.tup [(.str "any"), (.str "b")])]), (.tup [(.str "hold"), (.tup [(.str "t"), (.tup [(.int (1))])]), (.tup [(.str "fill"), (.str "a")]), (.tup [(.str "reckon"), (.str "-"), (.tup [(.str "fill"), (.str "b")]), (.tup [(.str "use"), (.tup [(.str "t"), (.tup [(.int (1))])])])])])])]), (.tup [(.str "hold"), (.tup [(.str "t"), (.tup [(.int (1)), (.int (2))])]), (.tup [(.str "amount"), (.int (5))]), (.tup [(.str "make"), (.tup [(.str "swap"), (.tup [(.int (1)), (.int (2))])]), (.tup [(.tup [(.str "amount"), (.int (2))]), (.tup [(.str "use"), (.tup [(.str "t"), (.tup [(.int (1)), (.int (2))])])])])])])]), (.int (0)), (.int (2))]), (.lst [.non, (.tup []), (.tup [(.tup [(.bl true), (.bl true), (.bl true)]), (.tup [(.str "maker"), (.tup [(.str "swap"), (.tup [(.int (1))])]), (.tup [(.tup [(.tup [(.tup [(.str "any"), (.str "a")]), (.tup [(.str "any"), (.str "b")])]), (.tup [(.str "hold"), (.tup [(.str "t"), (.tup [(.int (1))])]), (.tup [(.str "fill"), (.str "a")]), (.tup [(.str "reckon"), (.str "-"), (.tup [(.str "fill"), (.str "b")]), (.tup [(.str "use"), (.tup [(.str "t"), (.tup [(.int (1))])])])])])])]), (.tup [(.str "hold"), (.tup [(.str "t"), (.tup [(.int (1)), (.int (2))])]), (.tup [(.str "amount"), (.int (5))]), (.tup [(.str "make"), (.tup [(.str "swap"), (.tup [(.int (1)), (.int (2))])]), (.tup [(.tup [(.str "amount"), (.int (2))]), (.tup [(.str "use"), (.tup [(.str "t"), (.tup [(.int (1)), (.int (2))])])])])])])]), (.int (0))]), (.tup [(.tup [(.bl true), (.bl true), (.bl true)]), (.tup [(.str "maker"), (.tup [(.str "swap"), (.tup [(.int (1))])]), (.tup [(.tup [(.tup [(.tup [(.str "any"), (.str "a")]), (.tup [(.str "any"), (.str "b")])]), (.tup [(.str "hold"), (.tup [(.str "t"), (.tup [(.int (1))])]), (.tup [(.str "fill"), (.str "a")]), (.tup [(.str "reckon"), (.str "-"), (.tup [(.str "fill"), (.str "b")]), (.tup [(.str "use"), (.tup [(.str "t"), (.tup [(.int (1))])])])])])])]), (.tup [(.str "hold"), (.tup [(.str "t"), (.tup [(.int (1)), (.int (2))])]), (.tup [(.str "amount"), (.int (5))]), (.tup [(.str "make"), (.tup [(.str "swap"), (.tup [(.int (1)), (.int (2))])]), (.tup [(.tup [(.str "amount"), (.int (2))]), (.tup [(.str "use"), (.tup [(.str "t"), (.tup [(.int (1)), (.int (2))])])])])])])]), (.int (0)), (.int (2)), (.int (1))]), (.tup [.non, (.tup [(.str "maker"), (.tup [(.str "swap"), (.tup [(.int (1))])]), (.tup [(.tup [(.tup [(.tup [(.str "any"), (.str "a")]), (.tup [(.str "any"), (.str "b")])]), (.tup [(.str "hold"), (.tup [(.str "t"), (.tup [(.int (1))])]), (.tup [(.str "fill"), (.str "a")]), (.tup [(.str "reckon"), (.str "-"), (.tup [(.str "fill"), (.str "b")]), (.tup [(.str "use"), (.tup [(.str "t"), (.tup [(.int (1))])])])])])])]), (.tup [(.str "hold"), (.tup [(.str "t"), (.tup [(.int (1)), (.int (2))])]), (.tup [(.str "amount"), (.int (5))]), (.tup [(.str "make"), (.tup [(.str "swap"), (.tup [(.int (1)), (.int (2))])]), (.tup [(.tup [(.str "amount"), (.int (2))]), (.tup [(.str "use"), (.tup [(.str "t"), (.tup [(.int (1)), (.int (2))])])])])])])]), (.int (0)), (.int (2))]), (.tup [(.tup [(.bl true), (.bl true), (.bl true)]), (.tup [(.str "maker"), (.tup [(.str "swap"), (.tup [(.int (1))])]), (.tup [(.tup [(.tup [(.tup [(.str "any"), (.str "a")]), (.tup [(.str "any"), (.str "b")])]), (.tup [(.str "hold"), (.tup [(.str "t"), (.tup [(.int (1))])]), (.tup [(.str "fill"), (.str "a")]), (.tup [(.str "reckon"), (.str "-"), (.tup [(.str "fill"), (.str "b")]), (.tup [(.str "use"), (.tup [(.str "t"), (.tup [(.int (1))])])])])])])]), (.tup [(.str "hold"), (.tup [(.str "t"), (.tup [(.int (1)), (.int (2))])]), (.tup [(.str "amount"), (.int (5))]), (.tup [(.str "make"), (.tup [(.str "swap"), (.tup [(.int (1)), (.int (2))])]), (.tup [(.tup [(.str "amount"), (.int (2))]), (.tup [(.str "use"), (.tup [(.str "t"), (.tup [(.int (1)), (.int (2))])])])])])])]), (.int (0)), (.int (1))]), (.tup [(.tup [(.bl true), (.bl true), (.bl true)]), (.tup [(.str "maker"), (.tup [(.str "swap"), (.tup [(.int (1))])]), (.tup [(.tup [(.tup [(.tup [(.str "any"), (.str "a")]), (.tup [(.str "any"), (.str "b")])]), (.tup [(.str "hold"), (.tup [(.str "t"), (.tup [(.int (1))])]), (.tup [(.str "fill"), (.str "a")]), (.tup [(.str "reckon"), (.str "-"), (.tup [(.str "fill"), (.str "b")]), (.tup [(.str "use"), (.tup [(.str "t"), (.tup [(.int (1))])])])])])])]), (.tup [(.str "hold"), (.tup [(.str "t"), (.tup [(.int (1)), (.int (2))])]), (.tup [(.str "amount"), (.int (5))]), (.tup [(.str "make"), (.tup [(.str "swap"), (.tup [(.int (1)), (.int (2))])]), (.tup [(.tup [(.str "amount"), (.int (2))]), (.tup [(.str "use"), (.tup [(.str "t"), (.tup [(.int (1)), (.int (2))])])])])])])]), (.int (41)), (.int (9))]), (.ref 9), (.tup [(.str "maker"), (.tup [(.str "swap"), (.tup [])]), (.tup [(.tup [(.tup [(.tup [(.str "any"), (.str "a")]), (.tup [(.str "any"), (.str "b")])]), (.tup [(.str "hold"), (.tup [(.str "t"), (.tup [])]), (.tup [(.str "fill"), (.str "a")]), (.tup [(.str "reckon"), (.str "-"), (.tup [(.str "fill"), (.str "b")]), (.tup [(.str "use"), (.tup [(.str "t"), (.tup [])])])])])])]), (.tup [(.str "hold"), (.tup [(.str "t"), (.tup [])]), (.tup [(.str "amount"), (.int (5))]), (.tup [(.str "make"), (.tup [(.str "swap"), (.tup [])]), (.tup [(.tup [(.str "amount"), (.int (2))]), (.tup [(.str "use"), (.tup [(.str "t"), (.tup [])])])])])])])])]
end G

set_option Elab.async false
set_option linter.all false
set_option maxRecDepth 100000
set_option maxHeartbeats 0
namespace G
open PySem L2 PySem.Spec PyProof.Rows
def L16 : List W := [.non, (.tup []), (.tup [(.int (9))]), (.tup [(.int (1))]), (.tup [(.int (0)), (.int (1))]), (.tup [(.int (1)), (.int (1)), (.int (0))]), (.ref 11), (.tup [(.int (1)), (.bl true)]), (.tup [(.int (1)), (.int (-1))])]
def E16a : Hh := [(.cup 5), (.lst [.non, (.tup []), (.tup [(.str "use"), (.tup [(.str "x"), (.tup [(.int (2)), (.int (1))])])]), (.tup [(.str "use"), (.tup [(.str "x"), (.tup [(.int (0))])])]), (.tup [(.str "use"), (.tup [(.str "x"), (.tup [(.bl true)])])]), (.tup [(.str "fill"), (.str "x")]), (.str "use"), (.int (7))]), (.lst [(.str "amount"), (.int (1))]), (.lst [.non, (.tup []), (.tup [(.str "use"), (.tup [(.str "x"), (.tup [(.int (1))])])]), (.tup [(.str "given"), (.tup [(.str "x"), (.tup [(.int (2))])]), (.tup [(.str "amount"), (.int (1))])]), (.tup [(.str "fill"), (.str "x")]), (.ref 2), (.tup [(.str "amount")]), (.tup [(.str "maker"), (.tup [(.str "m"), (.tup [])]), (.tup [(.tup [(.tup [(.tup [(.str "word"), (.tup [(.str "x"), (.tup [(.int (1))])])])]), (.tup [(.str "amount"), (.int (1))])])]), (.tup [(.str "amount"), (.int (1))])])]), (.lst [(.bl true), (.bl true), (.bl true)]), (.lst [.non, (.tup []), (.tup [(.bl true), (.bl true)]), (.tup [(.bl true), (.bl true), (.int (1))]), (.ref 4), (.tup [(.bl true), (.bl true), (.bl true), (.bl true)]), (.bl true), (.tup [(.str "x"), (.bl true), (.bl true)])]), (.lst []), (.lst []), (.lst [.non, (.ref 6), (.str "x"), (.tup [(.int (1))]), (.tup [(.ref 7)]), (.tup [(.tup [(.bl true)])]), (.tup [(.tup [(.str "0")])]), (.tup [(.tup []), (.tup []), (.tup []), (.tup []), (.tup []), (.tup []), (.tup []), (.tup []), (.tup []), (.tup []), (.tup []), (.tup []), (.tup []), (.tup []), (.tup []), (.tup []), (.tup []), (.tup []), (.tup []), (.tup []), (.tup []), (.tup []), (.tup []), (.tup []), (.tup []), (.tup []), (.tup []), (.tup []), (.tup []), (.tup []), (.tup []), (.tup []), (.tup []), (.tup []), (.tup []), (.tup []), (.tup []), (.tup []), (.tup []), (.tup []), (.tup []), (.tup []), (.tup []), (.tup []), (.tup []), (.tup []), (.tup []), (.tup []), (.tup []), (.tup []), (.tup []), (.tup []), (.tup []), (.tup []), (.tup []), (.tup []), (.tup []), (.tup []), (.tup []), (.tup []), (.tup [])]), (.tup [(.tup [(.int (0))]), .non])]), (.lst [(.tup [(.bl true), (.bl true), (.bl true)]), (.tup [(.str "maker"), (.tup [(.str "swap"), (.tup [(.int (1))])]), (.tup [(.tup [(.tup [(.tup [(.str "any"), (.str "a")]), (.tup [(.str "any"), (.str "b")])]), (.tup [(.str "hold"), (.tup [(.str "t"), (.tup [(.int (1))])]), (.tup [(.str "fill"), (.str "a")]), (.tup [(.str "reckon"), (.str "-"), (.tup [(.str "fill"), (.str "b")]), (.tup [(.str "use"), (.tup [(.str "t"), (.tup [(.int (1))])])])])])])]), (.tup [(.str "hold"), (.tup [(.str "t"), (.tup [(.int (1)), (.int (2))])]), (.tup [(.str "amount"), (.int (5))]), (.tup [(.str "make"), (.tup [(.str "swap"), (.tup [(.int (1)), (.int (2))])]), (.tup [(.tup [(.str "amount"), (.int (2))]), (.tup [(.str "use"), (.tup [(.str "t"), (.tup [(.int (1)), (.int (2))])])])])])])]), (.int (0)), (.int (2))]), (.lst [.non, (.tup []), (.tup [(.tup [(.bl true), (.bl true), (.bl true)]), (.tup [(.str "maker"), (.tup [(.str "swap"), (.tup [(.int (1))])]), (.tup [(.tup [(.tup [(.tup [(.str "any"), (.str "a")]), (.tup [(.str "any"), (.str "b")])]), (.tup [(.str "hold"), (.tup [(.str "t"), (.tup [(.int (1))])]), (.tup [(.str "fill"), (.str "a")]), (.tup [(.str "reckon"), (.str "-"), (.tup [(.str "fill"), (.str "b")]), (.tup [(.str "use"), (.tup [(.str "t"), (.tup [(.int (1))])])])])])])]), (.tup [(.str "hold"), (.tup [(.str "t"), (.tup [(.int (1)), (.int (2))])]), (.tup [(.str "amount"), (.int (5))]), (.tup [(.str "make"), (.tup [(.str "swap"), (.tup [(.int (1)), (.int (2))])]), (.tup [(.tup [(.str "amount"), (.int (2))]), (.tup [(.str "use"), (.tup [(.str "t"), (.tup [(.int (1)), (.int (2))])])])])])])]), (.int (0))]), (.tup [(.tup [(.bl true), (.bl true), (.bl true)]), (.tup [(.str "maker"), (.tup [(.str "swap"), (.tup [(.int (1))])]), (.tup [(.tup [(.tup [(.tup [(.str "any"), (.str "a")]), (.tup [(.str "any"), (.str "b")])]), (.tup [(.str "hold"), (.tup [(.str "t"), (.tup [(.int (1))])]), (.tup [(.str "fill"), (.str "a")]), (.tup [(.str "reckon"), (.str "-"), (.tup [(.str "fill"), (.str "b")]), (.tup [(.str "use"), (.tup [(.str "t"), (.tup [(.int (1))])])])])])])]), (.tup [(.str "hold"), (.tup [(.str "t"), (.tup [(.int (1)), (.int (2))])]), (.tup [(.str "amount"), (.int (5))]), (.tup [(.str "make"), (.tup [(.str "swap"), (.tup [(.int (1)), (.int (2))])]), (.tup [(.tup [(.str "amount"), (.int (2))]), (.tup [(.str "use"), (.tup [(.str "t"), (.tup [(.int (1)), (.int (2))])])])])])])]), (.int (0)), (.int (2)), (.int (1))]), (.tup [.non, (.tup [(.str "maker"), (.tup [(.str "swap"), (.tup [(.int (1))])]), (.tup [(.tup [(.tup [(.tup [(.str "any"), (.str "a")]), (.tup [(.str "any"), (.str "b")])]), (.tup [(.str "hold"), (.tup [(.str "t"), (.tup [(.int (1))])]), (.tup [(.str "fill"), (.str "a")]), (.tup [(.str "reckon"), (.str "-"), (.tup [(.str "fill"), (.str "b")]), (.tup [(.str "use"), (.tup [(.str "t"), (.tup [(.int (1))])])])])])])]), (.tup [(.str "hold"), (.tup [(.str "t"), (.tup [(.int (1)), (.int (2))])]), (.tup [(.str "amount"), (.int (5))]), (.tup [(.str "make"), (.tup [(.str "swap"), (.tup [(.int (1)), (.int (2))])]), (.tup [(.tup [(.str "amount"), (.int (2))]), (.tup [(.str "use"), (.tup [(.str "t"), (.tup [(.int (1)), (.int (2))])])])])])])]), (.int (0)), (.int (2))]), (.tup [(.tup [(.bl true), (.bl true), (.bl true)]), (.tup [(.str "maker"), (.tup [(.str "swap"), (.tup [(.int (1))])]), (.tup [(.tup [(.tup [(.tup [(.str "any"), (.str "a")]), (.tup [(.str "any"), (.str "b")])]), (.tup [(.str "hold"), (.tup [(.str "t"), (.tup [(.int (1))])]), (.tup [(.str "fill"), (.str "a")]), (.tup [(.str "reckon"), (.str "-"), (.tup [(.str "fill"), (.str "b")]), (.tup [(.str "use"), (.tup [(.str "t"), (.tup [(.int (1))])])])])])])]), (.tup [(.str "hold"), (.tup [(.str "t"), (.tup [(.int (1)), (.int (2))])]), (.tup [(.str "amount"), (.int (5))]), (.tup [(.str "make"), (.tup [(.str "swap"), (.tup [(.int (1)), (.int (2))])]), (.tup [(.tup [(.str "amount"), (.int (2))]), (.tup [(.str "use"), (.tup [(.str "t"), (.tup [(.int (1)), (.int (2))])])])])])])]), (.int (0)), (.int (1))]), (.tup [(.tup [(.bl true), (.bl true), (.bl true)]), (.tup [(.str "maker"), (.tup [(.str "swap"), (.tup [(.int (1))])]), (.tup [(.tup [(.tup [(.tup [(.str "any"), (.str "a")]), (.tup [(.str "any"), (.str "b")])]), (.tup [(.str "hold"), (.tup [(.str "t"), (.tup [(.int (1))])]), (.tup [(.str "fill"), (.str "a")]), (.tup [(.str "reckon"), (.str "-"), (.tup [(.str "fill"), (.str "b")]), (.tup [(.str "use"), (.tup [(.str "t"), (.tup [(.int (1))])])])])])])]), (.tup [(.str "hold"), (.tup [(.str "t"), (.tup [(.int (1)), (.int (2))])]), (.tup [(.str "amount"), (.int (5))]), (.tup [(.str "make"), (.tup [(.str "swap"), (.tup [(.int (1)), (.int (2))])]), (.tup [(.tup [(.str "amount"), (.int (2))]), (.tup [(.str "use"), (.tup [(.str "t"), (.tup [(.int (1)), (.int (2))])])])])])])]), (.int (41)), (.int (9))]), (.ref 9), (.tup [(.str "maker"), (.tup [(.str "swap"), (.tup [])]), (.tup [(.tup [(.tup [(.tup [(.str "any"), (.str "a")]), (.tup [(.str "any"), (.str "b")])]), (.tup [(.str "hold"), (.tup [(.str "t"), (.tup [])]), (.tup [(.str "fill"), (.str "a")]), (.tup [(.str "reckon"), (.str "-"), (.tup [(.str "fill"), (.str "b")]), (.tup [(.str "use"), (.tup [(.str "t"), (.tup [])])])])])])]), (.tup [(.str "hold"), (.tup [(.str "t"), (.tup [])]), (.tup [(.str "amount"), (.int (5))]), (.tup [(.str "make"), (.tup [(.str "swap"), (.tup [])]), (.tup [(.tup [(.str "amount"), (.int (2))]), (.tup [(.str "use"), (.tup [(.str "t"), (.tup [])])])])])])])]), (.lst [(.int (1)), (.int (1))])]
def W16 (i : Nat) : W := L16.getD i .non
def T16 : Nat → Sg
  | 0 => S15
  | i + 1 => S15.set 13 (some (W16 i))
theorem src16 : (rcs PgB mm).src GmB (forP (st14 16)).1 (forP (st14 16)).2.1 S15 E15H = some (.ok ⟨L16, []⟩ E16a) := by kernel_rfl
theorem cut16 : cutH 11 (T16 9) E16a = E16H := by kernel_rfl
theorem end16 : T16 9 = S16 := by kernel_rfl
end G

set_option Elab.async false
set_option linter.all false
set_option maxRecDepth 100000
set_option maxHeartbeats 0
namespace G
open PySem L2 PySem.Spec PyProof.Rows
def Mans : List W := [(.tup [(.bl false), (.bl false), (.bl false)]), (.tup [(.bl false), (.bl false), (.bl true)]), (.tup [(.bl false), (.bl true), (.bl false)]), (.tup [(.bl false), (.bl true), (.bl true)]), (.tup [(.bl true), (.bl false), (.bl false)]), (.tup [(.bl true), (.bl false), (.bl true)]), (.tup [(.bl true), (.bl true), (.bl false)]), (.tup [(.bl true), (.bl true), (.bl true)])]
def lowN0 : Cal := q14.tb.call mm 119
def mN0 : Mem := ⟨"need_bare", [(.tup [(.str "hold"), (.tup [(.str "x"), (.tup [])]), (.tup [(.str "amount"), (.int (1))]), (.tup [(.str "maker"), (.tup [(.str "m"), (.tup [])]), (.tup [(.tup [(.tup []), (.tup [(.str "use"), (.tup [(.str "x"), (.tup [])])])])]), (.tup [(.str "hold"), (.tup [(.str "x"), (.tup [])]), (.tup [(.str "amount"), (.int (2))]), (.tup [(.str "make"), (.tup [(.str "m"), (.tup [])]), (.tup [])])])])])], E19H, .non, E19H⟩
def mN1 : Mem := ⟨"end_by_makings", [(.tup [(.str "hold"), (.tup [(.str "x"), (.tup [])]), (.tup [(.str "amount"), (.int (1))]), (.tup [(.str "maker"), (.tup [(.str "m"), (.tup [])]), (.tup [(.tup [(.tup []), (.tup [(.str "use"), (.tup [(.str "x"), (.tup [])])])])]), (.tup [(.str "hold"), (.tup [(.str "x"), (.tup [])]), (.tup [(.str "amount"), (.int (2))]), (.tup [(.str "make"), (.tup [(.str "m"), (.tup [])]), (.tup [])])])])]), (.tup [])], E19H, (.tup [(.str "plain"), (.tup [(.str "hold"), (.tup [(.str "a"), (.tup [])]), (.tup [(.str "amount"), (.int (1))]), (.tup [(.str "hold"), (.tup [(.str "b"), (.tup [])]), (.tup [(.str "amount"), (.int (2))]), (.tup [(.str "use"), (.tup [(.str "a"), (.tup [])])])])])]), E19H⟩
def mN2 : Mem := ⟨"end_by_lots", [(.tup [(.str "hold"), (.tup [(.str "x"), (.tup [])]), (.tup [(.str "amount"), (.int (1))]), (.tup [(.str "maker"), (.tup [(.str "m"), (.tup [])]), (.tup [(.tup [(.tup []), (.tup [(.str "use"), (.tup [(.str "x"), (.tup [])])])])]), (.tup [(.str "hold"), (.tup [(.str "x"), (.tup [])]), (.tup [(.str "amount"), (.int (2))]), (.tup [(.str "make"), (.tup [(.str "m"), (.tup [])]), (.tup [])])])])]), (.tup [(.bl false), (.bl false), (.bl false)]), (.tup [])], (E19H ++ [.lst Mans, .lst []]), (.tup [(.str "plain"), (.tup [(.str "hold"), (.tup [(.str "a"), (.tup [])]), (.tup [(.str "amount"), (.int (1))]), (.tup [(.str "hold"), (.tup [(.str "b"), (.tup [])]), (.tup [(.str "amount"), (.int (2))]), (.tup [(.str "use"), (.tup [(.str "b"), (.tup [])])])])])]), (E19H ++ [.lst Mans, .lst []])⟩
def mN3 : Mem := ⟨"end_by_lots", [(.tup [(.str "hold"), (.tup [(.str "x"), (.tup [])]), (.tup [(.str "amount"), (.int (1))]), (.tup [(.str "maker"), (.tup [(.str "m"), (.tup [])]), (.tup [(.tup [(.tup []), (.tup [(.str "use"), (.tup [(.str "x"), (.tup [])])])])]), (.tup [(.str "hold"), (.tup [(.str "x"), (.tup [])]), (.tup [(.str "amount"), (.int (2))]), (.tup [(.str "make"), (.tup [(.str "m"), (.tup [])]), (.tup [])])])])]), (.tup [(.bl false), (.bl false), (.bl true)]), (.tup [])], (E19H ++ [.lst Mans, .lst []]), (.tup [(.str "plain"), (.tup [(.str "hold"), (.tup [(.str "a"), (.tup [])]), (.tup [(.str "amount"), (.int (1))]), (.tup [(.str "hold"), (.tup [(.str "b"), (.tup [])]), (.tup [(.str "amount"), (.int (2))]), (.tup [(.str "use"), (.tup [(.str "b"), (.tup [])])])])])]), (E19H ++ [.lst Mans, .lst []])⟩
def mN4 : Mem := ⟨"end_by_lots", [(.tup [(.str "hold"), (.tup [(.str "x"), (.tup [])]), (.tup [(.str "amount"), (.int (1))]), (.tup [(.str "maker"), (.tup [(.str "m"), (.tup [])]), (.tup [(.tup [(.tup []), (.tup [(.str "use"), (.tup [(.str "x"), (.tup [])])])])]), (.tup [(.str "hold"), (.tup [(.str "x"), (.tup [])]), (.tup [(.str "amount"), (.int (2))]), (.tup [(.str "make"), (.tup [(.str "m"), (.tup [])]), (.tup [])])])])]), (.tup [(.bl false), (.bl true), (.bl false)]), (.tup [])], (E19H ++ [.lst Mans, .lst []]), (.tup [(.str "plain"), (.tup [(.str "hold"), (.tup [(.str "a"), (.tup [])]), (.tup [(.str "amount"), (.int (1))]), (.tup [(.str "hold"), (.tup [(.str "b"), (.tup [])]), (.tup [(.str "amount"), (.int (2))]), (.tup [(.str "use"), (.tup [(.str "b"), (.tup [])])])])])]), (E19H ++ [.lst Mans, .lst []])⟩
def mN5 : Mem := ⟨"end_by_lots", [(.tup [(.str "hold"), (.tup [(.str "x"), (.tup [])]), (.tup [(.str "amount"), (.int (1))]), (.tup [(.str "maker"), (.tup [(.str "m"), (.tup [])]), (.tup [(.tup [(.tup []), (.tup [(.str "use"), (.tup [(.str "x"), (.tup [])])])])]), (.tup [(.str "hold"), (.tup [(.str "x"), (.tup [])]), (.tup [(.str "amount"), (.int (2))]), (.tup [(.str "make"), (.tup [(.str "m"), (.tup [])]), (.tup [])])])])]), (.tup [(.bl false), (.bl true), (.bl true)]), (.tup [])], (E19H ++ [.lst Mans, .lst []]), (.tup [(.str "plain"), (.tup [(.str "hold"), (.tup [(.str "a"), (.tup [])]), (.tup [(.str "amount"), (.int (1))]), (.tup [(.str "hold"), (.tup [(.str "b"), (.tup [])]), (.tup [(.str "amount"), (.int (2))]), (.tup [(.str "use"), (.tup [(.str "b"), (.tup [])])])])])]), (E19H ++ [.lst Mans, .lst []])⟩
def mN6 : Mem := ⟨"end_by_lots", [(.tup [(.str "hold"), (.tup [(.str "x"), (.tup [])]), (.tup [(.str "amount"), (.int (1))]), (.tup [(.str "maker"), (.tup [(.str "m"), (.tup [])]), (.tup [(.tup [(.tup []), (.tup [(.str "use"), (.tup [(.str "x"), (.tup [])])])])]), (.tup [(.str "hold"), (.tup [(.str "x"), (.tup [])]), (.tup [(.str "amount"), (.int (2))]), (.tup [(.str "make"), (.tup [(.str "m"), (.tup [])]), (.tup [])])])])]), (.tup [(.bl true), (.bl false), (.bl false)]), (.tup [])], (E19H ++ [.lst Mans, .lst []]), (.tup [(.str "plain"), (.tup [(.str "hold"), (.tup [(.str "a"), (.tup [])]), (.tup [(.str "amount"), (.int (1))]), (.tup [(.str "hold"), (.tup [(.str "b"), (.tup [])]), (.tup [(.str "amount"), (.int (2))]), (.tup [(.str "use"), (.tup [(.str "a"), (.tup [])])])])])]), (E19H ++ [.lst Mans, .lst []])⟩
def mN7 : Mem := ⟨"end_by_lots", [(.tup [(.str "hold"), (.tup [(.str "x"), (.tup [])]), (.tup [(.str "amount"), (.int (1))]), (.tup [(.str "maker"), (.tup [(.str "m"), (.tup [])]), (.tup [(.tup [(.tup []), (.tup [(.str "use"), (.tup [(.str "x"), (.tup [])])])])]), (.tup [(.str "hold"), (.tup [(.str "x"), (.tup [])]), (.tup [(.str "amount"), (.int (2))]), (.tup [(.str "make"), (.tup [(.str "m"), (.tup [])]), (.tup [])])])])]), (.tup [(.bl true), (.bl false), (.bl true)]), (.tup [])], (E19H ++ [.lst Mans, .lst [(.tup [(.bl true), (.bl false), (.bl false)])]]), (.tup [(.str "plain"), (.tup [(.str "hold"), (.tup [(.str "a"), (.tup [])]), (.tup [(.str "amount"), (.int (1))]), (.tup [(.str "hold"), (.tup [(.str "b"), (.tup [])]), (.tup [(.str "amount"), (.int (2))]), (.tup [(.str "use"), (.tup [(.str "a"), (.tup [])])])])])]), (E19H ++ [.lst Mans, .lst [(.tup [(.bl true), (.bl false), (.bl false)])]])⟩
def mN8 : Mem := ⟨"end_by_lots", [(.tup [(.str "hold"), (.tup [(.str "x"), (.tup [])]), (.tup [(.str "amount"), (.int (1))]), (.tup [(.str "maker"), (.tup [(.str "m"), (.tup [])]), (.tup [(.tup [(.tup []), (.tup [(.str "use"), (.tup [(.str "x"), (.tup [])])])])]), (.tup [(.str "hold"), (.tup [(.str "x"), (.tup [])]), (.tup [(.str "amount"), (.int (2))]), (.tup [(.str "make"), (.tup [(.str "m"), (.tup [])]), (.tup [])])])])]), (.tup [(.bl true), (.bl true), (.bl false)]), (.tup [])], (E19H ++ [.lst Mans, .lst [(.tup [(.bl true), (.bl false), (.bl false)]), (.tup [(.bl true), (.bl false), (.bl true)])]]), (.tup [(.str "plain"), (.tup [(.str "hold"), (.tup [(.str "a"), (.tup [])]), (.tup [(.str "amount"), (.int (1))]), (.tup [(.str "hold"), (.tup [(.str "b"), (.tup [])]), (.tup [(.str "amount"), (.int (2))]), (.tup [(.str "use"), (.tup [(.str "a"), (.tup [])])])])])]), (E19H ++ [.lst Mans, .lst [(.tup [(.bl true), (.bl false), (.bl false)]), (.tup [(.bl true), (.bl false), (.bl true)])]])⟩
def mN9 : Mem := ⟨"end_by_lots", [(.tup [(.str "hold"), (.tup [(.str "x"), (.tup [])]), (.tup [(.str "amount"), (.int (1))]), (.tup [(.str "maker"), (.tup [(.str "m"), (.tup [])]), (.tup [(.tup [(.tup []), (.tup [(.str "use"), (.tup [(.str "x"), (.tup [])])])])]), (.tup [(.str "hold"), (.tup [(.str "x"), (.tup [])]), (.tup [(.str "amount"), (.int (2))]), (.tup [(.str "make"), (.tup [(.str "m"), (.tup [])]), (.tup [])])])])]), (.tup [(.bl true), (.bl true), (.bl true)]), (.tup [])], (E19H ++ [.lst Mans, .lst [(.tup [(.bl true), (.bl false), (.bl false)]), (.tup [(.bl true), (.bl false), (.bl true)]), (.tup [(.bl true), (.bl true), (.bl false)])]]), (.tup [(.str "plain"), (.tup [(.str "hold"), (.tup [(.str "a"), (.tup [])]), (.tup [(.str "amount"), (.int (1))]), (.tup [(.str "hold"), (.tup [(.str "b"), (.tup [])]), (.tup [(.str "amount"), (.int (2))]), (.tup [(.str "use"), (.tup [(.str "a"), (.tup [])])])])])]), (E19H ++ [.lst Mans, .lst [(.tup [(.bl true), (.bl false), (.bl false)]), (.tup [(.bl true), (.bl false), (.bl true)]), (.tup [(.bl true), (.bl true), (.bl false)])]])⟩
def tbN : List Mem := [mN0, mN1, mN2, mN3, mN4, mN5, mN6, mN7, mN8, mN9]
/-- a call of the law, agreeing_manners by what is known -/
def calK : Cal := q14.tb.step mm (lowM lowN0 tbN) (some (q14.tb.call mm 117))
def mL0 : Mem := ⟨"_law_lotted_right", [.non], (List.set E2H 0 (.cup 1)), (.bl true), (List.set E2H 0 (.cup 1))⟩
def mL1 : Mem := ⟨"_law_lotted_right", [(.tup [])], (List.set E2H 0 (.cup 1)), (.bl true), (List.set E2H 0 (.cup 1))⟩
def mL2 : Mem := ⟨"_law_lotted_right", [(.tup [(.str "use"), (.tup [(.str "x"), (.tup [(.int (2)), (.int (1))])])])], (List.set E2H 0 (.cup 1)), (.bl true), (List.set E2H 0 (.cup 1))⟩
def mL3 : Mem := ⟨"_law_lotted_right", [(.tup [(.str "use"), (.tup [(.str "x"), (.tup [(.int (0))])])])], (List.set E2H 0 (.cup 1)), (.bl true), (List.set E2H 0 (.cup 1))⟩
def mL4 : Mem := ⟨"_law_lotted_right", [(.tup [(.str "use"), (.tup [(.str "x"), (.tup [(.bl true)])])])], (List.set E2H 0 (.cup 1)), (.bl true), (List.set E2H 0 (.cup 1))⟩
def mL5 : Mem := ⟨"_law_lotted_right", [(.tup [(.str "fill"), (.str "x")])], (List.set E2H 0 (.cup 1)), (.bl true), (List.set E2H 0 (.cup 1))⟩
def mL6 : Mem := ⟨"_law_lotted_right", [(.str "use")], (List.set E2H 0 (.cup 1)), (.bl true), (List.set E2H 0 (.cup 1))⟩
def mL7 : Mem := ⟨"_law_lotted_right", [(.int (7))], (List.set E2H 0 (.cup 1)), (.bl true), (List.set E2H 0 (.cup 1))⟩
def mL8 : Mem := ⟨"_law_lotted_right", [(.tup [(.str "use"), (.tup [(.str "x"), (.tup [(.int (1)), (.int (1))])])])], (List.set E2H 0 (.cup 1)), (.bl true), (List.set E2H 0 (.cup 1))⟩
def mL9 : Mem := ⟨"_law_bare_right", [.non], (List.set E6H 0 (.cup 2)), (.bl true), (List.set E6H 0 (.cup 2))⟩
def mL10 : Mem := ⟨"_law_bare_right", [(.tup [])], (List.set E6H 0 (.cup 2)), (.bl true), (List.set E6H 0 (.cup 2))⟩
def mL11 : Mem := ⟨"_law_bare_right", [(.tup [(.str "use"), (.tup [(.str "x"), (.tup [(.int (1))])])])], (List.set E6H 0 (.cup 2)), (.bl true), (List.set E6H 0 (.cup 2))⟩
def mL12 : Mem := ⟨"_law_bare_right", [(.tup [(.str "given"), (.tup [(.str "x"), (.tup [(.int (2))])]), (.tup [(.str "amount"), (.int (1))])])], (List.set E6H 0 (.cup 2)), (.bl true), (List.set E6H 0 (.cup 2))⟩
def mL13 : Mem := ⟨"_law_bare_right", [(.tup [(.str "fill"), (.str "x")])], (List.set E6H 0 (.cup 2)), (.bl true), (List.set E6H 0 (.cup 2))⟩
def mL14 : Mem := ⟨"_law_bare_right", [(.ref 2)], (List.set E6H 0 (.cup 2)), (.bl true), (List.set E6H 0 (.cup 2))⟩
def mL15 : Mem := ⟨"_law_bare_right", [(.tup [(.str "amount")])], (List.set E6H 0 (.cup 2)), (.bl true), (List.set E6H 0 (.cup 2))⟩
def mL16 : Mem := ⟨"_law_bare_right", [(.tup [(.str "maker"), (.tup [(.str "m"), (.tup [])]), (.tup [(.tup [(.tup [(.tup [(.str "word"), (.tup [(.str "x"), (.tup [(.int (1))])])])]), (.tup [(.str "amount"), (.int (1))])])]), (.tup [(.str "amount"), (.int (1))])])], (List.set E6H 0 (.cup 2)), (.bl true), (List.set E6H 0 (.cup 2))⟩
def mL17 : Mem := ⟨"_law_manner_right", [.non], (List.set E8H 0 (.cup 3)), (.bl true), (List.set E8H 0 (.cup 3))⟩
def mL18 : Mem := ⟨"_law_manner_right", [(.tup [])], (List.set E8H 0 (.cup 3)), (.bl true), (List.set E8H 0 (.cup 3))⟩
def mL19 : Mem := ⟨"_law_manner_right", [(.tup [(.bl true), (.bl true)])], (List.set E8H 0 (.cup 3)), (.bl true), (List.set E8H 0 (.cup 3))⟩
def mL20 : Mem := ⟨"_law_manner_right", [(.tup [(.bl true), (.bl true), (.int (1))])], (List.set E8H 0 (.cup 3)), (.bl true), (List.set E8H 0 (.cup 3))⟩
def mL21 : Mem := ⟨"_law_manner_right", [(.ref 4)], (List.set E8H 0 (.cup 3)), (.bl true), (List.set E8H 0 (.cup 3))⟩
def mL22 : Mem := ⟨"_law_manner_right", [(.tup [(.bl true), (.bl true), (.bl true), (.bl true)])], (List.set E8H 0 (.cup 3)), (.bl true), (List.set E8H 0 (.cup 3))⟩
def mL23 : Mem := ⟨"_law_manner_right", [(.bl true)], (List.set E8H 0 (.cup 3)), (.bl true), (List.set E8H 0 (.cup 3))⟩
def mL24 : Mem := ⟨"_law_manner_right", [(.tup [(.str "x"), (.bl true), (.bl true)])], (List.set E8H 0 (.cup 3)), (.bl true), (List.set E8H 0 (.cup 3))⟩
def mL25 : Mem := ⟨"_law_manner_right", [(.tup [(.bl true), (.int (0)), (.bl true)])], (List.set E8H 0 (.cup 3)), (.bl true), (List.set E8H 0 (.cup 3))⟩
def mL26 : Mem := ⟨"_law_order_right", [.non], (List.set E10H 0 (.cup 4)), (.bl true), (List.set E10H 0 (.cup 4))⟩
def mL27 : Mem := ⟨"_law_order_right", [(.ref 6)], (List.set E10H 0 (.cup 4)), (.bl true), (List.set E10H 0 (.cup 4))⟩
def mL28 : Mem := ⟨"_law_order_right", [(.str "x")], (List.set E10H 0 (.cup 4)), (.bl true), (List.set E10H 0 (.cup 4))⟩
def mL29 : Mem := ⟨"_law_order_right", [(.tup [(.int (1))])], (List.set E10H 0 (.cup 4)), (.bl true), (List.set E10H 0 (.cup 4))⟩
def mL30 : Mem := ⟨"_law_order_right", [(.tup [(.ref 7)])], (List.set E10H 0 (.cup 4)), (.bl true), (List.set E10H 0 (.cup 4))⟩
def mL31 : Mem := ⟨"_law_order_right", [(.tup [(.tup [(.bl true)])])], (List.set E10H 0 (.cup 4)), (.bl true), (List.set E10H 0 (.cup 4))⟩
def mL32 : Mem := ⟨"_law_order_right", [(.tup [(.tup [(.str "0")])])], (List.set E10H 0 (.cup 4)), (.bl true), (List.set E10H 0 (.cup 4))⟩
def mL33 : Mem := ⟨"_law_order_right", [(.tup [(.tup []), (.tup []), (.tup []), (.tup []), (.tup []), (.tup []), (.tup []), (.tup []), (.tup []), (.tup []), (.tup []), (.tup []), (.tup []), (.tup []), (.tup []), (.tup []), (.tup []), (.tup []), (.tup []), (.tup []), (.tup []), (.tup []), (.tup []), (.tup []), (.tup []), (.tup []), (.tup []), (.tup []), (.tup []), (.tup []), (.tup []), (.tup []), (.tup []), (.tup []), (.tup []), (.tup []), (.tup []), (.tup []), (.tup []), (.tup []), (.tup []), (.tup []), (.tup []), (.tup []), (.tup []), (.tup []), (.tup []), (.tup []), (.tup []), (.tup []), (.tup []), (.tup []), (.tup []), (.tup []), (.tup []), (.tup []), (.tup []), (.tup []), (.tup []), (.tup []), (.tup [])])], (List.set E10H 0 (.cup 4)), (.bl true), (List.set E10H 0 (.cup 4))⟩
def mL34 : Mem := ⟨"_law_order_right", [(.tup [(.tup [(.int (0))]), .non])], (List.set E10H 0 (.cup 4)), (.bl true), (List.set E10H 0 (.cup 4))⟩
def mL35 : Mem := ⟨"_law_order_right", [(.tup [(.tup [(.int (0)), (.bl false)])])], (List.set E10H 0 (.cup 4)), (.bl true), (List.set E10H 0 (.cup 4))⟩
def mL36 : Mem := ⟨"_law_work_right", [.non], (List.set E14H 0 (.cup 5)), (.bl true), (List.set E14H 0 (.cup 5))⟩
def mL37 : Mem := ⟨"_law_work_right", [(.tup [])], (List.set E14H 0 (.cup 5)), (.bl true), (List.set E14H 0 (.cup 5))⟩
def mL38 : Mem := ⟨"_law_work_right", [(.tup [(.tup [(.bl true), (.bl true), (.bl true)]), (.tup [(.str "maker"), (.tup [(.str "swap"), (.tup [(.int (1))])]), (.tup [(.tup [(.tup [(.tup [(.str "any"), (.str "a")]), (.tup [(.str "any"), (.str "b")])]), (.tup [(.str "hold"), (.tup [(.str "t"), (.tup [(.int (1))])]), (.tup [(.str "fill"), (.str "a")]), (.tup [(.str "reckon"), (.str "-"), (.tup [(.str "fill"), (.str "b")]), (.tup [(.str "use"), (.tup [(.str "t"), (.tup [(.int (1))])])])])])])]), (.tup [(.str "hold"), (.tup [(.str "t"), (.tup [(.int (1)), (.int (2))])]), (.tup [(.str "amount"), (.int (5))]), (.tup [(.str "make"), (.tup [(.str "swap"), (.tup [(.int (1)), (.int (2))])]), (.tup [(.tup [(.str "amount"), (.int (2))]), (.tup [(.str "use"), (.tup [(.str "t"), (.tup [(.int (1)), (.int (2))])])])])])])]), (.int (0))])], (List.set E14H 0 (.cup 5)), (.bl true), (List.set E14H 0 (.cup 5))⟩
def mL39 : Mem := ⟨"_law_work_right", [(.tup [(.tup [(.bl true), (.bl true), (.bl true)]), (.tup [(.str "maker"), (.tup [(.str "swap"), (.tup [(.int (1))])]), (.tup [(.tup [(.tup [(.tup [(.str "any"), (.str "a")]), (.tup [(.str "any"), (.str "b")])]), (.tup [(.str "hold"), (.tup [(.str "t"), (.tup [(.int (1))])]), (.tup [(.str "fill"), (.str "a")]), (.tup [(.str "reckon"), (.str "-"), (.tup [(.str "fill"), (.str "b")]), (.tup [(.str "use"), (.tup [(.str "t"), (.tup [(.int (1))])])])])])])]), (.tup [(.str "hold"), (.tup [(.str "t"), (.tup [(.int (1)), (.int (2))])]), (.tup [(.str "amount"), (.int (5))]), (.tup [(.str "make"), (.tup [(.str "swap"), (.tup [(.int (1)), (.int (2))])]), (.tup [(.tup [(.str "amount"), (.int (2))]), (.tup [(.str "use"), (.tup [(.str "t"), (.tup [(.int (1)), (.int (2))])])])])])])]), (.int (0)), (.int (2)), (.int (1))])], (List.set E14H 0 (.cup 5)), (.bl true), (List.set E14H 0 (.cup 5))⟩
def mL40 : Mem := ⟨"_law_work_right", [(.tup [.non, (.tup [(.str "maker"), (.tup [(.str "swap"), (.tup [(.int (1))])]), (.tup [(.tup [(.tup [(.tup [(.str "any"), (.str "a")]), (.tup [(.str "any"), (.str "b")])]), (.tup [(.str "hold"), (.tup [(.str "t"), (.tup [(.int (1))])]), (.tup [(.str "fill"), (.str "a")]), (.tup [(.str "reckon"), (.str "-"), (.tup [(.str "fill"), (.str "b")]), (.tup [(.str "use"), (.tup [(.str "t"), (.tup [(.int (1))])])])])])])]), (.tup [(.str "hold"), (.tup [(.str "t"), (.tup [(.int (1)), (.int (2))])]), (.tup [(.str "amount"), (.int (5))]), (.tup [(.str "make"), (.tup [(.str "swap"), (.tup [(.int (1)), (.int (2))])]), (.tup [(.tup [(.str "amount"), (.int (2))]), (.tup [(.str "use"), (.tup [(.str "t"), (.tup [(.int (1)), (.int (2))])])])])])])]), (.int (0)), (.int (2))])], (List.set E14H 0 (.cup 5)), (.bl true), (List.set E14H 0 (.cup 5))⟩
def mL41 : Mem := ⟨"_law_work_right", [(.tup [(.tup [(.bl true), (.bl true), (.bl true)]), (.tup [(.str "maker"), (.tup [(.str "swap"), (.tup [(.int (1))])]), (.tup [(.tup [(.tup [(.tup [(.str "any"), (.str "a")]), (.tup [(.str "any"), (.str "b")])]), (.tup [(.str "hold"), (.tup [(.str "t"), (.tup [(.int (1))])]), (.tup [(.str "fill"), (.str "a")]), (.tup [(.str "reckon"), (.str "-"), (.tup [(.str "fill"), (.str "b")]), (.tup [(.str "use"), (.tup [(.str "t"), (.tup [(.int (1))])])])])])])]), (.tup [(.str "hold"), (.tup [(.str "t"), (.tup [(.int (1)), (.int (2))])]), (.tup [(.str "amount"), (.int (5))]), (.tup [(.str "make"), (.tup [(.str "swap"), (.tup [(.int (1)), (.int (2))])]), (.tup [(.tup [(.str "amount"), (.int (2))]), (.tup [(.str "use"), (.tup [(.str "t"), (.tup [(.int (1)), (.int (2))])])])])])])]), (.int (0)), (.int (1))])], (List.set E14H 0 (.cup 5)), (.bl true), (List.set E14H 0 (.cup 5))⟩
def mL42 : Mem := ⟨"_law_work_right", [(.tup [(.tup [(.bl true), (.bl true), (.bl true)]), (.tup [(.str "maker"), (.tup [(.str "swap"), (.tup [(.int (1))])]), (.tup [(.tup [(.tup [(.tup [(.str "any"), (.str "a")]), (.tup [(.str "any"), (.str "b")])]), (.tup [(.str "hold"), (.tup [(.str "t"), (.tup [(.int (1))])]), (.tup [(.str "fill"), (.str "a")]), (.tup [(.str "reckon"), (.str "-"), (.tup [(.str "fill"), (.str "b")]), (.tup [(.str "use"), (.tup [(.str "t"), (.tup [(.int (1))])])])])])])]), (.tup [(.str "hold"), (.tup [(.str "t"), (.tup [(.int (1)), (.int (2))])]), (.tup [(.str "amount"), (.int (5))]), (.tup [(.str "make"), (.tup [(.str "swap"), (.tup [(.int (1)), (.int (2))])]), (.tup [(.tup [(.str "amount"), (.int (2))]), (.tup [(.str "use"), (.tup [(.str "t"), (.tup [(.int (1)), (.int (2))])])])])])])]), (.int (41)), (.int (9))])], (List.set E14H 0 (.cup 5)), (.bl true), (List.set E14H 0 (.cup 5))⟩
def mL43 : Mem := ⟨"_law_work_right", [(.ref 9)], (List.set E14H 0 (.cup 5)), (.bl true), (List.set E14H 0 (.cup 5))⟩
def mL44 : Mem := ⟨"_law_work_right", [(.tup [(.str "maker"), (.tup [(.str "swap"), (.tup [])]), (.tup [(.tup [(.tup [(.tup [(.str "any"), (.str "a")]), (.tup [(.str "any"), (.str "b")])]), (.tup [(.str "hold"), (.tup [(.str "t"), (.tup [])]), (.tup [(.str "fill"), (.str "a")]), (.tup [(.str "reckon"), (.str "-"), (.tup [(.str "fill"), (.str "b")]), (.tup [(.str "use"), (.tup [(.str "t"), (.tup [])])])])])])]), (.tup [(.str "hold"), (.tup [(.str "t"), (.tup [])]), (.tup [(.str "amount"), (.int (5))]), (.tup [(.str "make"), (.tup [(.str "swap"), (.tup [])]), (.tup [(.tup [(.str "amount"), (.int (2))]), (.tup [(.str "use"), (.tup [(.str "t"), (.tup [])])])])])])])], (List.set E14H 0 (.cup 5)), (.bl true), (List.set E14H 0 (.cup 5))⟩
def mL45 : Mem := ⟨"_law_work_right", [(.tup [(.tup [(.bl true), (.bl true), (.bl true)]), (.tup [(.str "maker"), (.tup [(.str "swap"), (.tup [(.int (1))])]), (.tup [(.tup [(.tup [(.tup [(.str "any"), (.str "a")]), (.tup [(.str "any"), (.str "b")])]), (.tup [(.str "hold"), (.tup [(.str "t"), (.tup [(.int (1))])]), (.tup [(.str "fill"), (.str "a")]), (.tup [(.str "reckon"), (.str "-"), (.tup [(.str "fill"), (.str "b")]), (.tup [(.str "use"), (.tup [(.str "t"), (.tup [(.int (1))])])])])])])]), (.tup [(.str "hold"), (.tup [(.str "t"), (.tup [(.int (1)), (.int (2))])]), (.tup [(.str "amount"), (.int (5))]), (.tup [(.str "make"), (.tup [(.str "swap"), (.tup [(.int (1)), (.int (2))])]), (.tup [(.tup [(.str "amount"), (.int (2))]), (.tup [(.str "use"), (.tup [(.str "t"), (.tup [(.int (1)), (.int (2))])])])])])])]), (.bl true), (.int (9))])], (List.set E14H 0 (.cup 5)), (.bl true), (List.set E14H 0 (.cup 5))⟩
def mL46 : Mem := ⟨"_law_path_right", [(.tup [(.tup [(.bl true), (.bl true), (.bl true)]), (.tup [(.str "maker"), (.tup [(.str "swap"), (.tup [(.int (1))])]), (.tup [(.tup [(.tup [(.tup [(.str "any"), (.str "a")]), (.tup [(.str "any"), (.str "b")])]), (.tup [(.str "hold"), (.tup [(.str "t"), (.tup [(.int (1))])]), (.tup [(.str "fill"), (.str "a")]), (.tup [(.str "reckon"), (.str "-"), (.tup [(.str "fill"), (.str "b")]), (.tup [(.str "use"), (.tup [(.str "t"), (.tup [(.int (1))])])])])])])]), (.tup [(.str "hold"), (.tup [(.str "t"), (.tup [(.int (1)), (.int (2))])]), (.tup [(.str "amount"), (.int (5))]), (.tup [(.str "make"), (.tup [(.str "swap"), (.tup [(.int (1)), (.int (2))])]), (.tup [(.tup [(.str "amount"), (.int (2))]), (.tup [(.str "use"), (.tup [(.str "t"), (.tup [(.int (1)), (.int (2))])])])])])])]), (.int (0)), (.int (2))]), .non], E16a, (.bl true), E16a⟩
def mL47 : Mem := ⟨"_law_path_right", [(.tup [(.tup [(.bl true), (.bl true), (.bl true)]), (.tup [(.str "maker"), (.tup [(.str "swap"), (.tup [(.int (1))])]), (.tup [(.tup [(.tup [(.tup [(.str "any"), (.str "a")]), (.tup [(.str "any"), (.str "b")])]), (.tup [(.str "hold"), (.tup [(.str "t"), (.tup [(.int (1))])]), (.tup [(.str "fill"), (.str "a")]), (.tup [(.str "reckon"), (.str "-"), (.tup [(.str "fill"), (.str "b")]), (.tup [(.str "use"), (.tup [(.str "t"), (.tup [(.int (1))])])])])])])]), (.tup [(.str "hold"), (.tup [(.str "t"), (.tup [(.int (1)), (.int (2))])]), (.tup [(.str "amount"), (.int (5))]), (.tup [(.str "make"), (.tup [(.str "swap"), (.tup [(.int (1)), (.int (2))])]), (.tup [(.tup [(.str "amount"), (.int (2))]), (.tup [(.str "use"), (.tup [(.str "t"), (.tup [(.int (1)), (.int (2))])])])])])])]), (.int (0)), (.int (2))]), (.tup [])], E16a, (.bl true), E16a⟩
def mL48 : Mem := ⟨"_law_path_right", [(.tup [(.tup [(.bl true), (.bl true), (.bl true)]), (.tup [(.str "maker"), (.tup [(.str "swap"), (.tup [(.int (1))])]), (.tup [(.tup [(.tup [(.tup [(.str "any"), (.str "a")]), (.tup [(.str "any"), (.str "b")])]), (.tup [(.str "hold"), (.tup [(.str "t"), (.tup [(.int (1))])]), (.tup [(.str "fill"), (.str "a")]), (.tup [(.str "reckon"), (.str "-"), (.tup [(.str "fill"), (.str "b")]), (.tup [(.str "use"), (.tup [(.str "t"), (.tup [(.int (1))])])])])])])]), (.tup [(.str "hold"), (.tup [(.str "t"), (.tup [(.int (1)), (.int (2))])]), (.tup [(.str "amount"), (.int (5))]), (.tup [(.str "make"), (.tup [(.str "swap"), (.tup [(.int (1)), (.int (2))])]), (.tup [(.tup [(.str "amount"), (.int (2))]), (.tup [(.str "use"), (.tup [(.str "t"), (.tup [(.int (1)), (.int (2))])])])])])])]), (.int (0)), (.int (2))]), (.tup [(.int (9))])], E16a, (.bl true), E16a⟩
def mL49 : Mem := ⟨"_law_path_right", [(.tup [(.tup [(.bl true), (.bl true), (.bl true)]), (.tup [(.str "maker"), (.tup [(.str "swap"), (.tup [(.int (1))])]), (.tup [(.tup [(.tup [(.tup [(.str "any"), (.str "a")]), (.tup [(.str "any"), (.str "b")])]), (.tup [(.str "hold"), (.tup [(.str "t"), (.tup [(.int (1))])]), (.tup [(.str "fill"), (.str "a")]), (.tup [(.str "reckon"), (.str "-"), (.tup [(.str "fill"), (.str "b")]), (.tup [(.str "use"), (.tup [(.str "t"), (.tup [(.int (1))])])])])])])]), (.tup [(.str "hold"), (.tup [(.str "t"), (.tup [(.int (1)), (.int (2))])]), (.tup [(.str "amount"), (.int (5))]), (.tup [(.str "make"), (.tup [(.str "swap"), (.tup [(.int (1)), (.int (2))])]), (.tup [(.tup [(.str "amount"), (.int (2))]), (.tup [(.str "use"), (.tup [(.str "t"), (.tup [(.int (1)), (.int (2))])])])])])])]), (.int (0)), (.int (2))]), (.tup [(.int (1))])], E16a, (.bl true), E16a⟩
def mL50 : Mem := ⟨"_law_path_right", [(.tup [(.tup [(.bl true), (.bl true), (.bl true)]), (.tup [(.str "maker"), (.tup [(.str "swap"), (.tup [(.int (1))])]), (.tup [(.tup [(.tup [(.tup [(.str "any"), (.str "a")]), (.tup [(.str "any"), (.str "b")])]), (.tup [(.str "hold"), (.tup [(.str "t"), (.tup [(.int (1))])]), (.tup [(.str "fill"), (.str "a")]), (.tup [(.str "reckon"), (.str "-"), (.tup [(.str "fill"), (.str "b")]), (.tup [(.str "use"), (.tup [(.str "t"), (.tup [(.int (1))])])])])])])]), (.tup [(.str "hold"), (.tup [(.str "t"), (.tup [(.int (1)), (.int (2))])]), (.tup [(.str "amount"), (.int (5))]), (.tup [(.str "make"), (.tup [(.str "swap"), (.tup [(.int (1)), (.int (2))])]), (.tup [(.tup [(.str "amount"), (.int (2))]), (.tup [(.str "use"), (.tup [(.str "t"), (.tup [(.int (1)), (.int (2))])])])])])])]), (.int (0)), (.int (2))]), (.tup [(.int (0)), (.int (1))])], E16a, (.bl true), E16a⟩
def mL51 : Mem := ⟨"_law_path_right", [(.tup [(.tup [(.bl true), (.bl true), (.bl true)]), (.tup [(.str "maker"), (.tup [(.str "swap"), (.tup [(.int (1))])]), (.tup [(.tup [(.tup [(.tup [(.str "any"), (.str "a")]), (.tup [(.str "any"), (.str "b")])]), (.tup [(.str "hold"), (.tup [(.str "t"), (.tup [(.int (1))])]), (.tup [(.str "fill"), (.str "a")]), (.tup [(.str "reckon"), (.str "-"), (.tup [(.str "fill"), (.str "b")]), (.tup [(.str "use"), (.tup [(.str "t"), (.tup [(.int (1))])])])])])])]), (.tup [(.str "hold"), (.tup [(.str "t"), (.tup [(.int (1)), (.int (2))])]), (.tup [(.str "amount"), (.int (5))]), (.tup [(.str "make"), (.tup [(.str "swap"), (.tup [(.int (1)), (.int (2))])]), (.tup [(.tup [(.str "amount"), (.int (2))]), (.tup [(.str "use"), (.tup [(.str "t"), (.tup [(.int (1)), (.int (2))])])])])])])]), (.int (0)), (.int (2))]), (.tup [(.int (1)), (.int (1)), (.int (0))])], E16a, (.bl true), E16a⟩
def mL52 : Mem := ⟨"_law_path_right", [(.tup [(.tup [(.bl true), (.bl true), (.bl true)]), (.tup [(.str "maker"), (.tup [(.str "swap"), (.tup [(.int (1))])]), (.tup [(.tup [(.tup [(.tup [(.str "any"), (.str "a")]), (.tup [(.str "any"), (.str "b")])]), (.tup [(.str "hold"), (.tup [(.str "t"), (.tup [(.int (1))])]), (.tup [(.str "fill"), (.str "a")]), (.tup [(.str "reckon"), (.str "-"), (.tup [(.str "fill"), (.str "b")]), (.tup [(.str "use"), (.tup [(.str "t"), (.tup [(.int (1))])])])])])])]), (.tup [(.str "hold"), (.tup [(.str "t"), (.tup [(.int (1)), (.int (2))])]), (.tup [(.str "amount"), (.int (5))]), (.tup [(.str "make"), (.tup [(.str "swap"), (.tup [(.int (1)), (.int (2))])]), (.tup [(.tup [(.str "amount"), (.int (2))]), (.tup [(.str "use"), (.tup [(.str "t"), (.tup [(.int (1)), (.int (2))])])])])])])]), (.int (0)), (.int (2))]), (.ref 11)], E16a, (.bl true), E16a⟩
def mL53 : Mem := ⟨"_law_path_right", [(.tup [(.tup [(.bl true), (.bl true), (.bl true)]), (.tup [(.str "maker"), (.tup [(.str "swap"), (.tup [(.int (1))])]), (.tup [(.tup [(.tup [(.tup [(.str "any"), (.str "a")]), (.tup [(.str "any"), (.str "b")])]), (.tup [(.str "hold"), (.tup [(.str "t"), (.tup [(.int (1))])]), (.tup [(.str "fill"), (.str "a")]), (.tup [(.str "reckon"), (.str "-"), (.tup [(.str "fill"), (.str "b")]), (.tup [(.str "use"), (.tup [(.str "t"), (.tup [(.int (1))])])])])])])]), (.tup [(.str "hold"), (.tup [(.str "t"), (.tup [(.int (1)), (.int (2))])]), (.tup [(.str "amount"), (.int (5))]), (.tup [(.str "make"), (.tup [(.str "swap"), (.tup [(.int (1)), (.int (2))])]), (.tup [(.tup [(.str "amount"), (.int (2))]), (.tup [(.str "use"), (.tup [(.str "t"), (.tup [(.int (1)), (.int (2))])])])])])])]), (.int (0)), (.int (2))]), (.tup [(.int (1)), (.bl true)])], E16a, (.bl true), E16a⟩
def mL54 : Mem := ⟨"_law_path_right", [(.tup [(.tup [(.bl true), (.bl true), (.bl true)]), (.tup [(.str "maker"), (.tup [(.str "swap"), (.tup [(.int (1))])]), (.tup [(.tup [(.tup [(.tup [(.str "any"), (.str "a")]), (.tup [(.str "any"), (.str "b")])]), (.tup [(.str "hold"), (.tup [(.str "t"), (.tup [(.int (1))])]), (.tup [(.str "fill"), (.str "a")]), (.tup [(.str "reckon"), (.str "-"), (.tup [(.str "fill"), (.str "b")]), (.tup [(.str "use"), (.tup [(.str "t"), (.tup [(.int (1))])])])])])])]), (.tup [(.str "hold"), (.tup [(.str "t"), (.tup [(.int (1)), (.int (2))])]), (.tup [(.str "amount"), (.int (5))]), (.tup [(.str "make"), (.tup [(.str "swap"), (.tup [(.int (1)), (.int (2))])]), (.tup [(.tup [(.str "amount"), (.int (2))]), (.tup [(.str "use"), (.tup [(.str "t"), (.tup [(.int (1)), (.int (2))])])])])])])]), (.int (0)), (.int (2))]), (.tup [(.int (1)), (.int (-1))])], E16a, (.bl true), E16a⟩
def mL55 : Mem := ⟨"lot_once", [(.tup [(.tup [(.bl true), (.bl true), (.bl true)]), (.tup [(.str "maker"), (.tup [(.str "swap"), (.tup [(.int (1))])]), (.tup [(.tup [(.tup [(.tup [(.str "any"), (.str "a")]), (.tup [(.str "any"), (.str "b")])]), (.tup [(.str "hold"), (.tup [(.str "t"), (.tup [(.int (1))])]), (.tup [(.str "fill"), (.str "a")]), (.tup [(.str "reckon"), (.str "-"), (.tup [(.str "fill"), (.str "b")]), (.tup [(.str "use"), (.tup [(.str "t"), (.tup [(.int (1))])])])])])])]), (.tup [(.str "hold"), (.tup [(.str "t"), (.tup [(.int (1)), (.int (2))])]), (.tup [(.str "amount"), (.int (5))]), (.tup [(.str "make"), (.tup [(.str "swap"), (.tup [(.int (1)), (.int (2))])]), (.tup [(.tup [(.str "amount"), (.int (2))]), (.tup [(.str "use"), (.tup [(.str "t"), (.tup [(.int (1)), (.int (2))])])])])])])]), (.int (0)), (.int (2))]), (.tup [(.int (1)), (.int (1))])], E18H, (.tup [(.str "made"), (.tup [(.tup [(.bl true), (.bl true), (.bl true)]), (.tup [(.str "maker"), (.tup [(.str "swap"), (.tup [(.int (1))])]), (.tup [(.tup [(.tup [(.tup [(.str "any"), (.str "a")]), (.tup [(.str "any"), (.str "b")])]), (.tup [(.str "hold"), (.tup [(.str "t"), (.tup [(.int (1))])]), (.tup [(.str "fill"), (.str "a")]), (.tup [(.str "reckon"), (.str "-"), (.tup [(.str "fill"), (.str "b")]), (.tup [(.str "use"), (.tup [(.str "t"), (.tup [(.int (1))])])])])])])]), (.tup [(.str "hold"), (.tup [(.str "t"), (.tup [(.int (1)), (.int (2))])]), (.tup [(.str "amount"), (.int (5))]), (.tup [(.str "hold"), (.tup [(.str "t"), (.tup [(.int (1)), (.int (3)), (.int (5))])]), (.tup [(.str "amount"), (.int (2))]), (.tup [(.str "reckon"), (.str "-"), (.tup [(.str "use"), (.tup [(.str "t"), (.tup [(.int (1)), (.int (2)), (.int (4)), (.int (5))])])]), (.tup [(.str "use"), (.tup [(.str "t"), (.tup [(.int (1)), (.int (3)), (.int (5))])])])])])])]), (.int (1)), (.int (5))])]), E18H⟩
def mL56 : Mem := ⟨"lot_row", [(.tup [(.tup [(.bl true), (.bl true), (.bl true)]), (.tup [(.str "maker"), (.tup [(.str "swap"), (.tup [(.int (1))])]), (.tup [(.tup [(.tup [(.tup [(.str "any"), (.str "a")]), (.tup [(.str "any"), (.str "b")])]), (.tup [(.str "hold"), (.tup [(.str "t"), (.tup [(.int (1))])]), (.tup [(.str "fill"), (.str "a")]), (.tup [(.str "reckon"), (.str "-"), (.tup [(.str "fill"), (.str "b")]), (.tup [(.str "use"), (.tup [(.str "t"), (.tup [(.int (1))])])])])])])]), (.tup [(.str "hold"), (.tup [(.str "t"), (.tup [(.int (1)), (.int (2))])]), (.tup [(.str "amount"), (.int (5))]), (.tup [(.str "make"), (.tup [(.str "swap"), (.tup [(.int (1)), (.int (2))])]), (.tup [(.tup [(.str "amount"), (.int (2))]), (.tup [(.str "use"), (.tup [(.str "t"), (.tup [(.int (1)), (.int (2))])])])])])])]), (.int (0)), (.int (2))]), (.tup [(.int (1)), (.int (1))])], E18H, (.int (0)), E18H⟩
def mL57 : Mem := ⟨"making_end", [(.tup [(.str "maker"), (.tup [(.str "bind"), (.tup [])]), (.tup [(.tup [(.tup [(.tup [(.str "name"), (.str "n")]), (.tup [(.str "any"), (.str "e")]), (.tup [(.str "any"), (.str "b")])]), (.tup [(.str "hold"), (.tup [(.str "fill"), (.str "n")]), (.tup [(.str "fill"), (.str "e")]), (.tup [(.str "fill"), (.str "b")])])])]), (.tup [(.str "make"), (.tup [(.str "bind"), (.tup [])]), (.tup [(.tup [(.str "use"), (.tup [(.str "y"), (.tup [])])]), (.tup [(.str "amount"), (.int (3))]), (.tup [(.str "reckon"), (.str "+"), (.tup [(.str "use"), (.tup [(.str "y"), (.tup [])])]), (.tup [(.str "use"), (.tup [(.str "y"), (.tup [])])])])])])]), (.tup [(.tup []), (.tup []), (.tup []), (.tup []), (.tup []), (.tup []), (.tup []), (.tup []), (.tup []), (.tup []), (.tup []), (.tup []), (.tup []), (.tup []), (.tup []), (.tup []), (.tup []), (.tup []), (.tup []), (.tup []), (.tup []), (.tup []), (.tup []), (.tup []), (.tup []), (.tup []), (.tup []), (.tup []), (.tup []), (.tup []), (.tup []), (.tup []), (.tup []), (.tup []), (.tup []), (.tup []), (.tup []), (.tup []), (.tup []), (.tup []), (.tup []), (.tup []), (.tup []), (.tup []), (.tup []), (.tup []), (.tup []), (.tup []), (.tup []), (.tup []), (.tup []), (.tup []), (.tup []), (.tup []), (.tup []), (.tup []), (.tup []), (.tup []), (.tup []), (.tup [])])], E18H, (.tup [(.str "plain"), (.tup [(.str "hold"), (.tup [(.str "a"), (.tup [])]), (.tup [(.str "amount"), (.int (3))]), (.tup [(.str "reckon"), (.str "+"), (.tup [(.str "use"), (.tup [(.str "a"), (.tup [])])]), (.tup [(.str "use"), (.tup [(.str "a"), (.tup [])])])])])]), E18H⟩
def mL58 : Mem := ⟨"lot_meaning", [(.tup [(.str "amount"), (.int (1))]), (.tup []), (.tup [(.str "x"), (.tup [(.int (1000000))])])], E19H, (.tup [(.str "nothing")]), E19H⟩
def tbL : List Mem := [mL0, mL1, mL2, mL3, mL4, mL5, mL6, mL7, mL8, mL9, mL10, mL11, mL12, mL13, mL14, mL15, mL16, mL17, mL18, mL19, mL20, mL21, mL22, mL23, mL24, mL25, mL26, mL27, mL28, mL29, mL30, mL31, mL32, mL33, mL34, mL35, mL36, mL37, mL38, mL39, mL40, mL41, mL42, mL43, mL44, mL45, mL46, mL47, mL48, mL49, mL50, mL51, mL52, mL53, mL54, mL55, mL56, mL57, mL58]
def lowL : Cal := lowM calK tbL
end G

set_option Elab.async false
set_option linter.all false
set_option maxRecDepth 100000
set_option maxHeartbeats 4000000
namespace G
open PySem L2 PySem.Spec PyProof.Rows
variable {base : Heap} {H H' : Hp} {ι ι' : List Addr} {X : Cx} {W' : WX}
/-- the contexts of the law's body: P, as one roll gives it -/
def CtxM (M : Md) (W' : WX) (X : Cx) (ns : List Int) : Prop := In M (q14.tb.pgOf lowL) (q14.tb.gmOf mm lowL (some lamC) dLaw) W' X ∧
  ∀ j, ∃ r : Nat, r < nJ j ∧ In M (q14.tb.pgOf (lowR lowL r j (nJ j))) (q14.tb.gmOf mm (lowR lowL r j (nJ j)) (some lamC) dLaw) W' X
def chainM : Prop := ∀ (M : Md) (W' : WX) (X : Cx) (ns : List Int) (D : Ends), CtxM M W' X ns → (∀ H, D.rt (.bl true) H) → Gd M X D (body14.drop 1) [none, some (.ref 0), none, none, none, none, none, none, none, none, none, none, none, none] [.cup 0]
theorem law_okM {M : Md} (okN : ∀ e ∈ tbN, MemOk lowN0 e) (okL : ∀ e ∈ tbL, MemOk calK e) (C : chainM) (ok : ∀ ns, TbOk (M.at ns) base q14.tb) {f : Addr} {fd : FuncData} (D : DefOk M base "law" dLaw f fd) : FnOk M.P M.w M.K M.mg base (L2N.CX M.P M.w) 121 f fd ["_law_script"] (spLaw M) := by
  obtain ⟨qual, oc, od, kV, doc, pm, an, cdv, ct, osl, rfl, lk, hcd, tb⟩ := D.F
  refine fn_of lk hcd D.S (fun vs H Q E ⟨_, _, e, _⟩ => by rw [e]; rfl) fun A outer s H vs Q E hr hsp => ?_
  obtain ⟨a, ns, rfl, hS, hlen, hT, hQ⟩ := hsp
  have okn := ok ns
  let M' : Md := M.at ns
  let X : Cx := cxOf (L2N.CX M.P M.w) M.P M.w M.K M.mg base dLaw.N qual (defScope dLaw.st) f cdv A outer s H E
  have tb' : dLaw.lam = true → Tbd M' base cdv (qual ++ ".<locals>.") := fun h => by
    obtain ⟨c, P, t1, t2, t3, t4⟩ := tb h
    exact ⟨c, P, t1, t2, t3, t4⟩
  have hl298 : FnsOk M' base q14.tb 118 lamC := fn_ok okn 118
  have hlN : FnsOk M' base q14.tb 119 (lowM lowN0 tbN) := lowM_ok (fn_ok okn 119) okN
  have hl300 : FnsOk M' base q14.tb 120 lowL := lowM_ok (step_ok okn hlN fun l h => ⟨117, rfl, by cases h; exact fn_ok okn 117⟩) okL
  have ctx : CtxM M' (fun cls d _ H => E cls d H) X ns := by
    refine ⟨in_def okn D.S tb' hl300 rfl hl298 hr, fun j => ?_⟩
    obtain ⟨r, r1, r2⟩ := rollR_lim (csOf ns j).1 (csOf ns j).2 (nJ_pos j).1
    exact ⟨r, r1, in_def okn D.S tb' (lowR_ok okn (by decide) hl300 (csOf_lim ns j) rfl r2 (nJ_pos j)) rfl hl298 hr⟩
  obtain ⟨t, ht, hk⟩ := C M' (fun cls d _ H => E cls d H) X ns { nx := fun _ H' => Q .non H', rt := Q } ctx fun H => hQ H
  obtain ⟨⟨fc, fdc, Dc⟩, _⟩ := okn.fn _ _ fnCup
  have n0 : X.N[0]? = some ("_law_script" : Str) := rfl
  have n1 : X.N[1]? = some ("_law_cup_here" : Str) := rfl
  have l1 : X.env.scope.names.lookup ("_law_cup_here" : Str) = some .local := by
    show (defScope (topN 148)).names.lookup _ = _
    decide +kernel
  have v0 : Vis X.env.scope ("_law_script" : Str) := .inl (by
    show (defScope (topN 148)).names.lookup _ = _
    decide +kernel)
  have gc : Gl X ("_law_cup" : Str) := by
    show (defScope (topN 148)).names.lookup _ = _
    decide +kernel
  have F : FnOk X.prog X.w X.K X.mg X.base (L2N.CX X.prog X.w) 1 fc fdc ["_law_script"] (spCup M.K) := cup_ok okn Dc
  have hr1 : Room 1 X.A := hr.mono (by decide)
  refine ⟨_, pss_cons (ps_set (i := 1) D.S.nd n1 (.inl l1) (pe_call (E := E) F hr1 gc Dc.m Dc.kp Dc.b .nil (L2N.passes_call (L2N.takes_of rfl rfl rfl rfl) fun _ _ _ _ h => h) (pa_cons (pv 0 n0 v0) pa_nil)) (hf := .inr l1)) ht, ?_⟩
  refine ⟨_, rfl, a, ns, rfl, hS, hlen, fun H' p e1 e2 hp => ?_⟩
  refine hk [p] _ _ ⟨rfl, fun i j b o u h1 h2 h3 h4 _ _ => ?_, fun i o e => ?_, (hT.ext e1).ext fun b o e => ?_⟩ ⟨rfl, fun i w e => ?_⟩
  · have l := (List.getElem?_eq_some_iff.mp h3).1
    have l2 := (List.getElem?_eq_some_iff.mp h4).1
    simp at l l2
    omega
  · match i, e with
    | 0, e =>
      cases e
      exact ⟨p, rfl, upd_same⟩
  · rw [upd_ne (ne_of_none e hp)]
    exact e
  · match i, e with
    | 1, e =>
      cases e
      exact ⟨.ref p, rfl, p, rfl, rfl⟩
    | 0, e => cases e
    | i + 2, e =>
      exfalso
      have z : (List.replicate 12 (none : Option W))[i]? = some (some w) := e
      rw [List.getElem?_replicate] at z
      split at z <;> cases z
abbrev PgM : Pg := q14.tb.pgOf lowL
abbrev GmM : Gm := q14.tb.gmOf mm lowL (some lamC) dLaw
def turnM (n : Nat) (s : Stmt) (w : W) (σ : Sg) (E : Hh) : Option (Sg × Hh) := nxS n (andThen (tgA (rcs PgM mm) GmM 9 (forP s).1 w σ E) (blkA (stepS PgM (rcs PgM mm) GmM 29) (forP s).2.2.1))
end G

set_option Elab.async false
set_option linter.all false
set_option maxRecDepth 100000
set_option maxHeartbeats 4000000
namespace G
open PySem L2 PySem.Spec PyProof.Rows HotX
/-! ### StopIteration while an error is handled -/
section
variable {prog : Program} {w : World} {A : Around} {E : Value → Shared → Prop} {s : Shared}
theorem stop_hot {α : Type} {x1 : Addr} {Q : α → Shared → Prop} (hot : HotAt A x1 s.heap) (hE : ∀ h' e, (∀ b o, s.heap.get? b = some o → h'.get? b = some o) → (∃ o, h'.get? e = some o ∧ o.cls = .type "StopIteration") → E (.ref e) { s with heap := h' }) :
    wpAny (model prog w) A (newExc (.type "StopIteration") [] >>= fun e => (raiseNew e : Sem α)) Q E s := by
  obtain ⟨hh, o1, vs1, h1, d1, c1⟩ := hot
  refine wpAny_bind ?_
  simp only [newExc, newTuple]
  refine wpAny_bind (wpAny_newObj_type ?_ (by size_fits))
  refine wpAny_bind (m := firstArgMember _ _) (wpAny_of_eq (a := Value.none) (by first | rfl | (simp only [firstArgMember]; rfl)) ?_)
  refine wpAny_newObj_type ?_ (by size_fits)
  have up : ∀ (p q : Obj) (b : Addr) (o : Obj), s.heap.get? b = some o → ((s.heap.push p).push q).get? b = some o := fun p q b o e => Heap.get?_push_of_some _ (Heap.get?_push_of_some _ e)
  refine raiseNew_hot ⟨hh, o1, vs1, up _ _ _ _ h1, d1, c1⟩ (Nat.ne_of_lt (Heap.lt_size (Heap.get?_push_of_some _ h1))) (Heap.get?_push_size _ rfl) rfl (by first | (simp; done) | (simp; omega) | (simp only [Array.size_append]; simp; omega)) ?_
  refine hE _ _ (fun b o e => ?_) ⟨_, Heap.get?_update_self _ (Heap.get?_push_size _ rfl) rfl, rfl⟩
  rw [Heap.get?_update_other _ _ (Nat.ne_of_gt (Heap.lt_size (Heap.get?_push_of_some _ e)))]
  exact up _ _ b o e
theorem lnext_end_hot {it l x1 : Addr} {i : Nat} {items : Array Value} {Q : Value → Shared → Prop} (hot : HotAt A x1 s.heap) (hne : x1 ≠ it) (hit : s.heap.IsListIter it l i) (hl : s.heap.IsList l items) (hx : items[i]? = none)
    (hE : ∀ h' e, Heap.ExtBut it s.heap h' → (∃ o, h'.get? e = some o ∧ o.cls = .type "StopIteration") → E (.ref e) { s with heap := h' }) : wpAny (model prog w) A (Builtin.SmallTypes.nextOf (.ref it)) Q E s := by
  obtain ⟨hh, o1, vs1, h1, d1, c1⟩ := hot
  obtain ⟨o, ho, hc, hd⟩ := id hit
  obtain ⟨ol, hol, _, nl, hdl⟩ := hl
  unfold Builtin.SmallTypes.nextOf
  refine wpAny_bind (wpAny_callSpecial?_slot (name := Str.ofString "__next__") hit.typeIs slot_listiter_next (wpAny_call_entry slot_listiter_next hit.typeIs entry_listiter_next ?_ (args_listiter_next _)))
  show wpAny _ _ (field (.ref it) 0 >>= _) _ _ s
  refine wpAny_bind (wpAny_field ho hd (x := .ref l) rfl (wpAny_ite ?_))
  rw [if_neg (show ¬ ((Value.ref l == Value.none) = true) from Bool.false_ne_true)]
  show wpAny _ _ (field (.ref it) 1 >>= _) _ _ s
  refine wpAny_bind (wpAny_field ho hd (x := .int i 0) rfl ?_)
  show wpAny _ _ (seqItems? (.ref l) >>= _) _ _ s
  refine wpAny_bind (wpAny_seqItems hol hdl ?_)
  simp only [Int.toNat_natCast, hx]
  refine wpAny_bind (wpAny_rule (wpAny_bind (wpAny_setField ho hd (by simp) ?_)))
  refine stop_hot (x1 := x1) ⟨hh, o1, vs1, (Heap.get?_update_other _ _ (Ne.symm hne)).trans h1, d1, c1⟩ fun h' e k he => hE h' e (fun b o hb z => k b o ((Heap.get?_update_other _ _ (Ne.symm hb)).trans z)) he
theorem tnext_end_hot {it t x1 : Addr} {i : Nat} {items : Array Value} {Q : Option Value → Shared → Prop} (hot : HotAt A x1 s.heap) (hne : x1 ≠ it) (hit : IsTupIter s.heap it t i) (ht : IsTup s.heap t items) (hx : items[i]? = none)
    (hQ : ∀ h', Heap.ExtBut it s.heap h' → Q none { s with heap := h' }) : wpAny (model prog w) A (pyNext (.ref it)) Q E s := by
  obtain ⟨hh, o1, vs1, h1, d1, c1⟩ := hot
  obtain ⟨o, ho, hc, hd⟩ := id hit
  obtain ⟨ol, hol, _, nl, hdl⟩ := ht
  unfold pyNext
  refine wpAny_bind (wpAny_attempt (wpAny_callSpecial?_slot (name := Str.ofString "__next__") hit.typeIs slot_tupleiter_next (wpAny_call_entry slot_tupleiter_next hit.typeIs entry_tupleiter_next ?_ (args_tupleiter_next _))))
  show wpAny _ _ (field (.ref it) 0 >>= _) _ _ s
  refine wpAny_bind (wpAny_field ho hd (x := .ref t) rfl (wpAny_ite ?_))
  rw [if_neg (show ¬ ((Value.ref t == Value.none) = true) from Bool.false_ne_true)]
  show wpAny _ _ (field (.ref it) 1 >>= _) _ _ s
  refine wpAny_bind (wpAny_field ho hd (x := .int i 0) rfl ?_)
  show wpAny _ _ (seqItems? (.ref t) >>= _) _ _ s
  refine wpAny_bind (wpAny_seqItems hol hdl ?_)
  simp only [Int.toNat_natCast, hx]
  refine wpAny_bind (wpAny_rule (wpAny_bind (wpAny_setField ho hd (by simp) ?_)))
  refine stop_hot (x1 := x1) ⟨hh, o1, vs1, (Heap.get?_update_other _ _ (Ne.symm hne)).trans h1, d1, c1⟩ fun h' e k ⟨oe, he, hec⟩ => ?_
  refine wpAny_bind (wpAny_isInstance (T := "StopIteration") (b := true) ⟨oe, he, hec⟩ isSubtype_stop ?_)
  exact wpAny_pure (hQ h' fun b o hb z => k b o ((Heap.get?_update_other _ _ (Ne.symm hb)).trans z))
/-- a, b = a tuple of two, while an error is handled -/
theorem unpack_hot {t x1 : Addr} {items : Array Value} {targets : List (Bool × (Value → Sem Unit))} {Q : Unit → Shared → Prop} (hot : HotAt A x1 s.heap) (ht : IsTup s.heap t items) (hn : targets.length = items.size) (hstar : targets.findIdx? (·.1) = none)
    (h : ∀ h', Heap.ExtBut s.heap.objs.size s.heap h' → wpAny (model prog w) A (assignInOrder (targets.map (·.2)) items.toList) Q E { s with heap := h' }) : wpAny (model prog w) A (unpack (.ref t) targets) Q E s := by
  obtain ⟨hh, o1, vs1, h1, d1, c1⟩ := hot
  have hlt : t ≠ s.heap.objs.size := by obtain ⟨o, ho, _⟩ := ht; exact Nat.ne_of_lt (Heap.lt_size ho)
  have hx1 : x1 ≠ s.heap.objs.size := Nat.ne_of_lt (Heap.lt_size h1)
  unfold unpack
  rw [hn, hstar]
  refine wpAny_bind (wpAny_holding ?_)
  unfold unpackItems notIterableAtAll
  refine wpAny_bind (wpAny_bind (wpAny_specialOf ht.typeIs slot_tuple_iter.lookup (wpAny_pure ?_)))
  simp only [Bool.false_eq_true, if_false]
  refine wpAny_bind (wpAny_holding (iter_tuple ht (wpAny_bind (wpAny_holding (draw_tuple hlt items.size 0 _ _ ⟨_, Heap.get?_push_size _ rfl, rfl, rfl⟩ (ht.push _) (by omega) fun h2 it2 sb2 => ?_)))))
  have all : (items.toList.drop 0).take items.size = items.toList := List.take_of_length_le (by simp)
  rw [all, if_neg (by simp)]
  have hot2 : HotAt A x1 h2 := ⟨hh, o1, vs1, sb2.extBut x1 o1 hx1 (Heap.get?_push_of_some _ h1), d1, c1⟩
  refine wpAny_bind (wpAny_holding (tnext_end_hot hot2 hx1 it2 ((ht.push _).extBut sb2.extBut hlt) (by simp) fun h3 e3 => ?_))
  simp only [Option.isSome_none, Bool.false_eq_true, if_false]
  exact wpAny_pure (h h3 fun b o hb e => e3 b o hb (sb2.extBut b o hb (Heap.get?_push_of_some _ e)))
/-- a list's iterator, while an error is handled -/
theorem draws_hot {x1 : Addr} (it l : Addr) (hne : l ≠ it) (hx1 : x1 ≠ it) (items : Array Value) (hh : A.handled = some (.ref x1)) :
    Draws prog w A it [it, l, x1] items.size (fun i v => items[i]? = some v) (fun i h => (h.IsListIter it l i ∧ h.IsList l items) ∧ HotAt A x1 h) where
  live := fun _ _ st => let ⟨o, ho, _⟩ := st.1.1; ⟨o, ho⟩
  frame := fun _ _ _ st hk => ⟨⟨st.1.1.at fun o e => hk it (by simp) o e, st.1.2.at fun o e => hk l (by simp) o e⟩, by
    obtain ⟨hh, o1, vs1, h1, d1, c1⟩ := st.2
    exact ⟨hh, o1, vs1, hk x1 (by simp) _ h1, d1, c1⟩⟩
  item := fun i s Q E hi st hQ => by
    refine wpAny_nextOf_list_item st.1.1 st.1.2 (x := items[i]) (by simp [hi]) fun h' hit' hs' => ?_
    obtain ⟨hh, o1, vs1, h1, d1, c1⟩ := st.2
    exact hQ _ h' s.toks (by simp [hi]) ⟨⟨hit', st.1.2.extBut hs'.extBut hne⟩, hh, o1, vs1, hs'.extBut x1 o1 hx1 h1, d1, c1⟩ hs'
  done := fun s Q E st hE => lnext_end_hot st.2 hx1 st.1.1 st.1.2 (by simp) hE
end
end G

set_option Elab.async false
set_option linter.all false
set_option maxRecDepth 100000
set_option maxHeartbeats 4000000
namespace G
open PySem L2 PySem.Spec PyProof.Rows HotX
variable {M : Md} {H H' H1 H2 : Hp} {ι ι' ι1 ι2 : List Addr} {X : Cx} {W' : WX}
/-- an iterator's turns, in contexts with C -/
structure TurnC (C : Cx → Prop) (P : Program) (w : World) (K : PySem.W.Frag) (tg : Expr) (J : It) (fp : List Addr) (it : Addr) (tn : Nat → Heap → Prop) : Prop where
  mem : it ∈ fp
  obj : ∀ i h, tn i h → ∀ b ∈ fp, ∃ o, h.get? b = some o ∧ ∀ v, o.data ≠ .cell v
  keep : ∀ i h h', tn i h → (∀ b ∈ fp, ∀ o, h.get? b = some o → h'.get? b = some o) → tn i h'
  item : ∀ X : Cx, X.prog = P → X.w = w → X.K = K → C X → ∀ (i : Nat) (pins : List (Addr × Obj)) (s : Shared) (σ : L2.St) (H : Hp) (E : Value → Shared → Prop), Inv X pins σ H s → (∀ b ∈ fp, FpOk X pins H b) → tn i s.heap → J.go i H →
    wpAny (model P w) X.A (pyNext (.ref it)) (fun r s1 => ∃ u, r = some u ∧ wpAny (model P w) X.A (letOwnedTupleGo tg (.ref it) u) (fun _ s2 => ∃ x H', Inv X pins σ H' s2 ∧ RelV x u ∧ J.yld i H x H' ∧ tn (i + 1) s2.heap ∧ ∀ b ∈ fp, H' b = none) E s1) E s
  done : ∀ X : Cx, X.prog = P → X.w = w → X.K = K → C X → ∀ (i : Nat) (pins : List (Addr × Obj)) (s : Shared) (σ : L2.St) (H : Hp) (E : Value → Shared → Prop), Inv X pins σ H s → (∀ b ∈ fp, FpOk X pins H b) → tn i s.heap → J.stop i H →
    wpAny (model P w) X.A (pyNext (.ref it)) (fun r s1 => r = none ∧ Inv X pins σ H s1) E s
  self : ∀ (A : Around) (i : Nat) (s : Shared) (Q : Value → Shared → Prop) (E : Value → Shared → Prop), tn i s.heap → Q (.ref it) s → wpAny (model P w) A (pyIter (.ref it)) Q E s
def PIEC (C : Cx → Prop) (X : Cx) (pins : List (Addr × Obj)) (σ : L2.St) (tg : Expr) (R : It → Hp → Prop) (itv : Value) (s2 : Shared) : Prop :=
  ∃ (it : Addr) (fp : List Addr) (tn : Nat → Heap → Prop) (J : It) (H' : Hp), itv = .ref it ∧ Inv X pins σ H' s2 ∧ TurnC C X.prog X.w X.K tg J fp it tn ∧ tn 0 s2.heap ∧ (∀ b ∈ fp, FpOk X pins H' b) ∧ R J H'
structure PIC (C : Cx → Prop) (X : Cx) (tg iter : Expr) (wi : TI) : Prop where
  run : ∀ (pins : List (Addr × Obj)) (s : Shared) (σ : L2.St) (H : Hp) (R : It → Hp → Prop), Inv X pins σ H s → wi σ H R →
    wpAny (model X.prog X.w) X.A (eval iter X.env) (fun v s1 => wpAny (model X.prog X.w) X.A (pyIter v) (PIEC C X pins σ tg R) X.xe s1) X.xe s
/-- the loop of a clause, in contexts with C -/
theorem loop_hot {C : Cx → Prop} {Y : Cx} {c : Ck} {gens : List Comprehension} {scope : Scope} {pos p : Pos} {pins : List (Addr × Obj)} {σ : L2.St} {vs vd : List Nat} {s : Shared} {j : Nat} {tg : Expr} {ifs : List Expr} {m : Value → Env → Sem PySem.Fin → Sem PySem.Fin} {J : It} {fp : List Addr} {it : Addr} {tn : Nat → Heap → Prop}
    {acc : Value} {g : TG} {tt : TT} {body : TH} {Wm : Nat → Nat → Hp → Prop} {Out : Hp → Prop} {R : Result → Shared → Prop} (hx : Y.xe = fun _ _ => False) (hc : C Y) (te : TurnEq (c.ex gens scope pos) j tg ifs p m) (T : TurnC C Y.prog Y.w Y.K tg J fp it tn) (pg : PG Y tg g) (pt : PTs Y ifs tt) (pm : PAct Y vd (m acc Y.env) body) (sub : ∀ l ∈ vd, l ∈ vs)
    (I : Inv Y pins (L2.wipe σ vs) H s) (st : tn 0 s.heap) (hf : ∀ b ∈ fp, FpOk Y pins H b) (m0 : Nat) (w0 : Wm 0 m0 H)
    (turn : ∀ i n H, Wm i n H → (J.stop i H ∧ Out H) ∨ (J.go i H ∧ ∃ Nx : Hp → Prop, (∀ H', Nx H' → ∃ n', n' < n ∧ Wm (i + 1) n' H') ∧ ∀ x H', J.yld i H x H' → g x (L2.wipe σ vs) H' fun σ2 H2 => L2.wipe σ2 vs = L2.wipe σ vs ∧ tt σ2 H2 fun b H3 => if b = true then body σ2 H3 Nx else Nx H3))
    (hR : ∀ s' H', Inv Y pins (L2.wipe σ vs) H' s' → Out H' → R (.ok .next) s') : codeAny (model Y.prog Y.w) Y.A (.compLoop (c.ex gens scope pos) j (.ref it) acc Y.env) R s := by
  have goal : ∀ (hq : (Code.compLoop (c.ex gens scope pos) j (.ref it) acc Y.env).quiet = true) (hu : Y.A.under (.compLoop (c.ex gens scope pos) j (.ref it) acc Y.env) = Y.A)
      (hd : ∀ {Q : PySem.Fin → Shared → Prop} {E : Value → Shared → Prop} {s : Shared}, wpAny (model Y.prog Y.w) Y.A (compTurn (c.ex gens scope pos) j (.ref it) acc Y.env) Q (notedBy (model Y.prog Y.w) Y.A Y.env E) s → wpAny (model Y.prog Y.w) Y.A ((model Y.prog Y.w).den (.compLoop (c.ex gens scope pos) j (.ref it) acc Y.env)) Q E s),
      codeAny (model Y.prog Y.w) Y.A (.compLoop (c.ex gens scope pos) j (.ref it) acc Y.env) R s := fun hq hu hd => by
    refine codeAny_loop hq (fun n s' => ∃ i H', Inv Y pins (L2.wipe σ vs) H' s' ∧ tn i s'.heap ∧ (∀ b ∈ fp, FpOk Y pins H' b) ∧ Wm i n H') (fun n s1 h1 => ?_) m0 ⟨0, H, I, st, hf, w0⟩
    obtain ⟨i, H1, I1, st1, f1, w1⟩ := h1
    rw [hu]
    refine hd ?_
    rw [te]
    refine wpAny_bind (wpAny_standAt (wpAny_bind ?_))
    have up : ∀ {α : Type} {t : Sem α} {Q Q' : α → Shared → Prop} {E' : Value → Shared → Prop} {s : Shared}, wpAny (model Y.prog Y.w) Y.A t Q Y.xe s → (∀ a s, Q a s → Q' a s) → wpAny (model Y.prog Y.w) Y.A t Q' E' s := fun h k => by
      rw [hx] at h
      exact thnF h k
    rcases turn i n H1 w1 with ⟨stop, out⟩ | ⟨go, Nx, hNx, step⟩
    · refine thnF (T.done Y rfl rfl rfl hc i pins s1 _ H1 (fun _ _ => False) I1 f1 st1 stop) fun r s2 ⟨hr, I2⟩ => ?_
      subst hr
      exact wpAny_pure (hR s2 H1 I2 out)
    · refine thnF (T.item Y rfl rfl rfl hc i pins s1 _ H1 (fun _ _ => False) I1 f1 st1 go) fun r s2 ⟨u, hr, h2⟩ => ?_
      subst hr
      refine wpAny_bind (thnF h2 fun _ s3 ⟨x, H3, I3, r3, y3, st3, n3⟩ => ?_)
      have f3 : ∀ b ∈ fp, FpOk Y pins H3 b := fun b hb => fp_stays (f1 b hb) (n3 b hb)
      have I3' := I3.pinned f3 (T.obj _ _ st3)
      refine wpAny_bind (up (pg.run _ s3 _ H3 x u _ I3' r3 (step x H3 y3)) fun _ s4 ⟨σ4, H4, I4, hw4, q4⟩ => ?_)
      refine wpAny_bind (up (pt.run _ s4 σ4 H4 _ I4 q4) fun b s5 ⟨H5, I5, q5⟩ => ?_)
      have fin : ∀ {s' : Shared} {H' : Hp} {σ' : L2.St}, Inv Y (pins ++ pinsAt fp s3.heap) σ' H' s' → L2.wipe σ' vd = L2.wipe σ4 vd → Nx H' → ∃ m', m' < n ∧ ∃ i H', Inv Y pins (L2.wipe σ vs) H' s' ∧ tn i s'.heap ∧ (∀ b ∈ fp, FpOk Y pins H' b) ∧ Wm i m' H' := fun {s' H' σ'} I' hw' nx => by
        obtain ⟨m', hm, w'⟩ := hNx H' nx
        have pin' : ∀ b ∈ fp, ∀ o, s3.heap.get? b = some o → s'.heap.get? b = some o ∧ H' b = none := fun b hb o e => by
          have z := I'.pin (b, o) (List.mem_append_right _ (List.mem_append_right _ (mem_pinsAt hb e)))
          exact ⟨z.1, z.2.1⟩
        have hlen : (L2.wipe σ vs).length = σ'.length := by rw [← hw4, L2.wipe_length, ← L2.wipe_length σ4 vd, ← hw', L2.wipe_length]
        refine ⟨m', hm, i + 1, H', I'.unpinned.weak hlen (fun l v e => by
          rw [← hw4] at e
          obtain ⟨e1, nl⟩ := L2.wipe_some e
          have nd : l ∉ vd := fun h => nl (sub l h)
          rw [← L2.wipe_out nd, ← hw', L2.wipe_out nd] at e1
          exact e1), T.keep _ _ _ st3 fun b hb o e => (pin' b hb o e).1, fun b hb => ?_, w'⟩
        obtain ⟨o, e, _⟩ := T.obj _ _ st3 b hb
        exact fp_stays (f1 b hb) (pin' b hb o e).2
      cases b with
      | false =>
        rw [if_neg Bool.false_ne_true] at q5 ⊢
        exact wpAny_pure ⟨rfl, fin I5 rfl q5⟩
      | true =>
        rw [if_pos rfl] at q5 ⊢
        exact pm.run _ s5 σ4 H5 Nx _ _ _ I5 q5 fun s' H' σ' I' hw' nx => wpAny_pure ⟨rfl, fin I' hw' nx⟩
  cases c with
  | l elt => exact goal rfl rfl fun h => wpAny_noted h
  | d k v => exact goal rfl rfl fun h => wpAny_noted h
theorem core_hot {C : Cx → Prop} {c : Ck} {pins : List (Addr × Obj)} {s : Shared} {σ : L2.St} {Q : VK} {tg iter : Expr} {ifs : List Expr} {rest : List Comprehension} {scope : Scope} {own : List (Str × Nat)} {vd : List Nat} {pos pos' p : Pos} {wi : TI} {g : TG} {tt : TT} {body : Addr → TH} {m : Value → Env → Sem PySem.Fin → Sem PySem.Fin} {use : Option (Value → Sem Unit)} {Qf : Value → Shared → Prop}
    (hC : ∀ (s : Shared) (H : Hp) (σ : L2.St) (L : Addr) (cl : List (Str × Addr)) (fp : List Addr), Inv X pins σ H s → (∀ b ∈ fp, FpOk X pins H b) → C (X.blk s H scope (compEnvC scope cl L X.env) fp)) (hN : X.N.Nodup) (I : Inv X pins σ H s) (hi : PIC C X tg iter wi) (ok : BlkOk X.N X.env.scope scope own) (sub : ∀ l ∈ vd, l ∈ own.map (·.2))
    (te : TurnEq (c.ex (⟨tg, iter, ifs, 0⟩ :: rest) scope pos) 0 tg ifs p m)
    (hg : Blks X scope fun Y => C Y → PG Y tg g) (ht : Blks X scope fun Y => PTs Y ifs tt) (hm : ∀ D, Blks X scope fun Y => PAct Y vd (m (.ref D) Y.env) (body D)) (hs : ∀ x, foldedSetIterable iter X.env x = pure x)
    (h : tCk c wi g tt body (own.map (·.2)) σ H Q)
    (hRR : ∀ D C s' m H', Inv X pins σ H' s' → Q (.ref D) H' → s'.heap.Ns C m → FpOk X pins H' C → compPost (model X.prog X.w) X.A X.xe use Qf (.ref D) C (.ok .next) s') :
    wpAny (model X.prog X.w) X.A (comprehension (c.ex (⟨tg, iter, ifs, 0⟩ :: rest) scope pos) scope X.env pos' c.new false (eval iter X.env) use) Qf X.xe s := by
  have hfree : ∀ y ∈ scope.names, y.2 = .free → ∃ z, X.env.cells.lookup y.1 = some z := fun y hy e => (ok.free y hy e).elim (fun k => I.ok.has _ (.inl k)) (fun k => I.ok.has _ (.inr k))
  have hcl : clausesOf (c.ex (⟨tg, iter, ifs, 0⟩ :: rest) scope pos) = ⟨tg, iter, ifs, 0⟩ :: rest := by cases c <;> rfl
  refine wpAny_comprehension_free (use := use) hcl hs (closure_ok hfree) ok.kind (fun y hy e => by rw [ok.uniq y hy, e]) (thn (hi.run pins s σ H _ I h) fun xv s1 h1 => thn h1 fun itv s2 h2 => ?_)
  obtain ⟨it, fp, tn, J, H2, e, I2, T, st2, f2, q⟩ := h2
  subst e
  refine c.new_ok (newEnv_comp ?_)
  generalize hD : s2.heap.objs.size = D
  have hDn : H2 D = none := I2.hok.fresh (Nat.le_of_eq hD)
  obtain ⟨Wm, ⟨m0, w0⟩, turn⟩ := q D hDn
  generalize hs3 : ({ s2 with heap := s2.heap.push c.obj } : Shared) = s3
  have h3 : s3.heap = s2.heap.push c.obj := by rw [← hs3]
  have I3 : Inv X pins σ (upd H2 D c.ho) s3 := by
    rw [← hs3]
    refine I2.laid (t' := s2.toks) (fun b o e => Heap.get?_push_of_some _ e) (Nat.le_of_eq hD) ?_
    rw [← hD]
    exact Ck.ok s2.heap I2.big
  have f3 : ∀ b ∈ fp, FpOk X pins (upd H2 D c.ho) b ∧ b < s3.heap.objs.size := fun b hb => by
    obtain ⟨o, e, _⟩ := T.obj _ _ st2 b hb
    have lt := Heap.lt_size e
    refine ⟨fp_stays (f2 b hb) ?_, by rw [h3, Heap.size_push]; exact Nat.lt_succ_of_lt lt⟩
    rw [upd_ne (by rw [← hD]; exact Nat.ne_of_lt lt)]
    exact (f2 b hb).1
  have st3 : tn 0 s3.heap := T.keep _ _ _ st2 fun b _ o e => by rw [h3]; exact Heap.get?_push_of_some _ e
  have I4 := block_start I3 ok hN f3
  generalize hcells : cellsFrom (s3.heap.objs.size + 1) scope.names (cloFrom X.env.cells scope.names []) = cl at I4
  have cY := hC s3 (upd H2 D c.ho) σ s3.heap.objs.size cl fp I3 fun b hb => (f3 b hb).1
  have pg := hg s3 (upd H2 D c.ho) s3.heap.objs.size cl fp cY
  have pt := ht s3 (upd H2 D c.ho) s3.heap.objs.size cl fp
  have pm := hm D s3 (upd H2 D c.ho) s3.heap.objs.size cl fp
  show codeAny _ _ (.compStart (c.ex (⟨tg, iter, ifs, 0⟩ :: rest) scope pos) 0 (.ref it) (.ref D) (compEnvC scope cl s3.heap.objs.size X.env)) (compPost (model X.prog X.w) X.A X.xe use Qf (.ref D) s3.heap.objs.size) { s3 with heap := pushCells (s3.heap.push { cls := .type "dict", data := .dict #[] }) scope.names }
  generalize hH3 : upd H2 D c.ho = H3 at I3 I4 pg pt pm w0 f3 cY
  generalize hs4 : ({ s3 with heap := pushCells (s3.heap.push { cls := .type "dict", data := .dict #[] }) scope.names } : Shared) = s4 at I4 ⊢
  have st4 : tn 0 s4.heap := T.keep _ _ _ st3 fun b _ o e => by rw [← hs4]; exact pushCells_keeps _ _ _ _ (Heap.get?_push_of_some _ e)
  have f4 : ∀ b ∈ fp, FpOk (X.blk s3 H3 scope (compEnvC scope cl s3.heap.objs.size X.env) fp) [] H3 b := fun b hb =>
    ⟨(f3 b hb).1.1, (I4.ok.exf b hb).1, I4.ok.exfs b hb, .inl hb, fun x z e => (I4.ok.exf b hb).2 x z e, fun p hp => absurd (show p ∈ ([] : List (Addr × Obj)) ++ [] from hp) (by simp)⟩
  have loop : codeAny (model X.prog X.w) X.A (.compLoop (c.ex (⟨tg, iter, ifs, 0⟩ :: rest) scope pos) 0 (.ref it) (.ref D) (compEnvC scope cl s3.heap.objs.size X.env)) (compPost (model X.prog X.w) X.A X.xe use Qf (.ref D) s3.heap.objs.size) s4 :=
    loop_hot (C := C) (Y := X.blk s3 H3 scope (compEnvC scope cl s3.heap.objs.size X.env) fp) (Out := Q (.ref D)) rfl cY te T pg pt pm sub I4 st4 f4 m0 w0 turn fun s6 H6 I6 out => by
      have I7 : Inv X pins σ H6 s6 := I3.call' (ch := fp) I6.os I6.base I6.hok I6.bare fun b hb => ⟨(f3 b hb).1.2.2.2.1, (f3 b hb).1.2.1, (f3 b hb).1.2.2.2.2.1, (f3 b hb).1.2.2.2.2.2⟩
      have nC : H6 s3.heap.objs.size = none := I6.free
      obtain ⟨mm, hn, _⟩ := I6.loc
      exact hRR D s3.heap.objs.size s6 mm H6 I7 out hn (I3.fpOk (Nat.le_refl _) nC)
  exact start_gen rfl loop (T.self X.A 0 _ _ _ st4 loop)
/-- a list, as a value -/
theorem pe_lcC {C : Cx → Prop} {elt tg iter : Expr} {ifs : List Expr} {rest : List Comprehension} {scope : Scope} {own : List (Str × Nat)} {vd : List Nat} {pos p : Pos} {wi : TI} {g : TG} {tt : TT} {body : Addr → TH} {m : Value → Env → Sem PySem.Fin → Sem PySem.Fin}
    (hC : ∀ (pins : List (Addr × Obj)) (s : Shared) (H : Hp) (σ : L2.St) (L : Addr) (cl : List (Str × Addr)) (fp : List Addr), Inv X pins σ H s → (∀ b ∈ fp, FpOk X pins H b) → C (X.blk s H scope (compEnvC scope cl L X.env) fp)) (hN : X.N.Nodup) (hi : PIC C X tg iter wi) (ok : BlkOk X.N X.env.scope scope own) (sub : ∀ l ∈ vd, l ∈ own.map (·.2))
    (te : TurnEq ((Ck.l elt).ex (⟨tg, iter, ifs, 0⟩ :: rest) scope pos) 0 tg ifs p m) (hg : Blks X scope fun Y => C Y → PG Y tg g) (ht : Blks X scope fun Y => PTs Y ifs tt) (hm : ∀ D, Blks X scope fun Y => PAct Y vd (m (.ref D) Y.env) (body D)) (hs : ∀ x, foldedSetIterable iter X.env x = pure x) :
    PE X (.ListComp elt (⟨tg, iter, ifs, 0⟩ :: rest) scope pos) (tCk (.l elt) wi g tt body (own.map (·.2))) := ⟨fun pins s σ H Q I h => by
  rw [arm_eval_ListComp]
  refine core_hot (C := C) (c := .l elt) (hC pins) hN I hi ok sub te hg ht hm hs h fun D L s' m H' I' q hn f => ⟨m, hn, fun h'' sb => ?_⟩
  obtain ⟨f0, f1, f2, f3, f4, f5⟩ := f
  exact ⟨.ref D, H', I'.turned (t' := s'.toks) (fun b o hb e => (sb.2 b hb).trans e) f0 f1 f3 f4 f5, rfl, q⟩⟩
end G

set_option Elab.async false
set_option linter.all false
set_option maxRecDepth 100000
set_option maxHeartbeats 4000000
namespace G
open PySem L2 PySem.Spec PyProof.Rows HotX L2H
variable {M : Md} {H H' H1 H2 : Hp} {ι ι' ι1 ι2 : List Addr} {X : Cx} {W' : WX}
/-- the context bears the handled error at x1 -/
def HotY (x1 : Addr) (Y : Cx) : Prop := Y.A.handled = some (.ref x1) ∧ ∀ (pins : List (Addr × Obj)) (σ : L2.St) (H : Hp) (s : Shared), Inv Y pins σ H s → HotAt Y.A x1 s.heap
theorem hotY_of {p : Addr × Obj} (h : Hot1 X.A p) (hp : p ∈ X.pn) : HotY p.1 X := ⟨h.1, fun pins σ H s I => by
  obtain ⟨vs, e1, e2⟩ := h.2
  exact ⟨h.1, p.2, vs, (I.pin p (List.mem_append_left _ hp)).1, e1, e2⟩⟩
theorem hotY_blk {p : Addr × Obj} {pins : List (Addr × Obj)} {σ : L2.St} {s0 : Shared} {H0 : Hp} {scope : Scope} {env : Env} {fp : List Addr} (h : Hot1 X.A p) (hp : p ∈ X.pn) (I0 : Inv X pins σ H0 s0) (f : ∀ b ∈ fp, FpOk X pins H0 b) : HotY p.1 (X.blk s0 H0 scope env fp) := ⟨h.1, fun pins' σ' H' s' I => by
  obtain ⟨vs, e1, e2⟩ := h.2
  obtain ⟨g1, g2, g3, g4, g5⟩ := I0.pin p (List.mem_append_left _ hp)
  have nf : p.1 ∉ fp := fun hm => (f p.1 hm).2.2.2.2.2 p (List.mem_append_left _ hp) rfl
  have ns : p.1 ∉ (X.blk s0 H0 scope env fp).fs := fun hm => (List.mem_cons.mp (I0.stkSub p.1 hm)).elim g3 g4
  exact ⟨h.1, p.2, vs, I.base.keep p.1 p.2 g1 g2 ns nf, e1, e2⟩⟩
/-- a, b = a pair -/
theorem pg_tupH {x1 : Addr} {es : List Expr} {k : Nat} {pos : Pos} {t : TGs} {n : Nat} (hc : HotY x1 X) (h : PGs X es t) (hn : (assignEach es X.env).length = n) (hst : (assignEach es X.env).findIdx? (·.1) = none) : PG X (.Tuple es k pos) (gTup X.K n t) := by
  refine ⟨fun pins s σ H v u Q I r hw => ?_⟩
  obtain ⟨a, xs, rfl, hq, hl, hw⟩ := hw
  cases r
  obtain ⟨its, rv, ht, hz⟩ := I.tuple hq
  rw [assign_Tuple]
  refine wpAny_bind (wpAny_standAt (unpack_hot (hc.2 _ _ _ _ I) ht (by simp [hn, ← hl, rv.length]) hst fun h' hx => ?_))
  exact h.run pins _ σ H xs _ Q (I.kept (t' := s.toks) fun b o e => hx b o (Nat.ne_of_lt (Heap.lt_size e)) e) (by simpa using rv) hw
/-- zip of two lists -/
theorem turn_zipH {x1 : Addr} {P : Program} {w : World} {K : PySem.W.Frag} {elts : List Expr} {kk : Nat} {tpos : Pos} {a b z TI TO i1 i2 : Addr} (D : ZipSep2 z TI TO i1 i2 [i1, a, x1] [i2, b, x1]) (na : a ≠ i1) (nb : b ≠ i2) (n1 : x1 ≠ i1) (n2 : x1 ≠ i2) :
    TurnC (HotY x1) P w K (.Tuple elts kk tpos) (ItzB K false false a b) [z, TI, TO, i1, i2] z (fun i h => IsZip h z TI TO .none ∧ IsTupOf2 h TI (.ref i1) (.ref i2) ∧ (∃ x y, IsTupOf2 h TO x y) ∧ ItB false h i1 a i ∧ ItB false h i2 b i) where
  mem := List.mem_cons_self ..
  obj := fun i h ⟨hz, hI, ⟨x, y, hO⟩, h1, h2⟩ c hc => by
    simp only [List.mem_cons, List.not_mem_nil, or_false] at hc
    rcases hc with rfl | rfl | rfl | rfl | rfl
    · exact ⟨_, hz, fun v q => nomatch q⟩
    · exact ⟨_, hI, fun v q => nomatch q⟩
    · exact ⟨_, hO, fun v q => nomatch q⟩
    · exact itB_obj h1
    · exact itB_obj h2
  keep := fun i h h' ⟨hz, hI, ⟨x, y, hO⟩, h1, h2⟩ k => ⟨k z (by simp) _ hz, k TI (by simp) _ hI, ⟨x, y, k TO (by simp) _ hO⟩, itB_keep h1 fun o q => k i1 (by simp) o q, itB_keep h2 fun o q => k i2 (by simp) o q⟩
  item := by
    rintro X rfl rfl rfl hc i pins s σ H E I hf ⟨hz, hI, ⟨x0, y0, hO⟩, h1, h2⟩ ⟨xs, ys, x, y, qx, qy, hx, hy⟩
    obtain ⟨ux, rv, p⟩ := seqB_of I qx
    obtain ⟨uy, rv2, p2⟩ := seqB_of I qy
    obtain ⟨u, hu, ru⟩ := rv.get hx
    obtain ⟨u2, hu2, ru2⟩ := rv2.get hy
    have hot := hc.2 _ _ _ _ I
    have hh : X.A.in1.handled = some (.ref x1) := hc.1
    have hot1 : HotAt X.A.in1 x1 s.heap := hot
    have lz : z < s.heap.objs.size := Heap.lt_size hz
    have l1 : i < ux.toArray.size := by simpa using (List.getElem?_eq_some_iff.mp hu).1
    have l2 : i < uy.toArray.size := by simpa using (List.getElem?_eq_some_iff.mp hu2).1
    refine wpAny_pyNext_zipD2_item D (draws_hot i1 a na n1 _ hh) (draws_hot i2 b nb n2 _ hh) hz hI hO ⟨⟨h1, p⟩, hot1⟩ ⟨⟨h2, p2⟩, hot1⟩ l1 l2 fun v1 v2 h' tk e1 e2 z' O' s1 s2 hT hsz hk => ?_
    have e1 : u = v1 := Option.some.inj (by rw [← hu, ← e1]; simp)
    have e2 : u2 = v2 := Option.some.inj (by rw [← hu2, ← e2]; simp)
    subst e1 e2
    refine ⟨_, rfl, wpAny_letOwnedTupleGo_zip (s := { s with heap := h', toks := tk }) z' fun h'' z'' sb => ?_⟩
    have hT2 : h''.get? s.heap.objs.size = some { cls := .type "tuple", data := .seq #[u, u2] } := (sb.2 _ (Nat.ne_of_gt lz)).trans hT
    have new : ObjOk X.prog X.w (upd H s.heap.objs.size (.tup [x, y])) h'' s.heap.objs.size (.tup [x, y]) := ⟨(by decide : (2 : Nat) ≤ sizeLine), _, .cons ru (.cons ru2 .nil), _, hT2, rfl, _, rfl⟩
    have ks : ∀ c o, c ∉ [z, TI, TO, i1, i2] → s.heap.get? c = some o → h''.get? c = some o := fun c o hc q => by
      simp only [List.mem_cons, List.not_mem_nil, or_false, not_or] at hc
      exact (sb.2 c hc.1).trans (hk c o hc.1 hc.2.2.1 hc.2.2.2.1 hc.2.2.2.2 q)
    have I1 : Inv X pins σ (upd H s.heap.objs.size (.tup [x, y])) { s with heap := h'', toks := tk } := I.turnedNew ks hf (Nat.le_refl _) new
    refine ⟨.ref s.heap.objs.size, _, I1, rfl, ⟨_, x, y, rfl, I.hok.fresh (Nat.le_refl _), rfl, fun l hl => by rw [seqB_one I hl qx]; exact hx, fun l hl => by rw [seqB_one I hl qy]; exact hy⟩, ⟨z'', (sb.2 _ D.TIz).trans (hk _ _ D.TIz D.TITO D.TIi1 D.TIi2 hI), ⟨u, u2, (sb.2 _ D.TOz).trans O'⟩, itB_keep (k := false) s1.1.1 fun o q => (sb.2 _ (fun e => D.zf1 (e ▸ D.mem1))).trans q, itB_keep (k := false) s2.1.1 fun o q => (sb.2 _ (fun e => D.zf2 (e ▸ D.mem2))).trans q⟩, fun c hcm => ?_⟩
    have lt : c < s.heap.objs.size := by
      simp only [List.mem_cons, List.not_mem_nil, or_false] at hcm
      rcases hcm with rfl | rfl | rfl | rfl | rfl
      · exact lz
      · exact Heap.lt_size hI
      · exact Heap.lt_size hO
      · obtain ⟨_, e, _⟩ := itB_obj h1; exact Heap.lt_size e
      · obtain ⟨_, e, _⟩ := itB_obj h2; exact Heap.lt_size e
    rw [upd_ne (Nat.ne_of_lt lt)]
    exact (hf c hcm).1
  done := by
    rintro X rfl rfl rfl hc i pins s σ H E I hf ⟨hz, hI, ⟨x0, y0, hO⟩, h1, h2⟩ ⟨xs, ys, qx, qy, b1, b2, b3⟩
    obtain ⟨ux, rv, p⟩ := seqB_of I qx
    obtain ⟨uy, rv2, p2⟩ := seqB_of I qy
    have hot1 : HotAt X.A.in1 x1 s.heap := hc.2 _ _ _ _ I
    have hh : X.A.in1.handled = some (.ref x1) := hc.1
    have e1 : ux.toArray.size = xs.length := by rw [rv.length]; simp
    have e2 : uy.toArray.size = ys.length := by rw [rv2.length]; simp
    refine wpAny_pyNext_zipD2_end D (draws_hot i1 a na n1 _ hh) (draws_hot i2 b nb n2 _ hh) hz hI hO ⟨⟨h1, p⟩, hot1⟩ ⟨⟨h2, p2⟩, hot1⟩ (by rw [e1]; exact b1) (by rw [e2]; exact b2) (by rw [e1, e2]; exact b3) fun h' tk hk => ⟨rfl, I.turnedL (fun c o hc q => ?_) hf⟩
    simp only [List.mem_cons, List.not_mem_nil, or_false, not_or] at hc
    exact hk c o hc.1 hc.2.2.1 hc.2.2.2.1 hc.2.2.2.2 q
  self := fun A i s Q E st h => wpAny_pyIter_zip st.1 h
def iZipL (K : PySem.W.Frag) (ta : TA) : TI := fun σ H R => ta σ H fun vs H1 => ∃ a b xs ys, vs = [.ref a, .ref b] ∧ SqL K H1 a xs ∧ SqL K H1 b ys ∧ R (ItzB K false false a b) H1
theorem pi_zipH {x1 : Addr} {e e2 : Expr} {ta : TA} {p pos tpos : Pos} {elts : List Expr} {kk : Nat} (hc : HotY x1 X) (hg : Gl X "zip") (hm : X.mg "zip" = none) (hp : [e, e2].all plainArg = true) (ha : PA X [e, e2] ta) :
    PIC (HotY x1) X (.Tuple elts kk tpos) (.Call (.Name "zip" p) [e, e2] [] pos) (iZipL X.K ta) := ⟨fun pins s σ H R I h => by
  rw [List.all_cons, Bool.and_eq_true] at hp
  refine Call_ (ld_blt I hg hm PyProof.Rows.boot_zip (PyProof.Rows.callWith_type1 (thn (ha.run pos pins s σ H _ I h) fun us s1 hr => ?_) (starEach_cons hp.1) (starEach_plain hp.2)))
  obtain ⟨vs, H1, I1, r1, a, b, xs, ys, rfl, qx, qy, q⟩ := hr
  obtain ⟨v, v2, rfl, ra, rb⟩ : ∃ v v2, us = [v, v2] ∧ RelV (.ref a) v ∧ RelV (.ref b) v2 := by
    cases r1 with
    | cons r rr => cases rr with
      | cons r' rr => cases rr; exact ⟨_, _, rfl, r, r'⟩
  cases ra
  cases rb
  obtain ⟨ux, rv, px⟩ := seqB_of (k := false) I1 qx
  obtain ⟨uy, rv2, py⟩ := seqB_of (k := false) I1 qy
  have l1 := isB_lt px
  have l2 := isB_lt py
  have l3 : x1 < s1.heap.objs.size := by
    obtain ⟨_, o1, _, h1, _⟩ := hc.2 _ _ _ _ I1
    exact Heap.lt_size h1
  refine zip_begins2 (beginsB false a _) (beginsB false b _) px py fun h' z' I' O' j1 j2 hsz hk => wpAny_pyIter_zip z' ?_
  have I2 : Inv X pins σ H1 { s1 with heap := h' } := I1.kept (t' := s1.toks) hk
  have m2 : ∀ {c : Addr} (l : c < s1.heap.objs.size), ∀ y ∈ [c, x1], y < s1.heap.objs.size := fun {c} l y hy => by
    simp only [List.mem_cons, List.not_mem_nil, or_false] at hy
    rcases hy with rfl | rfl
    · exact l
    · exact l3
  refine ⟨_, _, _, _, H1, rfl, I2, turn_zipH (x1 := x1) (i1 := s1.heap.objs.size) (i2 := s1.heap.objs.size + 1) (zip_sep2 (N := s1.heap.objs.size) (m2 l1) (m2 l2)) (Nat.ne_of_lt l1) (Nat.ne_of_lt (Nat.lt_succ_of_lt l2)) (Nat.ne_of_lt l3) (Nat.ne_of_lt (Nat.lt_succ_of_lt l3)), ⟨z', I', ⟨_, _, O'⟩, itB_new j1, itB_new j2⟩, fun c hc => fresh_fp I1 ?_, q⟩
  simp only [List.mem_cons, List.not_mem_nil, or_false] at hc
  rcases hc with rfl | rfl | rfl | rfl | rfl
  · exact Nat.le_add_right _ _
  · exact Nat.le_add_right _ _
  · exact Nat.le_add_right _ _
  · exact Nat.le_refl _
  · exact Nat.le_add_right _ _⟩
end G

set_option Elab.async false
set_option linter.all false
set_option maxRecDepth 100000
set_option maxHeartbeats 4000000
namespace G
open PySem L2 PySem.Spec PyProof.Rows HotX L2H
variable {M : Md} {H H' H1 H2 : Hp} {ι ι' ι1 ι2 : List Addr} {X : Cx} {W' : WX}
/-! ### isinstance of the error that is handled -/
theorem call_isP {p : Addr × Obj} {D : Addr} (hp : p ∈ X.pn) (C : L2.ExcC X.K D) (hz : Zc (.ref D) none p.2) (hf : ∃ vs, p.2.data = .fields vs) : CallR X (.builtin "isinstance") (rIsE X.K D p.1) := by
  obtain ⟨a, oe⟩ := p
  intro pins s σ H xs us Q I r h
  obtain ⟨c, cv, b, rfl, hcv, e, q⟩ := h
  cases r with
  | cons rx rr =>
    cases rr with
    | cons rt rr =>
      cases rr
      cases rx
      obtain rfl := hcv _ rt
      have hget := (I.pin (a, oe) (List.mem_append_left _ hp)).1
      have J : PySem.W.InstAt s.heap a oe D none := by
        obtain ⟨vs, hv⟩ := hf
        obtain ⟨oc, od, oda, osl⟩ := oe
        obtain ⟨h1, h2⟩ := hz
        dsimp only at h1 h2 hv
        subst h1 h2 hv
        exact ⟨hget, rfl, rfl, trivial⟩
      exact PySem.W.kia_one (PySem.W.handS_kitx_exc C.hg C.hk C.hs C.hd C.ha C.hn C.ht C.hm) I.kIn J e (fun z => nomatch z) fun tk => ⟨.bl b, H, I.kept (t' := tk) fun _ _ z => z, rfl, q⟩
def tIs (i : Nat) (a : Addr) (b : Bool) : TE := fun σ H Q => σ[i]? = some (some (.ref a)) ∧ Q (.bl b) H
theorem pe_isP {p : Addr × Obj} {D C : Addr} {i : Nat} {e y : Str} {b : Bool} {p1 p2 p3 p4 : Pos} (hp : p ∈ X.pn) (Ce : L2.ExcC X.K D) (hz : Zc (.ref D) none p.2) (hf : ∃ vs, p.2.data = .fields vs) (hi : X.mg "isinstance" = none) (gi : Gl X "isinstance") (hN : X.N[i]? = some e) (hv : Vis X.env.scope e) (he1 : (e == ("__debug__" : Str)) = false) (he2 : (e == ("__classdict__" : Str)) = false)
    (gy : Gl X y) (hy : X.mg y = some (.ref C)) (hd : (y == ("__debug__" : Str)) = false) (k : PySem.W.kitOne X.K (.ref D) (.ref C) = some b) : PE X (.Call (.Name "isinstance" p1) [.Name e p2, .Name y p3] [] p4) (tIs i p.1 b) :=
  PE.imp (pe_callB (call_isP hp Ce hz hf) gi hi PyProof.Rows.boot_isinstance (pa_cons (pe_var hN hv he1 he2) (pa_cons (pe_glob gy hy (v := .ref C) rfl hd) pa_nil))) fun σ H Q ⟨h1, h2⟩ => ⟨_, h1, .ref C, .ref C, b, rfl, fun u r => r, k, h2⟩
/-! ### an item that is kept -/
theorem act_appV {D : Addr} {elt : Expr} {te : TE} (hx : X.xe = fun _ _ => False) (he : PE X elt te) : PAct X [] (fun k => Ck.emit (.l elt) (.ref D) X.env >>= fun _ => k) (fun σ H Q => te σ H fun y H1 => ∃ xs, H1 D = some (.lst xs) ∧ xs.length < sizeLine ∧ Q (upd H1 D (.lst (xs ++ [y])))) := ⟨fun pins s σ H Q k Qk Er I h hk => by
  have up : ∀ {α : Type} {t : Sem α} {Q Q' : α → Shared → Prop} {E' : Value → Shared → Prop} {s : Shared}, wpAny (model X.prog X.w) X.A t Q X.xe s → (∀ a s, Q a s → Q' a s) → wpAny (model X.prog X.w) X.A t Q' E' s := fun h k => by
    rw [hx] at h
    exact thnF h k
  exact wpAny_bind (wpAny_bind (up (he.run pins s σ H _ I h) fun x s1 ⟨y, H4, I4, r4, xs, e4, hz, q⟩ => wpAny_bind (app_ok I4 e4 hz r4 fun s5 I5 => wpAny_pure (hk s5 _ σ I5 rfl q))))⟩
/-! ### what names the error -/
abbrev sNm : Stmt := topN 139
def nmN : List Str := ["_law_e", "_law_some_here", "_law_labels", "_law_label", "_law_good"]
theorem scNm : FnScope nmN ["_law_e"] (defScope sNm) := ⟨rfl, rfl, rfl, by decide +kernel, rfl, by decide +kernel, by decide +kernel⟩
/-- the texts of the marks that stand -/
def pick : List Str → List Bool → List Str
  | x :: xs, b :: bs => if b = true then x :: pick xs bs else pick xs bs
  | _, _ => []
def labL : List Str := ["tree", "path", "name", "order", "lotted", "work", "manner"]
theorem labL_eq : Txt.split "tree path name order lotted work manner" " " = labL := by decide +kernel
def nmC : List Str := ["InvalidTree", "InvalidPath", "InvalidName", "InvalidOrder", "InvalidLotted", "InvalidLotWork", "InvalidManner"]
/-- the seven classes, and which of them D is below -/
structure Kits (X : Cx) (D : Addr) (bs : Nat → Bool) : Prop where
  at_ : ∀ (i : Nat) (y : Str), nmC[i]? = some y → ∃ C, X.mg y = some (.ref C) ∧ PySem.W.kitOne X.K (.ref D) (.ref C) = some (bs i)
end G

set_option Elab.async false
set_option linter.all false
set_option maxRecDepth 100000
set_option maxHeartbeats 4000000
namespace G
open PySem L2 PySem.Spec PyProof.Rows HotX L2H
variable {M : Md} {H H' H1 H2 : Hp} {ι ι' ι1 ι2 : List Addr} {X : Cx} {W' : WX}
def nmComp : Expr := match defBody sNm with
  | [_, _, _, .Return (some (.Call _ [e] _ _)) _] => e
  | _ => .Constant .none 0 ⟨0, 0, 0, 0⟩
def nmElt : Expr := match nmComp with
  | .ListComp e _ _ _ => e
  | _ => .Constant .none 0 ⟨0, 0, 0, 0⟩
def nmGen : Comprehension := match nmComp with
  | .ListComp _ (g :: _) _ _ => g
  | _ => ⟨.Constant .none 0 ⟨0, 0, 0, 0⟩, .Constant .none 0 ⟨0, 0, 0, 0⟩, [], 0⟩
def nmSc : Scope := match nmComp with
  | .ListComp _ _ s _ => s
  | _ => default
theorem nm_l3 : nmSc.names.lookup ("_law_label" : Str) = some .local := by decide +kernel
theorem nm_l4 : nmSc.names.lookup ("_law_good" : Str) = some .local := by decide +kernel
def nmOwn : List (Str × Nat) := [("_law_label", 3), ("_law_good", 4)]
theorem nm_blk : BlkOk nmN (defScope sNm) nmSc nmOwn := ⟨rfl, by decide +kernel, by decide +kernel, by decide +kernel, by decide +kernel⟩
theorem pick_step {ls : List Str} {bs : List Bool} : ∀ {i : Nat} {x : Str} {b : Bool}, ls[i]? = some x → bs[i]? = some b → pick (ls.take (i + 1)) (bs.take (i + 1)) = pick (ls.take i) (bs.take i) ++ (if b = true then [x] else []) := by
  induction ls generalizing bs with
  | nil => intro i x b h; simp at h
  | cons l ls ih =>
    intro i x b h1 h2
    cases bs with
    | nil => simp at h2
    | cons c bs =>
      cases i with
      | zero =>
        simp at h1 h2
        subst h1 h2
        cases c <;> simp [pick]
      | succ i =>
        have z := ih (bs := bs) (i := i) (by simpa using h1) (by simpa using h2)
        show (if c = true then l :: pick (ls.take (i + 1)) (bs.take (i + 1)) else pick (ls.take (i + 1)) (bs.take (i + 1))) = (if c = true then l :: pick (ls.take i) (bs.take i) else pick (ls.take i) (bs.take i)) ++ _
        rw [z]
        cases c <;> simp
theorem pick_len : ∀ (ls : List Str) (bs : List Bool), (pick ls bs).length ≤ ls.length
  | [], _ => Nat.le_refl _
  | l :: ls, [] => Nat.zero_le _
  | l :: ls, c :: bs => by
    have z := pick_len ls bs
    show (if c = true then l :: pick ls bs else pick ls bs).length ≤ ls.length + 1
    cases c <;> simp <;> omega
def bsL (bs : Nat → Bool) : List Bool := [bs 0, bs 1, bs 2, bs 3, bs 4, bs 5, bs 6]
/-- the comprehension -/
theorem pe_nmComp {p : Addr × Obj} {D : Addr} {bs : Nat → Bool} (hot : Hot1 X.A p) (hp : p ∈ X.pn) (Ce : L2.ExcC X.K D) (hz : Zc (.ref D) none p.2) (hf : ∃ vs, p.2.data = .fields vs) (ki : Kits X D bs) (hi : X.mg "isinstance" = none) (hzip : X.mg "zip" = none) (nd : X.N = nmN) (hs : X.env.scope = defScope sNm) :
    PE X nmComp (fun σ H Q => ∃ l m, List.length σ = 5 ∧ σ[0]? = some (some (.ref p.1)) ∧ σ[1]? = some (some (.ref m)) ∧ σ[2]? = some (some (.ref l)) ∧ H l = some (.lst (labL.map V.str)) ∧ H m = some (.lst ((bsL bs).take 6 |>.map V.bl)) ∧
      ∀ H' L, (∀ b o, H b = some o → H' b = some o) → H' L = some (.lst ((pick labL (bsL bs)).map V.str)) → Q (.ref L) H') := by
  have gl : ∀ x : Str, (defScope sNm).names.lookup x = some .globalImplicit → Gl X x := fun x e => by
    show X.env.kindOf _ = _
    unfold Env.kindOf
    rw [hs]
    exact e
  have v : ∀ x : Str, (defScope sNm).names.lookup x = some .local → Vis X.env.scope x := fun x e => .inl (by rw [hs]; exact e)
  have n0 : X.N[0]? = some ("_law_e" : Str) := by rw [nd]; rfl
  have n1 : X.N[1]? = some ("_law_some_here" : Str) := by rw [nd]; rfl
  have n2 : X.N[2]? = some ("_law_labels" : Str) := by rw [nd]; rfl
  have n3 : X.N[3]? = some ("_law_label" : Str) := by rw [nd]; rfl
  have n4 : X.N[4]? = some ("_law_good" : Str) := by rw [nd]; rfl
  have hN : X.N.Nodup := by rw [nd]; exact scNm.nd
  obtain ⟨C6, m6, k6⟩ := ki.at_ 6 _ rfl
  have is6 : ∀ {p1 p2 p3 p4 : Pos}, PE X (.Call (.Name "isinstance" p1) [.Name "_law_e" p2, .Name "InvalidManner" p3] [] p4) (tIs 0 p.1 (bs 6)) := pe_isP hp Ce hz hf hi (gl "isinstance" (by decide +kernel)) n0 (v "_law_e" (by decide +kernel)) (by decide) (by decide) (gl "InvalidManner" (by decide +kernel)) m6 (by decide) k6
  refine PE.imp (pe_lcC (C := HotY p.1) (own := nmOwn) (vd := []) (g := gTup X.K 2 (gCons (gName 3) (gCons (gName 4) gNil))) (tt := tB (tVar 4)) (body := fun D σ H Q => tVar 3 σ H fun y H1 => ∃ xs, H1 D = some (.lst xs) ∧ xs.length < sizeLine ∧ Q (upd H1 D (.lst (xs ++ [y])))) (fun pins s H σ L cl fp I f => hotY_blk hot hp I f) hN (pi_zipH (hotY_of hot hp) (gl "zip" (by decide +kernel)) hzip rfl (pa_cons (pv 2 n2 (v "_law_labels" (by decide +kernel))) (pa_cons (pe_op op_cat (pv 1 n1 (v "_law_some_here" (by decide +kernel))) (pe_lst (pa_cons is6 pa_nil))) pa_nil)))
    (by rw [nd, hs]; exact nm_blk) (fun l h => by cases h) (turn_last rfl rfl) (fun s H L cl fp hY => pg_tupH (n := 2) hY (pgs_cons (pg_name (i := 3) hN n3 (.inl nm_l3) (hf := .inr nm_l3)) (pgs_cons (pg_name (i := 4) hN n4 (.inl nm_l4) (hf := .inr nm_l4)) pgs_nil)) rfl rfl)
    (fun s H L cl fp => pts_one (pt_val (pv 4 n4 (.inl nm_l4)))) (fun D s H L cl fp => act_appV rfl (pv 3 n3 (.inl nm_l3))) (fun _ => rfl)) fun σ H Q h => ?_
  obtain ⟨l, m, hlen, s0, s1, s2, hl, hm, hQ⟩ := h
  have e6 : (bsL bs).map V.bl = ((bsL bs).take 6).map V.bl ++ [V.bl (bs 6)] := rfl
  refine ⟨_, s2, _, s1, s0, by show 1 ≤ sizeLine; decide, fun p1 hp1 => ⟨m, p1, _, _, rfl, rfl, (upd_ne (ne_of_none hm hp1)).trans hm, upd_same, by show 7 ≤ sizeLine; decide, fun p2 hp2 => ?_⟩⟩
  generalize hH1 : upd (upd H p1 _) p2 _ = H1
  have x1 : ∀ b o, H b = some o → H1 b = some o := fun b o e => by
    have e1 : upd H p1 (.lst [V.bl (bs 6)]) b = some o := (upd_ne (ne_of_none e hp1)).trans e
    rw [← hH1]
    exact (upd_ne (ne_of_none e1 hp2)).trans e1
  have hb1 : H1 p2 = some (.lst ((bsL bs).map V.bl)) := by
    rw [← hH1, e6]
    exact upd_same
  have hl1 := x1 _ _ hl
  refine ⟨l, p2, _, _, rfl, SqL.of hl1, SqL.of hb1, fun L hL => ?_⟩
  have x2 : ∀ b o, H1 b = some o → (upd H1 L (Ck.l nmElt).ho) b = some o := fun b o e => (upd_ne (ne_of_none e hL)).trans e
  refine ⟨fun i n H' => n + i = 7 ∧ (∀ b o, H1 b = some o → H' b = some o) ∧ H' L = some (.lst ((pick (labL.take i) ((bsL bs).take i)).map V.str)), ⟨7, rfl, x2, upd_same⟩, fun i n H' ⟨w1, w2, w3⟩ => ?_⟩
  have hl2 := w2 _ _ hl1
  have hb2 := w2 _ _ hb1
  by_cases h7 : i = 7
  · subst h7
    exact .inl ⟨⟨_, _, SqL.of hl2, SqL.of hb2, Nat.le_refl _, Nat.le_refl _, .inl rfl⟩, hQ H' L (fun b o e => w2 b o (x1 b o e)) w3⟩
  · have hi : i < 7 := by omega
    obtain ⟨x, hx⟩ : ∃ x, labL[i]? = some x := ⟨_, List.getElem?_eq_getElem hi⟩
    obtain ⟨b, hb⟩ : ∃ b, (bsL bs)[i]? = some b := ⟨_, List.getElem?_eq_getElem hi⟩
    have hx' : (labL.map V.str)[i]? = some (.str x) := by rw [List.getElem?_map, hx]; rfl
    have hb' : ((bsL bs).map V.bl)[i]? = some (.bl b) := by rw [List.getElem?_map, hb]; rfl
    refine .inr ⟨⟨_, _, _, _, SqL.of hl2, SqL.of hb2, hx', hb'⟩, fun H3 => (n - 1) + (i + 1) = 7 ∧ (∀ b o, H1 b = some o → H3 b = some o) ∧ H3 L = some (.lst ((pick (labL.take (i + 1)) ((bsL bs).take (i + 1))).map V.str)), fun H3 q => ⟨n - 1, by omega, q⟩, fun v H3 y => ?_⟩
    obtain ⟨T, x', y', rfl, hT, rfl, qx, qy⟩ := y
    obtain rfl : V.str x = x' := Option.some.inj (hx'.symm.trans (qx _ (SqL.of hl2)))
    obtain rfl : V.bl b = y' := Option.some.inj (hb'.symm.trans (qy _ (SqL.of hb2)))
    have w2' : ∀ c o, H1 c = some o → (upd H' T (.tup [V.str x, V.bl b])) c = some o := fun c o e => (upd_ne (ne_of_none (w2 c o e) hT)).trans (w2 c o e)
    have w3' : (upd H' T (.tup [V.str x, V.bl b])) L = some (.lst ((pick (labL.take i) ((bsL bs).take i)).map V.str)) := (upd_ne (ne_of_none w3 hT)).trans w3
    have nL : ∀ c o, H1 c = some o → c ≠ L := fun c o e z => by
      rw [z, hL] at e
      cases e
    refine ⟨T, _, rfl, .inl (.inl upd_same), rfl, _, _, rfl, _, _, rfl, rfl, ?_, .bl b, ?_, b, rfl, ?_⟩
    · show L2.wipe (List.set (List.set (L2.wipe σ [3, 4]) 3 _) 4 _) [3, 4] = L2.wipe σ [3, 4]
      rw [wipe_set (by decide), wipe_set (by decide), wipe_wipe]
    · show (List.set (List.set (L2.wipe σ [3, 4]) 3 _) 4 _)[4]? = _
      rw [List.getElem?_set_self (by rw [List.length_set, L2.wipe_length]; omega)]
    · have ps := pick_step hx hb
      cases b with
      | false =>
        dsimp only
        rw [if_neg Bool.false_ne_true]
        rw [if_neg Bool.false_ne_true, List.append_nil] at ps
        exact ⟨by omega, w2', by rw [ps]; exact w3'⟩
      | true =>
        dsimp only
        rw [if_pos rfl]
        rw [if_pos rfl] at ps
        refine ⟨.str x, ?_, _, w3', ?_, by omega, fun c o e => (upd_ne (nL c o e)).trans (w2' c o e), ?_⟩
        · show (List.set (List.set (L2.wipe σ [3, 4]) 3 _) 4 _)[3]? = _
          rw [List.getElem?_set_ne (by decide), List.getElem?_set_self (by rw [L2.wipe_length]; omega)]
        · rw [List.length_map]
          have z := pick_len (labL.take i) ((bsL bs).take i)
          have z2 : (labL.take i).length ≤ 7 := by
            rw [List.length_take]
            exact Nat.min_le_right _ _
          have sz : 8 ≤ sizeLine := by decide
          omega
        · rw [ps, List.map_append]
          exact upd_same
end G

set_option Elab.async false
set_option linter.all false
set_option maxRecDepth 100000
set_option maxHeartbeats 4000000
namespace G
open PySem L2 PySem.Spec PyProof.Rows HotX L2H
variable {M : Md} {H H' H1 H2 : Hp} {ι ι' ι1 ι2 : List Addr} {X : Cx} {W' : WX}
theorem pick_sum : ∀ (ls : List Str) (bs : List Bool), ((pick ls bs).map (·.length)).sum ≤ (ls.map (·.length)).sum
  | [], _ => Nat.le_refl _
  | l :: ls, [] => Nat.zero_le _
  | l :: ls, c :: bs => by
    have z := pick_sum ls bs
    show ((if c = true then l :: pick ls bs else pick ls bs).map (·.length)).sum ≤ _
    cases c
    · rw [if_neg Bool.false_ne_true, List.map_cons, List.sum_cons]
      omega
    · rw [if_pos rfl, List.map_cons, List.map_cons, List.sum_cons, List.sum_cons]
      omega
def nmR (bs : Nat → Bool) : Str := Txt.join " " (pick labL (bsL bs))
theorem pss_named {p : Addr × Obj} {D : Addr} {bs : Nat → Bool} (hot : Hot1 X.A p) (hp : p ∈ X.pn) (Ce : L2.ExcC X.K D) (hz : Zc (.ref D) none p.2) (hf : ∃ vs, p.2.data = .fields vs) (ki : Kits X D bs) (hi : X.mg "isinstance" = none) (hzip : X.mg "zip" = none) (nd : X.N = nmN) (hs : X.env.scope = defScope sNm)
    (H : Hp) (Q : VK) (h : ∀ H', (∀ b o, H b = some o → H' b = some o) → Q (.str (nmR bs)) H') : ∃ t, PSs X (defBody sNm) t ∧ t { nx := fun _ H' => Q .non H', rt := Q } (start nmN [.ref p.1]) H := by
  have gl : ∀ x : Str, (defScope sNm).names.lookup x = some .globalImplicit → Gl X x := fun x e => by
    show X.env.kindOf _ = _
    unfold Env.kindOf
    rw [hs]
    exact e
  have v : ∀ x : Str, (defScope sNm).names.lookup x = some .local → Vis X.env.scope x := fun x e => .inl (by rw [hs]; exact e)
  have n0 : X.N[0]? = some ("_law_e" : Str) := by rw [nd]; rfl
  have n1 : X.N[1]? = some ("_law_some_here" : Str) := by rw [nd]; rfl
  have n2 : X.N[2]? = some ("_law_labels" : Str) := by rw [nd]; rfl
  have hN : X.N.Nodup := by rw [nd]; exact scNm.nd
  have l1 : X.env.scope.names.lookup ("_law_some_here" : Str) = some .local := by rw [hs]; decide +kernel
  have l2 : X.env.scope.names.lookup ("_law_labels" : Str) = some .local := by rw [hs]; decide +kernel
  have gi := gl "isinstance" (by decide +kernel)
  have v0 := v "_law_e" (by decide +kernel)
  have is : ∀ (i : Nat) (y : Str), nmC[i]? = some y → Gl X y → (y == ("__debug__" : Str)) = false → ∀ {p1 p2 p3 p4 : Pos}, PE X (.Call (.Name "isinstance" p1) [.Name "_law_e" p2, .Name y p3] [] p4) (tIs 0 p.1 (bs i)) := fun i y e g d p1 p2 p3 p4 => by
    obtain ⟨C, m, k⟩ := ki.at_ i y e
    exact pe_isP hp Ce hz hf hi gi n0 v0 (by decide) (by decide) g m d k
  refine ⟨_, pss_cons (ps_set (i := 1) hN n1 (.inl l1) (pe_lst (pa_cons (is 0 "InvalidTree" rfl (gl _ (by decide +kernel)) (by decide)) (pa_cons (is 1 "InvalidPath" rfl (gl _ (by decide +kernel)) (by decide)) (pa_cons (is 2 "InvalidName" rfl (gl _ (by decide +kernel)) (by decide)) pa_nil)))) (hf := .inr l1))
    (pss_cons (ps_set (i := 1) hN n1 (.inl l1) (pe_op op_cat (pv 1 n1 (v "_law_some_here" (by decide +kernel))) (pe_lst (pa_cons (is 3 "InvalidOrder" rfl (gl _ (by decide +kernel)) (by decide)) (pa_cons (is 4 "InvalidLotted" rfl (gl _ (by decide +kernel)) (by decide)) (pa_cons (is 5 "InvalidLotWork" rfl (gl _ (by decide +kernel)) (by decide)) pa_nil))))) (hf := .inr l1))
    (pss_cons (ps_set (i := 2) hN n2 (.inl l2) (pe_split pe_str pe_str) (hf := .inr l2))
    (pss_one (ps_ret (pe_join pe_str (pe_nmComp hot hp Ce hz hf ki hi hzip nd hs)))))), ?_⟩
  have s0 : (start nmN [.ref p.1])[0]? = some (some (V.ref p.1)) := rfl
  refine ⟨s0, s0, s0, by show 3 ≤ sizeLine; decide, fun p1 hp1 => ?_⟩
  generalize hHa : upd H p1 _ = Ha
  have xa : ∀ b o, H b = some o → Ha b = some o := fun b o e => by rw [← hHa]; exact (upd_ne (ne_of_none e hp1)).trans e
  have ha1 : Ha p1 = some (.lst [V.bl (bs 0), V.bl (bs 1), V.bl (bs 2)]) := by rw [← hHa]; exact upd_same
  refine ⟨.ref p1, rfl, rfl, rfl, rfl, by show 3 ≤ sizeLine; decide, fun p2 hp2 => ⟨p1, p2, _, _, rfl, rfl, (upd_ne (ne_of_none ha1 hp2)).trans ha1, upd_same, by show 6 ≤ sizeLine; decide, fun p3 hp3 => ?_⟩⟩
  generalize hHb : upd (upd Ha p2 _) p3 _ = Hb
  have xb : ∀ b o, H b = some o → Hb b = some o := fun b o e => by
    have e1 : upd Ha p2 (.lst [V.bl (bs 3), V.bl (bs 4), V.bl (bs 5)]) b = some o := (upd_ne (ne_of_none (xa b o e) hp2)).trans (xa b o e)
    rw [← hHb]
    exact (upd_ne (ne_of_none e1 hp3)).trans e1
  have hb1 : Hb p3 = some (.lst ((bsL bs).take 6 |>.map V.bl)) := by rw [← hHb]; exact upd_same
  refine ⟨⟨_, rfl⟩, _, _, rfl, rfl, by decide, by decide, fun p4 hp4 => ?_⟩
  rw [labL_eq]
  refine ⟨⟨_, rfl⟩, p4, p3, rfl, rfl, rfl, rfl, upd_same, (upd_ne (ne_of_none hb1 hp4)).trans hb1, fun H' L x hL => ?_⟩
  refine ⟨_, L, pick labL (bsL bs), rfl, rfl, .inl (SqL.of hL), ?_, h H' fun b o e => x b o ((upd_ne (ne_of_none (xb b o e) hp4)).trans (xb b o e))⟩
  have z1 := pick_sum labL (bsL bs)
  have z2 := pick_len labL (bsL bs)
  have z3 : (labL.map (·.length)).sum = 33 := by decide +kernel
  have z4 : labL.length = 7 := rfl
  have z5 : (" " : Str).length = 1 := by decide +kernel
  rw [z5]
  omega
end G

set_option Elab.async false
set_option linter.all false
set_option maxRecDepth 100000
set_option maxHeartbeats 4000000
namespace G
open PySem L2 PySem.Spec PyProof.Rows HotX L2H
variable {M : Md} {H H' H1 H2 : Hp} {ι ι' ι1 ι2 : List Addr} {X : Cx} {W' : WX}
def noX : XK := fun _ _ _ => False
/-- a def called while the error at p is handled: its body may look at p -/
theorem pe_callP {k : Nat} {p : Addr × Obj} {f : Addr} {x name qual : Str} {params : Arguments} {body : List Stmt} {scope : Scope} {dV kV doc pm cdv ct oc : Value} {an od : Option Addr} {osl : Array (Option Value)} {N ps : List Str} {sp : Sp} {q pos : Pos} {e : Expr} {es : List Expr} {t : TA}
    (lk : X.K.lookup f = some ⟨oc, od, .func (PySem.W.fnOf name qual params body scope dV kV doc pm an cdv ct), osl⟩) (hcd : PySem.W.codeIn X.K cdv qual = true) (S : FnScope N ps scope) (hot : Hot1 X.A p) (hp : p ∈ X.pn) (hr : RoomH (k + 1) X.A) (hg : Gl X x) (hm : X.mg x = some (.ref f)) (hk : PySem.W.keepIn X.K (.ref f) = true)
    (hb : L2.Binds X.K (PySem.W.fnOf name qual params body scope dV kV doc pm an cdv ct) ps []) (ha : PA X (e :: es) t) (hdb : (x == ("__debug__" : Str)) = false) (he : starEach (e :: es) X.env = (false, eval e X.env) :: starEach es X.env) (hpl : (backTo pos (starEach es X.env)).any (·.1) = false)
    (hbody : ∀ (s : Shared) (H : Hp) (vs : List V) (Q : VK), sp vs H Q noX → ∃ t, PSs (cxH (L2N.CX X.prog X.w) X.prog X.w X.K X.mg X.base N qual scope f cdv X.A X.stack s H noX p) body t ∧ t { nx := fun _ H' => Q .non H', rt := Q } (L2.start N vs) H) :
    PE X (.Call (.Name x q) (e :: es) [] pos) (fun σ H Q => t σ H fun vs H1 => vs.length = ps.length ∧ sp vs H1 Q noX) := by
  refine ⟨fun pins s σ H Q I h => wpAny_Call_Name_kw (ld_glob I hg hm ?_ hdb)⟩
  refine PySem.W.callWith_K (h₀ := X.base) I.ok.mod.kin hk (thn (ha.run pos pins s σ H _ I h) fun us s1 ⟨vs, H1, I1, r, hl, hsp⟩ => ⟨I1.kIn, ?_⟩) he hpl
  have P1 := I1.pin p (List.mem_append_left _ hp)
  have hpin : PinOk X.stack H1 s1 p := ⟨P1.1, P1.2.1, fun z => (List.mem_cons.mp (I1.stkSub p.1 z)).elim P1.2.2.1 P1.2.2.2.1, P1.2.2.2.2⟩
  have e0 := I1.env0
  have lu : (us ++ []).length = ps.length := by rw [List.append_nil, ← r.length]; exact hl
  have bnd := hb s1 us I1.kIn lu
  rw [List.append_nil] at bnd
  have KX := I1.kIn
  have lim : s1.heap.NoLimit := e0.mod.nolimit.keeps fun b o z => (e0.bs b o z).1
  have kinds : ∀ y ∈ ps.zip us, scope.names.lookup y.1 = some .local ∨ (scope.names.lookup y.1 = some .cell ∧ ((cellsFrom (s1.heap.objs.size + 1) scope.names []).lookup y.1).isSome = true) := fun ⟨n, u⟩ hy => by
    rcases S.par n (List.of_mem_zip hy).1 with z | z
    · exact .inl z
    · exact .inr ⟨z, PySem.W.cellsFrom_some _ _ _ (.inl z)⟩
  have rc : codeAny (model X.prog X.w) X.A (.call (.ref f) ⟨us, []⟩) (CR (L2N.CX X.prog X.w) X.stack X.prog X.w H1 s1 Q noX) s1 := by
    refine codeAny_call_function hr.depth (KX _ _ lk) rfl S.co S.gen rfl (PySem.W.codeRec_of KX hcd) (bnd _ _ _ _ (wpAny_newFunctionEnv_cells S.kind kinds fun env ee s2 x => ?_))
    subst ee
    refine ⟨lim.keeps x.toInCall.keep, codeAny_func ?_⟩
    obtain ⟨tb, htb, hq⟩ := hbody s1 H1 vs Q hsp
    have J := inv_startH (CX := L2N.CX X.prog X.w) (E := noX) S hpin e0 hl r x
    refine wpAny_mono (htb.run [] s2 _ H1 _ J hq) (fun fl s3 hs => ?_) fun u s3 hs => hs
    cases fl with
    | ret u =>
      obtain ⟨v, σ', H', J', rv, q'⟩ := hs
      exact ⟨v, H', J'.os, J'.bare, J'.base, J'.hok, rv, q'⟩
    | next =>
      obtain ⟨σ', H', J', q'⟩ := hs
      exact ⟨V.non, H', J'.os, J'.bare, J'.base, J'.hok, rfl, q'⟩
    | brk =>
      obtain ⟨_, _, _, q'⟩ := hs
      exact q'.elim
    | cont =>
      obtain ⟨_, _, _, q'⟩ := hs
      exact q'.elim
  refine wpAny_call (codeAny_mono rc fun r s' hq => ?_)
  cases r with
  | error u =>
    obtain ⟨_, _, _, _, _, _, _, _, _, _, _, _, z⟩ := hq
    exact z.elim
  | ok fl =>
    cases fl with
    | ret u => exact I1.after hq
    | next => exact False.elim hq
    | brk => exact False.elim hq
    | cont => exact False.elim hq
end G

set_option Elab.async false
set_option linter.all false
set_option maxRecDepth 100000
set_option maxHeartbeats 4000000
namespace G
open PySem L2 PySem.Spec PyProof.Rows HotX L2H
variable {M : Md} {H H' H1 H2 : Hp} {ι ι' ι1 ι2 : List Addr} {X : Cx} {W' : WX}
/-! ### the def that catches -/
abbrev sEr : Stmt := topN 140
def erN : List Str := ["_law_call", "_law_e"]
theorem scEr : FnScope erN ["_law_call"] (defScope sEr) := ⟨rfl, rfl, rfl, by decide +kernel, rfl, by decide +kernel, by decide +kernel⟩
theorem takesNoX {X : Cx} : L2N.Takes X noW := takesNo
/-- what is told of the def that names errors -/
structure NmOk (K : PySem.W.Frag) (mg : Str → Option Value) : Prop where
  ex : ∃ (f : Addr) (dV kV doc pm cdv ct oc : Value) (an od : Option Addr) (osl : Array (Option Value)) (qual : Str), mg "_law_named_error" = some (.ref f) ∧ PySem.W.keepIn K (.ref f) = true ∧
    K.lookup f = some ⟨oc, od, .func (PySem.W.fnOf "_law_named_error" qual (defArgs sNm) (defBody sNm) (defScope sNm) dV kV doc pm an cdv ct), osl⟩ ∧ PySem.W.codeIn K cdv qual = true ∧ L2.Binds K (PySem.W.fnOf "_law_named_error" qual (defArgs sNm) (defBody sNm) (defScope sNm) dV kV doc pm an cdv ct) ["_law_e"] []
/-- what the suite is told of the error's class -/
def Told (X : Cx) (a : Addr) (cls : Value) (d : Option Addr) (D : Ends) (σ : L2.St) (H : Hp) : Prop := ∃ (Dc : Addr) (bs : Nat → Bool), cls = .ref Dc ∧ d = none ∧ L2.ExcC X.K Dc ∧ PySem.W.kitOne X.K (.ref Dc) (.type "ValueError") = some true ∧ Kits X Dc bs ∧ (1 < List.length σ → σ[1]? = some (some (.ref a))) ∧
  ∀ H', (∀ b o, H b = some o → H' b = some o) → D.rt (.str (nmR bs)) H'
def suiteEr : List Stmt := match defBody sEr with
  | .Try _ (.ExceptHandler _ _ b _ :: _) _ _ _ :: _ => b
  | _ => []
theorem pss_suite {a : Addr} {oe : Obj} {cls : Value} {d : Option Addr} {pn : List (Addr × Obj)} (hz : L2N.Zn cls d oe) (hf : ∃ vs, oe.data = .fields vs) (nm : NmOk X.K X.mg) (hi : X.mg "isinstance" = none) (hzip : X.mg "zip" = none) (hve : X.mg "ValueError" = none) (nd : X.N = erN) (hs : X.env.scope = defScope sEr) (hr : RoomH 1 X.A) :
    PSs (X.suite a ((a, oe) :: pn)) suiteEr (fun D σ H => Told X a cls d D σ H) := ⟨fun pins s σ H D I h => by
  obtain ⟨Dc, bs, rfl, rfl, Ce, kv, ki, h1, hQ⟩ := h
  obtain ⟨f, dV, kV, doc, pm, cdv, ct, oc, an, od, osl, qual, m1, m2, m3, m4, m5⟩ := nm.ex
  let Y : Cx := X.suite a ((a, oe) :: pn)
  have hot : Hot1 Y.A (a, oe) := ⟨rfl, by
    obtain ⟨vs, e⟩ := hf
    exact ⟨vs, e, hz.2.2 vs e⟩⟩
  have hp : ((a, oe) : Addr × Obj) ∈ Y.pn := List.mem_cons_self
  have hlen : List.length σ = 2 := by
    have z := I.len
    rw [show (X.suite a ((a, oe) :: pn)).N = erN from nd] at z
    exact z
  have gl : ∀ x : Str, (defScope sEr).names.lookup x = some .globalImplicit → Gl Y x := fun x e => by
    show X.env.kindOf _ = _
    unfold Env.kindOf
    rw [hs]
    exact e
  have n1 : Y.N[1]? = some ("_law_e" : Str) := by
    show X.N[1]? = _
    rw [nd]
    rfl
  have v1 : Vis Y.env.scope "_law_e" := .inl (by
    show X.env.scope.names.lookup _ = _
    rw [hs]
    decide +kernel)
  have e1 := h1 (by omega)
  refine (pss_one (ps_ret (pe_ifExp (pt_val (pe_callB (call_isP hp Ce hz.zc hf) (gl "isinstance" (by decide +kernel)) hi PyProof.Rows.boot_isinstance (pa_cons (pv 1 n1 v1) (pa_cons (pe_bltn (v := .ty "ValueError") (u := .type "ValueError") (gl "ValueError" (by decide +kernel)) hve (by decide +kernel) rfl) pa_nil))))
    (pe_callP (sp := fun vs H Q _ => vs = [.ref a] ∧ ∀ H', (∀ b o, H b = some o → H' b = some o) → Q (.str (nmR bs)) H') m3 m4 scNm hot hp (k := 0) ⟨hr.dp, hr.un⟩ (gl "_law_named_error" (by decide +kernel)) m1 m2 m5 (pa_cons (pv 1 n1 v1) pa_nil) (by decide) rfl rfl fun s2 H2 vs Q2 h2 => ?_) pe_str))).run pins s σ H D I ?_
  · obtain ⟨rfl, h2⟩ := h2
    exact pss_named (X := cxH (L2N.CX Y.prog Y.w) Y.prog Y.w Y.K Y.mg Y.base nmN qual (defScope sNm) f cdv Y.A Y.stack s2 H2 noX (a, oe)) (p := (a, oe)) hot List.mem_cons_self Ce hz.zc hf ⟨ki.at_⟩ hi hzip rfl rfl H2 Q2 h2
  · refine ⟨_, e1, .ty "ValueError", .type "ValueError", true, rfl, fun u r => r, kv, true, rfl, ?_⟩
    exact ⟨_, e1, rfl, rfl, hQ⟩⟩
end G

set_option Elab.async false
set_option linter.all false
set_option maxRecDepth 100000
set_option maxHeartbeats 4000000
namespace G
open PySem L2 PySem.Spec PyProof.Rows HotX L2H
variable {M : Md} {H H' H1 H2 : Hp} {ι ι' ι1 ι2 : List Addr} {X : Cx} {W' : WX}
theorem labs_ok : ∀ p ∈ labs, p.1 ∈ ex7 ∧ nmR (fun i => decide (nmC[i]? = some p.1)) = p.2 := by decide +kernel
theorem str_nil : Str.ofString "" = ⟨#[]⟩ := by decide +kernel
theorem nm_ex : ∀ (i : Nat) (y : Str), nmC[i]? = some y → y ∈ ex7 := fun i y e => List.mem_of_getElem? e
theorem er_gives {k : Nat} {g : Addr} {cdg : Value} {q : Str} (hmg : X.mg = M.mg) (hr : Room (k + 2) X.A) (nm : NmOk X.K X.mg) (ex : ExcsOk X.K X.mg ex7 "ApartError") (hi : X.mg "isinstance" = none) (hzip : X.mg "zip" = none) (hve : X.mg "ValueError" = none) :
    GivesN X erN "_law_error" (defScope sEr) g cdg (defBody sEr) "_law_call" q (TTx M onx14) := by
  intro f c' s H Q tl act hc h
  obtain ⟨T, mT, hx⟩ := ex.top
  have hA : RoomH 1 (gotZ X erN "_law_error" (defScope sEr) g cdg s H).nox.A := (roomH_of (hr.deeper (envOfC "_law_error" (defScope sEr) s.heap.objs.size g cdg))).mono (Nat.le_add_left 1 k)
  have kd : ∀ (x : Str) (n : NameKind), (defScope sEr).names.lookup x = some n → (gotZ X erN "_law_error" (defScope sEr) g cdg s H).nox.env.kindOf x = some n := fun x n e => e
  refine ⟨_, pss_cons (L2N.ps_try_as (X := (gotZ X erN "_law_error" (defScope sEr) g cdg s H).nox) (i := 1) (c := .ref T) (Wout := noW) (ts := fun a cls d D σ HH => Told (gotZ X erN "_law_error" (defScope sEr) g cdg s H).nox a cls d D σ HH)
      (tb := fun W D σ H => ∃ Ech : XK, (∀ cls d σ' H', Ech cls d H' → W cls d σ' H') ∧ σ[0]? = some (some (.ref f)) ∧ H c' = some (LamX.CodeO c' q) ∧ tl Ech H fun _ H' => D.nx σ H')
      rfl rfl scEr.nd rfl (kd _ _ (by decide +kernel)) ⟨kd _ _ (by decide +kernel), by decide, .inl mT⟩ takesNo (fun W pn xe tk _ => ⟨fun pins s' σ H' D I h' => ?_⟩) (fun a oe cls d pn hz hf => pss_suite (X := (gotZ X erN "_law_error" (defScope sEr) g cdg s H).nox) (a := a) (oe := oe) (cls := cls) (d := d) (pn := pn) hz hf nm hi hzip hve rfl rfl hA)) (pss_one (ps_ret pe_str)), ?_⟩
  · obtain ⟨Ech, hW, h1, h2, h3⟩ := h'
    exact (pss_one (ps_expr (act W pn xe Ech _ _ tk hW))).run pins s' σ H' D I ⟨h1, h2, h3⟩
  · have h0 : tl (fun cls d H' => d = none ∧ ∃ x C ι E w E2, M.mg x = some (.ref C) ∧ cls = .ref C ∧ Rel M ι E H' ∧ onx14 x E = some (w, E2) ∧ Fin M ι H' w E2 Q) H fun _ H' => Q (.str ⟨#[]⟩) H' := h
    rw [← str_nil] at h0
    refine ⟨_, fun cls d σ' H' w => ?_, rfl, hc, h0⟩
    obtain ⟨rfl, x, C, ι, E, w, E2, hx1, rfl, R, ho, hF⟩ := w
    obtain ⟨lab, hl, e⟩ := Option.map_eq_some_iff.mp (show (labs.lookup x).map (fun s => (W.str s, E)) = some (w, E2) from ho)
    obtain ⟨rfl, rfl⟩ := Prod.mk.inj e
    obtain ⟨l1, l2⟩ := labs_ok _ (lookup_memS hl)
    obtain ⟨D, mD, Ce, kv, em, kk⟩ := hx x l1
    have eD : D = C := by
      rw [hmg, hx1] at mD
      cases mD
      rfl
    subst eD
    refine ⟨true, em, fun _ a na => ?_, fun z => by cases z⟩
    refine ⟨D, fun i => decide (nmC[i]? = some x), rfl, rfl, Ce, kv, ⟨fun i y e => ?_⟩, fun hl => ?_, fun H'' xx => ?_⟩
    · obtain ⟨C, c1, c2⟩ := kk y (nm_ex i y e)
      refine ⟨C, c1, ?_⟩
      dsimp only
      rw [e]
      have e2 : decide (some y = some x) = decide (y = x) := by simp
      rw [e2]
      exact c2
    · rw [List.length_set] at hl
      exact List.getElem?_set_self hl
    · have rr := rel_extN R (LamX.ExtN.of xx) (R.tabs.ext xx)
      rw [show nmR (fun i => decide (nmC[i]? = some x)) = lab from l2]
      exact hF ι H'' (.str lab) (ext_extN (LamX.ExtN.of xx)) rr rfl
end G

set_option Elab.async false
set_option linter.all false
set_option maxRecDepth 100000
set_option maxHeartbeats 0
namespace G
open PySem L2 PySem.Spec PyProof.Rows
theorem meN0 : MemOk lowN0 mN0 := ⟨mN0.E.length, Nat.le_refl _, by kernel_rfl⟩
theorem meN1 : MemOk lowN0 mN1 := ⟨mN1.E.length, Nat.le_refl _, by kernel_rfl⟩
theorem meN2 : MemOk lowN0 mN2 := ⟨mN2.E.length, Nat.le_refl _, by kernel_rfl⟩
theorem meN3 : MemOk lowN0 mN3 := ⟨mN3.E.length, Nat.le_refl _, by kernel_rfl⟩
end G

set_option Elab.async false
set_option linter.all false
set_option maxRecDepth 100000
set_option maxHeartbeats 0
namespace G
open PySem L2 PySem.Spec PyProof.Rows
theorem meN4 : MemOk lowN0 mN4 := ⟨mN4.E.length, Nat.le_refl _, by kernel_rfl⟩
theorem meN5 : MemOk lowN0 mN5 := ⟨mN5.E.length, Nat.le_refl _, by kernel_rfl⟩
theorem meN6 : MemOk lowN0 mN6 := ⟨mN6.E.length, Nat.le_refl _, by kernel_rfl⟩
theorem meN7 : MemOk lowN0 mN7 := ⟨mN7.E.length, Nat.le_refl _, by kernel_rfl⟩
end G

set_option Elab.async false
set_option linter.all false
set_option maxRecDepth 100000
set_option maxHeartbeats 0
namespace G
open PySem L2 PySem.Spec PyProof.Rows
theorem meN8 : MemOk lowN0 mN8 := ⟨mN8.E.length, Nat.le_refl _, by kernel_rfl⟩
theorem meN9 : MemOk lowN0 mN9 := ⟨mN9.E.length, Nat.le_refl _, by kernel_rfl⟩
end G

set_option Elab.async false
set_option linter.all false
set_option maxRecDepth 100000
set_option maxHeartbeats 0
namespace G
open PySem L2 PySem.Spec PyProof.Rows
theorem meL0 : MemOk calK mL0 := ⟨mL0.E.length, Nat.le_refl _, by kernel_rfl⟩
theorem meL1 : MemOk calK mL1 := ⟨mL1.E.length, Nat.le_refl _, by kernel_rfl⟩
theorem meL2 : MemOk calK mL2 := ⟨mL2.E.length, Nat.le_refl _, by kernel_rfl⟩
theorem meL3 : MemOk calK mL3 := ⟨mL3.E.length, Nat.le_refl _, by kernel_rfl⟩
theorem meL4 : MemOk calK mL4 := ⟨mL4.E.length, Nat.le_refl _, by kernel_rfl⟩
theorem meL5 : MemOk calK mL5 := ⟨mL5.E.length, Nat.le_refl _, by kernel_rfl⟩
theorem meL6 : MemOk calK mL6 := ⟨mL6.E.length, Nat.le_refl _, by kernel_rfl⟩
theorem meL7 : MemOk calK mL7 := ⟨mL7.E.length, Nat.le_refl _, by kernel_rfl⟩
theorem meL8 : MemOk calK mL8 := ⟨mL8.E.length, Nat.le_refl _, by kernel_rfl⟩
theorem meL17 : MemOk calK mL17 := ⟨mL17.E.length, Nat.le_refl _, by kernel_rfl⟩
theorem meL18 : MemOk calK mL18 := ⟨mL18.E.length, Nat.le_refl _, by kernel_rfl⟩
theorem meL19 : MemOk calK mL19 := ⟨mL19.E.length, Nat.le_refl _, by kernel_rfl⟩
theorem meL20 : MemOk calK mL20 := ⟨mL20.E.length, Nat.le_refl _, by kernel_rfl⟩
theorem meL21 : MemOk calK mL21 := ⟨mL21.E.length, Nat.le_refl _, by kernel_rfl⟩
theorem meL22 : MemOk calK mL22 := ⟨mL22.E.length, Nat.le_refl _, by kernel_rfl⟩
theorem meL23 : MemOk calK mL23 := ⟨mL23.E.length, Nat.le_refl _, by kernel_rfl⟩
theorem meL24 : MemOk calK mL24 := ⟨mL24.E.length, Nat.le_refl _, by kernel_rfl⟩
theorem meL25 : MemOk calK mL25 := ⟨mL25.E.length, Nat.le_refl _, by kernel_rfl⟩
end G

set_option Elab.async false
set_option linter.all false
set_option maxRecDepth 100000
set_option maxHeartbeats 0
namespace G
open PySem L2 PySem.Spec PyProof.Rows
theorem meL9 : MemOk calK mL9 := ⟨mL9.E.length, Nat.le_refl _, by kernel_rfl⟩
theorem meL10 : MemOk calK mL10 := ⟨mL10.E.length, Nat.le_refl _, by kernel_rfl⟩
theorem meL11 : MemOk calK mL11 := ⟨mL11.E.length, Nat.le_refl _, by kernel_rfl⟩
theorem meL12 : MemOk calK mL12 := ⟨mL12.E.length, Nat.le_refl _, by kernel_rfl⟩
theorem meL13 : MemOk calK mL13 := ⟨mL13.E.length, Nat.le_refl _, by kernel_rfl⟩
theorem meL14 : MemOk calK mL14 := ⟨mL14.E.length, Nat.le_refl _, by kernel_rfl⟩
theorem meL15 : MemOk calK mL15 := ⟨mL15.E.length, Nat.le_refl _, by kernel_rfl⟩
theorem meL16 : MemOk calK mL16 := ⟨mL16.E.length, Nat.le_refl _, by kernel_rfl⟩
end G

set_option Elab.async false
set_option linter.all false
set_option maxRecDepth 100000
set_option maxHeartbeats 0
namespace G
open PySem L2 PySem.Spec PyProof.Rows
theorem meL26 : MemOk calK mL26 := ⟨mL26.E.length, Nat.le_refl _, by kernel_rfl⟩
theorem meL27 : MemOk calK mL27 := ⟨mL27.E.length, Nat.le_refl _, by kernel_rfl⟩
theorem meL28 : MemOk calK mL28 := ⟨mL28.E.length, Nat.le_refl _, by kernel_rfl⟩
theorem meL29 : MemOk calK mL29 := ⟨mL29.E.length, Nat.le_refl _, by kernel_rfl⟩
theorem meL30 : MemOk calK mL30 := ⟨mL30.E.length, Nat.le_refl _, by kernel_rfl⟩
theorem meL31 : MemOk calK mL31 := ⟨mL31.E.length, Nat.le_refl _, by kernel_rfl⟩
theorem meL32 : MemOk calK mL32 := ⟨mL32.E.length, Nat.le_refl _, by kernel_rfl⟩
theorem meL33 : MemOk calK mL33 := ⟨mL33.E.length, Nat.le_refl _, by kernel_rfl⟩
theorem meL34 : MemOk calK mL34 := ⟨mL34.E.length, Nat.le_refl _, by kernel_rfl⟩
theorem meL35 : MemOk calK mL35 := ⟨mL35.E.length, Nat.le_refl _, by kernel_rfl⟩
end G

set_option Elab.async false
set_option linter.all false
set_option maxRecDepth 100000
set_option maxHeartbeats 0
namespace G
open PySem L2 PySem.Spec PyProof.Rows
theorem meL36 : MemOk calK mL36 := ⟨mL36.E.length, Nat.le_refl _, by kernel_rfl⟩
theorem meL37 : MemOk calK mL37 := ⟨mL37.E.length, Nat.le_refl _, by kernel_rfl⟩
theorem meL38 : MemOk calK mL38 := ⟨mL38.E.length, Nat.le_refl _, by kernel_rfl⟩
theorem meL39 : MemOk calK mL39 := ⟨mL39.E.length, Nat.le_refl _, by kernel_rfl⟩
theorem meL40 : MemOk calK mL40 := ⟨mL40.E.length, Nat.le_refl _, by kernel_rfl⟩
theorem meL41 : MemOk calK mL41 := ⟨mL41.E.length, Nat.le_refl _, by kernel_rfl⟩
theorem meL42 : MemOk calK mL42 := ⟨mL42.E.length, Nat.le_refl _, by kernel_rfl⟩
theorem meL43 : MemOk calK mL43 := ⟨mL43.E.length, Nat.le_refl _, by kernel_rfl⟩
theorem meL44 : MemOk calK mL44 := ⟨mL44.E.length, Nat.le_refl _, by kernel_rfl⟩
theorem meL45 : MemOk calK mL45 := ⟨mL45.E.length, Nat.le_refl _, by kernel_rfl⟩
end G

set_option Elab.async false
set_option linter.all false
set_option maxRecDepth 100000
set_option maxHeartbeats 0
namespace G
open PySem L2 PySem.Spec PyProof.Rows
theorem meL46 : MemOk calK mL46 := ⟨mL46.E.length, Nat.le_refl _, by kernel_rfl⟩
theorem meL47 : MemOk calK mL47 := ⟨mL47.E.length, Nat.le_refl _, by kernel_rfl⟩
theorem meL48 : MemOk calK mL48 := ⟨mL48.E.length, Nat.le_refl _, by kernel_rfl⟩
theorem meL49 : MemOk calK mL49 := ⟨mL49.E.length, Nat.le_refl _, by kernel_rfl⟩
theorem meL50 : MemOk calK mL50 := ⟨mL50.E.length, Nat.le_refl _, by kernel_rfl⟩
theorem meL51 : MemOk calK mL51 := ⟨mL51.E.length, Nat.le_refl _, by kernel_rfl⟩
theorem meL52 : MemOk calK mL52 := ⟨mL52.E.length, Nat.le_refl _, by kernel_rfl⟩
theorem meL53 : MemOk calK mL53 := ⟨mL53.E.length, Nat.le_refl _, by kernel_rfl⟩
theorem meL54 : MemOk calK mL54 := ⟨mL54.E.length, Nat.le_refl _, by kernel_rfl⟩
end G

set_option Elab.async false
set_option linter.all false
set_option maxRecDepth 100000
set_option maxHeartbeats 0
namespace G
open PySem L2 PySem.Spec PyProof.Rows
theorem meL55 : MemOk calK mL55 := ⟨mL55.E.length, Nat.le_refl _, by kernel_rfl⟩
theorem meL56 : MemOk calK mL56 := ⟨mL56.E.length, Nat.le_refl _, by kernel_rfl⟩
end G

set_option Elab.async false
set_option linter.all false
set_option maxRecDepth 100000
set_option maxHeartbeats 0
namespace G
open PySem L2 PySem.Spec PyProof.Rows
theorem meL57 : MemOk calK mL57 := ⟨mL57.E.length, Nat.le_refl _, by kernel_rfl⟩
theorem meL58 : MemOk calK mL58 := ⟨mL58.E.length, Nat.le_refl _, by kernel_rfl⟩
end G

set_option Elab.async false
set_option linter.all false
set_option maxRecDepth 100000
set_option maxHeartbeats 0
namespace G
open PySem L2 PySem.Spec PyProof.Rows
theorem tbN_ok : ∀ e ∈ tbN, MemOk lowN0 e := by
  intro e m
  simp only [tbN, List.mem_cons, List.not_mem_nil, or_false] at m
  rcases m with rfl | rfl | rfl | rfl | rfl | rfl | rfl | rfl | rfl | rfl
  · exact meN0
  · exact meN1
  · exact meN2
  · exact meN3
  · exact meN4
  · exact meN5
  · exact meN6
  · exact meN7
  · exact meN8
  · exact meN9
theorem tbL_ok : ∀ e ∈ tbL, MemOk calK e := by
  intro e m
  simp only [tbL, List.mem_cons, List.not_mem_nil, or_false] at m
  rcases m with rfl | rfl | rfl | rfl | rfl | rfl | rfl | rfl | rfl | rfl | rfl | rfl | rfl | rfl | rfl | rfl | rfl | rfl | rfl | rfl | rfl | rfl | rfl | rfl | rfl | rfl | rfl | rfl | rfl | rfl | rfl | rfl | rfl | rfl | rfl | rfl | rfl | rfl | rfl | rfl | rfl | rfl | rfl | rfl | rfl | rfl | rfl | rfl | rfl | rfl | rfl | rfl | rfl | rfl | rfl | rfl | rfl | rfl | rfl
  · exact meL0
  · exact meL1
  · exact meL2
  · exact meL3
  · exact meL4
  · exact meL5
  · exact meL6
  · exact meL7
  · exact meL8
  · exact meL9
  · exact meL10
  · exact meL11
  · exact meL12
  · exact meL13
  · exact meL14
  · exact meL15
  · exact meL16
  · exact meL17
  · exact meL18
  · exact meL19
  · exact meL20
  · exact meL21
  · exact meL22
  · exact meL23
  · exact meL24
  · exact meL25
  · exact meL26
  · exact meL27
  · exact meL28
  · exact meL29
  · exact meL30
  · exact meL31
  · exact meL32
  · exact meL33
  · exact meL34
  · exact meL35
  · exact meL36
  · exact meL37
  · exact meL38
  · exact meL39
  · exact meL40
  · exact meL41
  · exact meL42
  · exact meL43
  · exact meL44
  · exact meL45
  · exact meL46
  · exact meL47
  · exact meL48
  · exact meL49
  · exact meL50
  · exact meL51
  · exact meL52
  · exact meL53
  · exact meL54
  · exact meL55
  · exact meL56
  · exact meL57
  · exact meL58
end G

set_option Elab.async false
set_option linter.all false
set_option maxRecDepth 100000
set_option maxHeartbeats 0
namespace G
open PySem L2 PySem.Spec PyProof.Rows
theorem step_1 : nxS 1 (stA lowL (st14 1) S0 E0H) = some (S1, E1H) := by kernel_rfl
theorem step_2 : nxS 2 (stA lowL (st14 2) S1 E1H) = some (S2, E2H) := by kernel_rfl
theorem ch_3_0 : nxS 2 (stA (lowR lowL 0 0 8) (st14 3) S2 E2H) = some (S3, E3H) := by kernel_rfl
theorem ch_3_1 : nxS 2 (stA (lowR lowL 1 0 8) (st14 3) S2 E2H) = some (S3, E3H) := by kernel_rfl
theorem ch_3_2 : nxS 2 (stA (lowR lowL 2 0 8) (st14 3) S2 E2H) = some (S3, E3H) := by kernel_rfl
theorem ch_3_3 : nxS 2 (stA (lowR lowL 3 0 8) (st14 3) S2 E2H) = some (S3, E3H) := by kernel_rfl
theorem ch_3_4 : nxS 2 (stA (lowR lowL 4 0 8) (st14 3) S2 E2H) = some (S3, E3H) := by kernel_rfl
theorem ch_3_5 : nxS 2 (stA (lowR lowL 5 0 8) (st14 3) S2 E2H) = some (S3, E3H) := by kernel_rfl
theorem ch_3_6 : nxS 2 (stA (lowR lowL 6 0 8) (st14 3) S2 E2H) = some (S3, E3H) := by kernel_rfl
theorem ch_3_7 : nxS 2 (stA (lowR lowL 7 0 8) (st14 3) S2 E2H) = some (S3, E3H) := by kernel_rfl
theorem step_4 : nxS 4 (stA lowL (st14 4) S3 E3H) = some (S4, E4H) := by kernel_rfl
theorem step_5 : nxS 4 (stA lowL (st14 5) S4 E4H) = some (S5, E5H) := by kernel_rfl
theorem step_6 : nxS 4 (stA lowL (st14 6) S5 E5H) = some (S6, E6H) := by kernel_rfl
theorem step_8 : nxS 6 (stA lowL (st14 8) S7 E7H) = some (S8, E8H) := by kernel_rfl
theorem step_10 : nxS 9 (stA lowL (st14 10) S9 E9H) = some (S10, E10H) := by kernel_rfl
theorem step_12 : nxS 9 (stA lowL (st14 12) S11 E11H) = some (S12, E12H) := by kernel_rfl
theorem step_14 : nxS 11 (stA lowL (st14 14) S13 E13H) = some (S14, E14H) := by kernel_rfl
end G

set_option Elab.async false
set_option linter.all false
set_option maxRecDepth 100000
set_option maxHeartbeats 0
namespace G
open PySem L2 PySem.Spec PyProof.Rows
theorem ch_7_0 : nxS 4 (stA (lowR lowL 0 1 8) (st14 7) S6 E6H) = some (S7, E7H) := by kernel_rfl
theorem ch_7_1 : nxS 4 (stA (lowR lowL 1 1 8) (st14 7) S6 E6H) = some (S7, E7H) := by kernel_rfl
theorem ch_7_2 : nxS 4 (stA (lowR lowL 2 1 8) (st14 7) S6 E6H) = some (S7, E7H) := by kernel_rfl
theorem ch_7_3 : nxS 4 (stA (lowR lowL 3 1 8) (st14 7) S6 E6H) = some (S7, E7H) := by kernel_rfl
theorem ch_7_4 : nxS 4 (stA (lowR lowL 4 1 8) (st14 7) S6 E6H) = some (S7, E7H) := by kernel_rfl
theorem ch_7_5 : nxS 4 (stA (lowR lowL 5 1 8) (st14 7) S6 E6H) = some (S7, E7H) := by kernel_rfl
theorem ch_7_6 : nxS 4 (stA (lowR lowL 6 1 8) (st14 7) S6 E6H) = some (S7, E7H) := by kernel_rfl
theorem ch_7_7 : nxS 4 (stA (lowR lowL 7 1 8) (st14 7) S6 E6H) = some (S7, E7H) := by kernel_rfl
end G

set_option Elab.async false
set_option linter.all false
set_option maxRecDepth 100000
set_option maxHeartbeats 0
namespace G
open PySem L2 PySem.Spec PyProof.Rows
theorem ch_9_0 : nxS 6 (stA (lowR lowL 0 2 8) (st14 9) S8 E8H) = some (S9, E9H) := by kernel_rfl
theorem ch_9_1 : nxS 6 (stA (lowR lowL 1 2 8) (st14 9) S8 E8H) = some (S9, E9H) := by kernel_rfl
theorem ch_9_2 : nxS 6 (stA (lowR lowL 2 2 8) (st14 9) S8 E8H) = some (S9, E9H) := by kernel_rfl
theorem ch_9_3 : nxS 6 (stA (lowR lowL 3 2 8) (st14 9) S8 E8H) = some (S9, E9H) := by kernel_rfl
theorem ch_9_4 : nxS 6 (stA (lowR lowL 4 2 8) (st14 9) S8 E8H) = some (S9, E9H) := by kernel_rfl
theorem ch_9_5 : nxS 6 (stA (lowR lowL 5 2 8) (st14 9) S8 E8H) = some (S9, E9H) := by kernel_rfl
theorem ch_9_6 : nxS 6 (stA (lowR lowL 6 2 8) (st14 9) S8 E8H) = some (S9, E9H) := by kernel_rfl
theorem ch_9_7 : nxS 6 (stA (lowR lowL 7 2 8) (st14 9) S8 E8H) = some (S9, E9H) := by kernel_rfl
theorem ch_11_0 : nxS 9 (stA (lowR lowL 0 3 9) (st14 11) S10 E10H) = some (S11, E11H) := by kernel_rfl
theorem ch_11_1 : nxS 9 (stA (lowR lowL 1 3 9) (st14 11) S10 E10H) = some (S11, E11H) := by kernel_rfl
theorem ch_11_2 : nxS 9 (stA (lowR lowL 2 3 9) (st14 11) S10 E10H) = some (S11, E11H) := by kernel_rfl
theorem ch_11_3 : nxS 9 (stA (lowR lowL 3 3 9) (st14 11) S10 E10H) = some (S11, E11H) := by kernel_rfl
theorem ch_11_4 : nxS 9 (stA (lowR lowL 4 3 9) (st14 11) S10 E10H) = some (S11, E11H) := by kernel_rfl
theorem ch_11_5 : nxS 9 (stA (lowR lowL 5 3 9) (st14 11) S10 E10H) = some (S11, E11H) := by kernel_rfl
theorem ch_11_6 : nxS 9 (stA (lowR lowL 6 3 9) (st14 11) S10 E10H) = some (S11, E11H) := by kernel_rfl
theorem ch_11_7 : nxS 9 (stA (lowR lowL 7 3 9) (st14 11) S10 E10H) = some (S11, E11H) := by kernel_rfl
theorem ch_11_8 : nxS 9 (stA (lowR lowL 8 3 9) (st14 11) S10 E10H) = some (S11, E11H) := by kernel_rfl
end G

set_option Elab.async false
set_option linter.all false
set_option maxRecDepth 100000
set_option maxHeartbeats 0
namespace G
open PySem L2 PySem.Spec PyProof.Rows
theorem ch_15_0 : nxS 11 (stA (lowR lowL 0 4 9) (st14 15) S14 E14H) = some (S15, E15H) := by kernel_rfl
theorem ch_15_1 : nxS 11 (stA (lowR lowL 1 4 9) (st14 15) S14 E14H) = some (S15, E15H) := by kernel_rfl
theorem ch_15_2 : nxS 11 (stA (lowR lowL 2 4 9) (st14 15) S14 E14H) = some (S15, E15H) := by kernel_rfl
theorem ch_15_3 : nxS 11 (stA (lowR lowL 3 4 9) (st14 15) S14 E14H) = some (S15, E15H) := by kernel_rfl
theorem ch_15_4 : nxS 11 (stA (lowR lowL 4 4 9) (st14 15) S14 E14H) = some (S15, E15H) := by kernel_rfl
theorem ch_15_5 : nxS 11 (stA (lowR lowL 5 4 9) (st14 15) S14 E14H) = some (S15, E15H) := by kernel_rfl
theorem ch_15_6 : nxS 11 (stA (lowR lowL 6 4 9) (st14 15) S14 E14H) = some (S15, E15H) := by kernel_rfl
theorem ch_15_7 : nxS 11 (stA (lowR lowL 7 4 9) (st14 15) S14 E14H) = some (S15, E15H) := by kernel_rfl
theorem ch_15_8 : nxS 11 (stA (lowR lowL 8 4 9) (st14 15) S14 E14H) = some (S15, E15H) := by kernel_rfl
end G

set_option Elab.async false
set_option linter.all false
set_option maxRecDepth 100000
set_option maxHeartbeats 0
namespace G
open PySem L2 PySem.Spec PyProof.Rows
theorem turn16_0 : turnM 12 (st14 16) (W16 0) (T16 0) E16a = some (T16 1, E16a) := by kernel_rfl
theorem turn16_1 : turnM 12 (st14 16) (W16 1) (T16 1) E16a = some (T16 2, E16a) := by kernel_rfl
theorem turn16_2 : turnM 12 (st14 16) (W16 2) (T16 2) E16a = some (T16 3, E16a) := by kernel_rfl
theorem turn16_3 : turnM 12 (st14 16) (W16 3) (T16 3) E16a = some (T16 4, E16a) := by kernel_rfl
theorem turn16_4 : turnM 12 (st14 16) (W16 4) (T16 4) E16a = some (T16 5, E16a) := by kernel_rfl
theorem turn16_5 : turnM 12 (st14 16) (W16 5) (T16 5) E16a = some (T16 6, E16a) := by kernel_rfl
theorem turn16_6 : turnM 12 (st14 16) (W16 6) (T16 6) E16a = some (T16 7, E16a) := by kernel_rfl
theorem turn16_7 : turnM 12 (st14 16) (W16 7) (T16 7) E16a = some (T16 8, E16a) := by kernel_rfl
theorem turn16_8 : turnM 12 (st14 16) (W16 8) (T16 8) E16a = some (T16 9, E16a) := by kernel_rfl
theorem srcM16 : (rcs PgM mm).src GmM (forP (st14 16)).1 (forP (st14 16)).2.1 S15 E15H = some (.ok ⟨L16, []⟩ E16a) := by kernel_rfl
end G

set_option Elab.async false
set_option linter.all false
set_option maxRecDepth 100000
set_option maxHeartbeats 0
namespace G
open PySem L2 PySem.Spec PyProof.Rows
theorem step_13 : nxS 9 (stA lowL (st14 13) S12 E12H) = some (S13, E13H) := by kernel_rfl
theorem step_17 : nxS 11 (stA lowL (st14 17) S16 E16H) = some (S17, E17H) := by kernel_rfl
theorem step_18 : nxS 11 (stA lowL (st14 18) S17 E17H) = some (S18, E18H) := by kernel_rfl
end G

set_option Elab.async false
set_option linter.all false
set_option maxRecDepth 100000
set_option maxHeartbeats 0
namespace G
open PySem L2 PySem.Spec PyProof.Rows
theorem step_19 : nxS 11 (stA lowL (st14 19) S18 E18H) = some (S19, E19H) := by kernel_rfl
end G

set_option Elab.async false
set_option linter.all false
set_option maxRecDepth 100000
set_option maxHeartbeats 0
namespace G
open PySem L2 PySem.Spec PyProof.Rows
theorem step_20 : rtS (stA lowL (st14 20) S19 E19H) = some (.bl true) := by kernel_rfl
end G

set_option Elab.async false
set_option linter.all false
set_option maxRecDepth 100000
set_option maxHeartbeats 4000000
namespace G
open PySem L2 PySem.Spec PyProof.Rows
theorem drop_1 : body14.drop 1 = st14 1 :: body14.drop 2 := by kernel_rfl
theorem drop_2 : body14.drop 2 = st14 2 :: body14.drop 3 := by kernel_rfl
theorem drop_3 : body14.drop 3 = st14 3 :: body14.drop 4 := by kernel_rfl
theorem drop_4 : body14.drop 4 = st14 4 :: body14.drop 5 := by kernel_rfl
theorem drop_5 : body14.drop 5 = st14 5 :: body14.drop 6 := by kernel_rfl
theorem drop_6 : body14.drop 6 = st14 6 :: body14.drop 7 := by kernel_rfl
theorem drop_7 : body14.drop 7 = st14 7 :: body14.drop 8 := by kernel_rfl
theorem drop_8 : body14.drop 8 = st14 8 :: body14.drop 9 := by kernel_rfl
theorem drop_9 : body14.drop 9 = st14 9 :: body14.drop 10 := by kernel_rfl
theorem drop_10 : body14.drop 10 = st14 10 :: body14.drop 11 := by kernel_rfl
theorem drop_11 : body14.drop 11 = st14 11 :: body14.drop 12 := by kernel_rfl
theorem drop_12 : body14.drop 12 = st14 12 :: body14.drop 13 := by kernel_rfl
theorem drop_13 : body14.drop 13 = st14 13 :: body14.drop 14 := by kernel_rfl
theorem drop_14 : body14.drop 14 = st14 14 :: body14.drop 15 := by kernel_rfl
theorem drop_15 : body14.drop 15 = st14 15 :: body14.drop 16 := by kernel_rfl
theorem drop_16 : body14.drop 16 = st14 16 :: body14.drop 17 := by kernel_rfl
theorem drop_17 : body14.drop 17 = st14 17 :: body14.drop 18 := by kernel_rfl
theorem drop_18 : body14.drop 18 = st14 18 :: body14.drop 19 := by kernel_rfl
theorem drop_19 : body14.drop 19 = st14 19 :: body14.drop 20 := by kernel_rfl
theorem drop_20 : body14.drop 20 = st14 20 :: body14.drop 21 := by kernel_rfl
theorem for16 : st14 16 = .For (forP (st14 16)).1 (forP (st14 16)).2.1 (forP (st14 16)).2.2.1 [] (forP (st14 16)).2.2.2 := by kernel_rfl
theorem plain16 : plainSrc (forP (st14 16)).2.1 = true := by kernel_rfl
theorem turns16 : TurnsC E16a.length (tgA (rcs PgM mm) GmM 9 (forP (st14 16)).1) (blkA (stepS PgM (rcs PgM mm) GmM 29) (forP (st14 16)).2.2.1) E16a L16 S15 (T16 9) :=
  ⟨_, turn16_0, _, turn16_1, _, turn16_2, _, turn16_3, _, turn16_4, _, turn16_5, _, turn16_6, _, turn16_7, _, turn16_8, rfl⟩
theorem chain14 : chainM := fun M W' X ns D c hD => by
  obtain ⟨i, ch⟩ := c
  show Gd M X D (body14.drop 1) S0 E0H
  rw [drop_1]
  refine gd_nx i step_1 ?_
  rw [drop_2]
  refine gd_nx i step_2 ?_
  rw [drop_3]
  obtain ⟨r0, h0, i0⟩ := ch 0
  have e3 : nxS 2 (stA (lowR lowL r0 0 (nJ 0)) (st14 3) S2 E2H) = some (S3, E3H) := match r0, h0 with
    | 0, _ => ch_3_0
    | 1, _ => ch_3_1
    | 2, _ => ch_3_2
    | 3, _ => ch_3_3
    | 4, _ => ch_3_4
    | 5, _ => ch_3_5
    | 6, _ => ch_3_6
    | 7, _ => ch_3_7
  refine gd_nx i0 e3 ?_
  rw [drop_4]
  refine gd_nx i step_4 ?_
  rw [drop_5]
  refine gd_nx i step_5 ?_
  rw [drop_6]
  refine gd_nx i step_6 ?_
  rw [drop_7]
  obtain ⟨r1, h1, i1⟩ := ch 1
  have e7 : nxS 4 (stA (lowR lowL r1 1 (nJ 1)) (st14 7) S6 E6H) = some (S7, E7H) := match r1, h1 with
    | 0, _ => ch_7_0
    | 1, _ => ch_7_1
    | 2, _ => ch_7_2
    | 3, _ => ch_7_3
    | 4, _ => ch_7_4
    | 5, _ => ch_7_5
    | 6, _ => ch_7_6
    | 7, _ => ch_7_7
  refine gd_nx i1 e7 ?_
  rw [drop_8]
  refine gd_nx i step_8 ?_
  rw [drop_9]
  obtain ⟨r2, h2, i2⟩ := ch 2
  have e9 : nxS 6 (stA (lowR lowL r2 2 (nJ 2)) (st14 9) S8 E8H) = some (S9, E9H) := match r2, h2 with
    | 0, _ => ch_9_0
    | 1, _ => ch_9_1
    | 2, _ => ch_9_2
    | 3, _ => ch_9_3
    | 4, _ => ch_9_4
    | 5, _ => ch_9_5
    | 6, _ => ch_9_6
    | 7, _ => ch_9_7
  refine gd_nx i2 e9 ?_
  rw [drop_10]
  refine gd_nx i step_10 ?_
  rw [drop_11]
  obtain ⟨r3, h3, i3⟩ := ch 3
  have e11 : nxS 9 (stA (lowR lowL r3 3 (nJ 3)) (st14 11) S10 E10H) = some (S11, E11H) := match r3, h3 with
    | 0, _ => ch_11_0
    | 1, _ => ch_11_1
    | 2, _ => ch_11_2
    | 3, _ => ch_11_3
    | 4, _ => ch_11_4
    | 5, _ => ch_11_5
    | 6, _ => ch_11_6
    | 7, _ => ch_11_7
    | 8, _ => ch_11_8
  refine gd_nx i3 e11 ?_
  rw [drop_12]
  refine gd_nx i step_12 ?_
  rw [drop_13]
  refine gd_nx i step_13 ?_
  rw [drop_14]
  refine gd_nx i step_14 ?_
  rw [drop_15]
  obtain ⟨r4, h4, i4⟩ := ch 4
  have e15 : nxS 11 (stA (lowR lowL r4 4 (nJ 4)) (st14 15) S14 E14H) = some (S15, E15H) := match r4, h4 with
    | 0, _ => ch_15_0
    | 1, _ => ch_15_1
    | 2, _ => ch_15_2
    | 3, _ => ch_15_3
    | 4, _ => ch_15_4
    | 5, _ => ch_15_5
    | 6, _ => ch_15_6
    | 7, _ => ch_15_7
    | 8, _ => ch_15_8
  refine gd_nx i4 e15 ?_
  rw [drop_16]
  refine Eq.mpr (congrArg (fun z => Gd M X D (z :: body14.drop 17) S15 E15H) for16) ?_
  refine gd_for (s := ⟨L16, []⟩) i plain16 srcM16 rfl turns16 (gd_cut (n := 11) ?_)
  rw [cut16, end16]
  rw [drop_17]
  refine gd_nx i step_17 ?_
  rw [drop_18]
  refine gd_nx i step_18 ?_
  rw [drop_19]
  refine gd_nx i step_19 ?_
  rw [drop_20]
  exact gd_rt i step_20 fun _ H v h => by
    rw [show v = V.bl true from h]
    exact hD H
end G

set_option Elab.async false
set_option linter.all false
set_option maxRecDepth 100000
set_option maxHeartbeats 4000000
namespace G
open PySem L2 PySem.Spec PyProof.Rows
theorem binds_gen {K : PySem.W.Frag} {x : Str} {st : Stmt} {ps : List Str} {f : Addr} {fd : FuncData} (F : FunD K x x (defArgs st) (defBody st) (defScope st) [] [] f fd) (h : argsB (defArgs st) ps = true) : L2.Binds K fd ps [] := F.bindsN fun kV doc pm an cdv ct us hl => by
  obtain ⟨as, ea, em, nd⟩ := argsB_ok h
  have := bind_gen (x := x) (qual := x) (body := defBody st) (scope := defScope st) (kV := kV) (doc := doc) (pm := pm) (an := an) (cdv := cdv) (ct := ct) (args := as) (us := us) (by rw [em]; exact hl) (by rw [em]; exact nd)
  rw [em, ← ea] at this
  exact this
def dErr : Fd := ⟨sEr, erN, ["_law_call"], false⟩
def dNm : Fd := ⟨sNm, nmN, ["_law_e"], false⟩
theorem fnErr : q14.tb.fn "_law_error" = some dErr := by kernel_rfl
theorem fnNm : q14.tb.fn "_law_named_error" = some dNm := by kernel_rfl
section
variable {M : Md} {base h : Heap} (c : He.SaysX q14.fa q14.fn q14.ts q14.tf okX14 M.w h M.K) (X : M.K.In h) (G : h.Ns mainGlobals M.mg)
include c X G
theorem glo14 {x : Str} {d : Fd} (e : q14.tb.fn x = some d) : M.mg x = some (.ref (He.ga M.K x)) := He.glo_ok X G (c.t.d.facts (f := .glo x) (List.mem_append_left _ (List.mem_map.mpr ⟨(x, d), lookup_memS e, rfl⟩)))
theorem funD14 {x : Str} {d : Fd} (e : q14.tb.fn x = some d) : ∃ fd, FunD M.K x x (defArgs d.st) (defBody d.st) (defScope d.st) [] [] (He.ga M.K x) fd := c.t.d.defs (d := Tq.dd (x, d)) (List.mem_map.mpr ⟨_, lookup_memS e, rfl⟩)
theorem free14 {x : Str} (m : x ∈ nonL) : M.mg x = none := He.free_ok X G (c.t.d.facts (f := .free x) (List.mem_append_right _ (List.mem_append_left _ (List.mem_map.mpr ⟨x, m, rfl⟩))))
theorem exc14 {x : Str} (m : x ∈ clss) : M.mg x = some (.ref (He.ga M.K x)) := He.glo_ok X G (c.t.d.facts (f := .glo x) (List.mem_append_right _ (List.mem_append_right _ (List.mem_append_left _ (List.mem_map.mpr ⟨x, m, rfl⟩)))))
theorem nm14 : NmOk M.K M.mg := by
  obtain ⟨fd, F⟩ := funD14 c X G fnNm
  have b := binds_gen F (ps := ["_law_e"]) (by kernel_rfl)
  obtain ⟨oc, od, dV, kV, doc, pm, an, cdv, ct, osl, rfl, lk, hcd, _, _⟩ := F.ex
  exact ⟨_, dV, kV, doc, pm, cdv, ct, oc, an, od, osl, _, glo14 c X G fnNm, F.kp, lk, hcd, b⟩
theorem excs14 : ExcsOk M.K M.mg ex7 "ApartError" := by
  have all : ∀ x ∈ ("ApartError" : Str) :: ex7, x ∈ clss := by
    have e : (("ApartError" : Str) :: ex7).all (fun x => clss.contains x) = true := by kernel_rfl
    exact fun x m => List.contains_iff_mem.mp (List.all_eq_true.mp e x m)
  exact excsB_ok (He.ba c.more).2 (exc14 c X G (all _ List.mem_cons_self)) fun x m => exc14 c X G (all x (List.mem_cons_of_mem _ m))
theorem catch14 (k : Nat) : Catch M base k q14.er q14.onx := by
  obtain ⟨fd, F⟩ := funD14 c X G fnErr
  have b := binds_gen F (ps := ["_law_call"]) (by kernel_rfl)
  obtain ⟨oc, od, dV, kV, doc, pm, an, cdv, ct, osl, rfl, lk, hcd, _, _⟩ := F.ex
  have fr : ∀ x ∈ nonL, M.mg x = none := fun x m => free14 c X G m
  refine ⟨_, _, _, _, dV, kV, doc, pm, an, cdv, ct, oc, od, osl, erN, "_law_call", glo14 c X G fnErr, F.kp, lk, hcd, b, scEr, rfl, .inl (by decide +kernel), by decide, by decide, by decide, fun Y q h1 h2 h3 h4 h5 hr => ?_⟩
  exact er_gives h4 hr (by rw [h3, h4]; exact nm14 c X G) (by rw [h3, h4]; exact excs14 c X G) (by rw [h4]; exact fr _ (by decide)) (by rw [h4]; exact fr _ (by decide)) (by rw [h4]; exact fr _ (by decide))
end
/-- the module as the head leaves it -/
def M14 (w : World) (K : PySem.W.Frag) (mg : Str → Option Value) : Md := ⟨PySem.Challenge.pw_namesapart_k14_lots_refused, w, K, mg, q14.tabs K, none, fun _ => (0, 0)⟩
theorem law14 : ∀ (w : World) (mg : Str → Option Value) (fa : Addr) (h : Heap), hook14.says w h → h.Ns mainGlobals mg → mg ("law" : Str) = some (.ref fa) →
    ∃ K : PySem.W.Frag, K.In h ∧ LamX.LawAtS PySem.Challenge.rw_namesapart_k14_lots_refused w K (L2N.CX PySem.Challenge.pw_namesapart_k14_lots_refused w) 121 63 "_law_script" mg fa h := by
  intro w mg fa h ⟨K, X, c⟩ G hmg
  let M : Md := M14 w K mg
  have c' : He.SaysX q14.fa q14.fn q14.ts q14.tf q14.ok w h K := ⟨c.t, (He.ba c.more).1, c.hd, c.out, c.empty⟩
  have g : mg "law" = some (.ref (He.ga K "law")) := glo14 (M := M) c X G fnLaw
  obtain ⟨fd, F⟩ := funD14 (M := M) c X G fnLaw
  cases hmg.symm.trans g
  have bA := F.bindsA (ps := ["_law_script"]) fun kV doc pm an cdv ct us hl => by
    obtain ⟨as, ea, em, nd⟩ := argsB_ok (a := defArgs dLaw.st) (ps := ["_law_script"]) (by kernel_rfl)
    have := bind_gen (x := "law") (qual := "law") (body := defBody dLaw.st) (scope := defScope dLaw.st) (kV := kV) (doc := doc) (pm := pm) (an := an) (cdv := cdv) (ct := ct) (args := as) (us := us) (by rw [em]; exact hl) (by rw [em]; exact nd)
    rw [em, ← ea] at this
    exact this
  refine ⟨K, X, fd, q14.tf.map (He.cT K), spLaw M, fun p hp => ?_, fun p hp => ?_, fun p hp => ?_, fun s u => bA s [u] rfl, fun H a ns hlen _ hH hS => ?_, fun base hb hg tb => ?_⟩
  · obtain ⟨q, hq, rfl⟩ := List.mem_map.mp hp
    exact c.empty q hq
  · obtain ⟨q, hq, rfl⟩ := List.mem_map.mp hp
    exact c.out q hq
  · obtain ⟨q, hq, rfl⟩ := List.mem_map.mp hp
    exact PySem.W.codeHd_of_K X (c.hd q hq)
  · refine ⟨a, ns, rfl, hS, hlen, fun p hp => ?_, fun _ => rfl⟩
    obtain ⟨x, hx, rfl⟩ := List.mem_map.mp hp
    exact ⟨#[], hH (He.cT K (x, none)) (List.mem_map.mpr ⟨(x, none), List.mem_map.mpr ⟨x, hx, rfl⟩, rfl⟩), trivial, fun _ _ h => (nomatch h)⟩
  · have ok : ∀ ns, TbOk (M.at ns) base q14.tb := fun ns => Tq.tbOk (M := M.at ns) (h := h) rfl c' X G plain14 tb fun k => catch14 (M := M.at ns) c X G k
    obtain ⟨⟨f, fd', D⟩, _⟩ := Tq.defOk (M := M) (h := h) (base := base) rfl c' X G plain14 tb (x := "law") (d := dLaw) fnLaw
    have ef : f = He.ga K "law" := by
      have e1 : mg "law" = some (.ref f) := D.m
      rw [g] at e1
      cases e1
      rfl
    subst ef
    have efd : fd' = fd := by
      obtain ⟨qual, oc, od, kV, doc, pm, an, cdv, ct, osl, e1, lk, _⟩ := D.F
      obtain ⟨oc2, od2, dV2, kV2, doc2, pm2, an2, cdv2, ct2, osl2, e2, lk2, _⟩ := F.ex
      have l1 : M.K.lookup (He.ga K "law") = _ := lk
      have l2 : M.K.lookup (He.ga K "law") = _ := lk2
      have z := l1.symm.trans l2
      cases z
      rfl
    subst efd
    exact law_okM tbN_ok tbL_ok chain14 ok D
theorem cx_no {P : Program} {w : World} {H : Hp} {s : Shared} {e : Value} {s' : Shared} (h : L2N.CX P w [] H s (fun _ _ _ => False) e s') : False := by
  obtain ⟨_, _, _, _, _, _, _, _, _, _, _, _, z⟩ := h
  exact z
end G

set_option Elab.async false
set_option linter.all false
set_option maxRecDepth 100000
set_option maxHeartbeats 0
open PySem PySem.W PySem.Calls PyProof.Rows
theorem PySem.Challenge.cw_namesapart_k14_lots_refused_holds : PySem.Challenge.rw_namesapart_k14_lots_refused.Holds := by
  w_on; o_law
  refine HandSHeadRun.head_any (r := OpenLaw.row PySem.Challenge.rw_namesapart_k14_lots_refused) (q := view (OpenLaw.row PySem.Challenge.rw_namesapart_k14_lots_refused).prog [148]) (H := G.hook14) (ob := G.ob14) (M := 20000) (loose := G.loose14) (d := HandSHeadRun.topDef (OpenLaw.row PySem.Challenge.rw_namesapart_k14_lots_refused).prog 148) (kwd := []) G.ob14_eq
    (by kernel_rfl) (fun s => by kernel_rfl) G.run14 (by kernel_rfl) (by kernel_rfl) (by kernel_rfl) (by rfl) (by first | assumption | decide +kernel) (by decide +kernel) ⟨rfl, rfl, rfl, rfl, rfl, by decide +kernel⟩ ?hw ?hc
  case hw => w_witness2
  case hc =>
    refine LamX.walk_ofTsE (l := PySem.Challenge.rw_namesapart_k14_lots_refused) (n := 63) (k := 121) (x := "_law_script") (CX := L2N.CX PySem.Challenge.pw_namesapart_k14_lots_refused) rfl (by decide) (by kernel_rfl) ⟨rfl, by decide, by decide⟩ ?F (fun w H s e s' h => G.cx_no h)
    intro w mg fa h Y G0 hmg0
    have hmg : mg ("law" : PySem.Str) = some (.ref fa) := by
      have e : (HandSHeadRun.topDef (OpenLaw.row PySem.Challenge.rw_namesapart_k14_lots_refused).prog 148).name = ("law" : PySem.Str) := by kernel_rfl
      rw [← e]
      exact hmg0
    exact G.law14 w mg fa h Y G0 hmg

