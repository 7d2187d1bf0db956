import PyProof.Rows.All
import Wide.All
import OpenK.AllK
import Wide.FinOn
import HandS.HeadHook4
import HandS.HeadWalk
import HandS.Head2
import HandS.ForMost
import HandS.Deep
import HandS.Strs
import HandS.Set
import HandS.SetFor
import HandS.TupAny
import HandS.TupMul
import KE.KDictKeyed
import HandS.Lambda
import HandS.ExcIs
import HandS.Style
import HandS.TupLe
import HandS.Steps
import HandS.IsInst
import HandS.Flow
import HandS.ForExc
import HandS.ExcCtx
import HandS.Zip
import KE.GoesEnum
import HandS.Comp
import HandS.DictComp
import PyProof.DictTruth
import HandS.Records
import HandS.Iter
import KE.KDictWalk
import HandS.Text
import HandS.StrMore
import KE.GoesEnumKw
import HandS.SortKw
import KE.SortData
import HandS.SetBool
import HandS.TryOnly
import HandS.Star
import PyProof.ConsumeWalk
import HandS.ExcOwn
import HandS.More
import KE.KUnpackStar
import HandS.WordsExc
import HandS.ExcInitHot
import HandS.Defaults
import HandS.ReplaceLit
import HandS.ReplaceDef
import HandS.HotCalls
import PySem.Challenge.RW_namesapart_k61_errors_of_early_and_late
set_option Elab.async false
set_option linter.all false
set_option maxRecDepth 100000
set_option maxHeartbeats 4000000
namespace G
open PySem PySem.Spec PyProof.Rows L2
/-! ### the head's look, by written addresses -/
section
variable (as : List Addr) (fa : List He.Fa) (fn : List He.DefD) (ts : List He.Tab) (tf : List He.Defn) (ex : PySem.W.Frag → Bool)
def obsL (g : Addr → Option Obj) : He.AlX := (He.obsT fa fn ts (He.frT g as), ex (He.frT g as) && He.tabsB g tf (He.frT g as))
theorem obsL_of {w : World} {h : Heap} (e : obsL as fa fn ts tf ex h.get? = He.valX fn ts w) : He.SaysX fa fn ts tf ex w h (He.frT h.get? as) := by
  generalize hK : He.frT h.get? as = K at *
  unfold obsL at e
  rw [hK] at e
  obtain ⟨e1, e2⟩ := Prod.mk.inj e
  obtain ⟨h1, h2⟩ := He.ba e2
  have at_ : ∀ p ∈ tf, PySem.W.codeHdIn K (He.cT K p).1 (He.cT K p).2 = true ∧ ∃ o, h.get? (He.cT K p).2 = some o ∧ He.emptyTab o = true := fun p hp => by
    obtain ⟨h3, h4⟩ := He.ba (List.all_eq_true.mp h2 p hp)
    revert h4
    cases q : h.get? (He.cT K p).2 with
    | none => intro h4; cases h4
    | some o => intro h4; exact ⟨h3, o, rfl, h4⟩
  refine ⟨e1, h1, fun p hp => (at_ p hp).1, fun p hp => ?_, fun p hp => ?_⟩
  · obtain ⟨_, o, q, z⟩ := at_ p hp
    have n := He.frT_none (as := as) q z
    rw [hK] at n
    exact n
  · obtain ⟨_, o, q, z⟩ := at_ p hp
    rw [q, He.emptyTab_eq z]
def hookL : PySem.W.Hook where
  α := He.AlX
  obs := fun s => obsL as fa fn ts tf ex s.heap.get?
  val := fun w => He.valX fn ts w
  says := fun w h => ∃ K : PySem.W.Frag, K.In h ∧ He.SaysX fa fn ts tf ex w h K
  of := fun _ _ e => ⟨_, He.frT_in, obsL_of as fa fn ts tf ex e⟩
  keeps := fun _ _ _ ⟨K, hK, c⟩ k => ⟨K, PySem.W.Frag.In.keeps hK k, ⟨c.t, c.more, c.hd, c.out, fun p hp => k _ _ (c.empty p hp)⟩⟩
end
/-- the answers of one state, each by itself -/
theorem map5 {α β γ A B : Type} {o : Option α} {f : α → β} {g : α → γ} {a1 a2 b1 b2 : α → Bool} {a3 : α → A} {a4 : α → B} {y : β} {z : γ} {v3 : A} {v4 : B} (h1 : o.map (fun s => (f s, g s)) = some (y, z)) (h2 : o.map a1 = some true) (h3 : o.map a2 = some true) (h4 : o.map a3 = some v3) (h5 : o.map a4 = some v4)
    (h6 : o.map b1 = some true) (h7 : o.map b2 = some true) : (o.map fun s => (f s, g s, (((a1 s && a2 s, a3 s), a4 s), b1 s && b2 s))) = some (y, z, (((true, v3), v4), true)) := by
  cases o with
  | none => cases h1
  | some x =>
    obtain ⟨e1, e1'⟩ := Prod.mk.inj (Option.some.inj h1)
    have e2 : a1 x = true := Option.some.inj h2
    have e3 : a2 x = true := Option.some.inj h3
    have e4 : a3 x = v3 := Option.some.inj h4
    have e5 : a4 x = v4 := Option.some.inj h5
    have e6 : b1 x = true := Option.some.inj h6
    have e7 : b2 x = true := Option.some.inj h7
    show some (f x, g x, (((a1 x && a2 x, a3 x), a4 x), b1 x && b2 x)) = _
    rw [e1, e1', e2, e3, e4, e5, e6, e7]
    rfl
theorem map_and {α : Type} {o : Option α} {a b : α → Bool} (h1 : o.map a = some true) (h2 : o.map b = some true) : (o.map fun s => a s && b s) = some true := by
  cases o with
  | none => cases h1
  | some x =>
    show some (a x && b x) = _
    rw [show a x = true from Option.some.inj h1, show b x = true from Option.some.inj h2]
    rfl
theorem map_fst {α β γ : Type} {o : Option α} {f : α → β} {g : α → γ} {y : β} {z : γ} (h : (o.map fun s => (f s, g s)) = some (y, z)) : o.map f = some y ∧ o.map g = some z := by
  cases o with
  | none => cases h
  | some x =>
    obtain ⟨e1, e2⟩ := Prod.mk.inj (Option.some.inj h)
    exact ⟨congrArg some e1, congrArg some e2⟩
theorem all_split {α β : Type} {o : Option α} {l : List β} {p : α → β → Bool} (n : Nat) (h1 : (o.map fun s => (l.take n).all (p s)) = some true) (h2 : (o.map fun s => (l.drop n).all (p s)) = some true) : (o.map fun s => l.all (p s)) = some true := by
  have z := map_and h1 h2
  cases o with
  | none => cases h1
  | some x =>
    have e : ((l.take n).all (p x) && (l.drop n).all (p x)) = true := Option.some.inj z
    rw [← List.all_append, List.take_append_drop] at e
    exact congrArg some e
end G

set_option Elab.async false
set_option linter.all false
set_option maxRecDepth 100000
set_option maxHeartbeats 4000000
namespace G
open PySem L2 PySem.Spec PyProof.Rows

/-! ### a set of texts, out of a list of them -/
def put1 (acc : List Str) (x : Str) : List Str := if acc.contains x = true then acc else acc ++ [x]
def dis (xs : List Str) : List Str := xs.foldl put1 []
theorem put1_has (acc : List Str) (x k : Str) : (put1 acc x).contains k = (acc.contains k || decide (k = x)) := by
  unfold put1
  split
  · rename_i h
    by_cases e : k = x
    · subst e
      rw [h]
      rfl
    · simp [e]
  · by_cases e : k = x <;> simp [e]
theorem put1_len (acc : List Str) (x : Str) : (put1 acc x).length = if acc.contains x = true then acc.length else acc.length + 1 := by
  unfold put1
  split <;> simp
theorem dis_snoc {xs : List Str} {i : Nat} {x : Str} (h : xs[i]? = some x) : dis (xs.take (i + 1)) = put1 (dis (xs.take i)) x := by
  unfold dis
  rw [List.take_add_one, h, List.foldl_append]
  rfl
theorem foldl_len : ∀ (xs acc : List Str), (xs.foldl put1 acc).length ≤ acc.length + xs.length
  | [], acc => Nat.le_refl _
  | x :: r, acc => by
    have h := foldl_len r (put1 acc x)
    have h2 := put1_len acc x
    have h3 : (put1 acc x).length ≤ acc.length + 1 := by rw [h2]; split <;> omega
    show (r.foldl put1 (put1 acc x)).length ≤ acc.length + (r.length + 1)
    omega
theorem dis_len (xs : List Str) : (dis xs).length ≤ xs.length := by
  have h := foldl_len xs []
  simpa [dis] using h
abbrev TxS (P : Program) (w : World) (h : Heap) (S : Addr) (xs : List Str) : Prop := h.SetOf (PySem.strKind P w) S (fun k => (dis xs).contains k) (dis xs).length
theorem TxS.at {P : Program} {w : World} {h h' : Heap} {S : Addr} {xs : List Str} (t : TxS P w h S xs) (k : ∀ o, h.get? S = some o → h'.get? S = some o) : TxS P w h' S xs := by
  obtain ⟨o, es, ep, tb, ho, rest⟩ := t
  exact ⟨o, es, ep, tb, k o ho, rest⟩
section
variable {P : Program} {w : World} {A : Around} {R : Result → Shared → Prop} {I : Addr} {fp wr : List Addr} {Gg : Array GenState → Array GenState → Prop} {n : Nat} {Pv : Nat → Value → Prop} {St : Nat → Shared → Prop}
theorem grow (W : WalksS P w A.in1 I fp wr Gg n Pv St) (S : Addr) (out : S ∉ fp) (xs : List Str) (hn : xs.length = n) (room : n + 1 < scanBound) (hv : ∀ i v, Pv i v → ∃ x t, xs[i]? = some x ∧ v = .str x t) :
    ∀ (m i : Nat) (s : Shared), i + m = n → St i s → TxS P w s.heap S (xs.take i) →
      (∀ s', Moved (S :: wr) Gg s s' → TxS P w s'.heap S xs → R (.ok (.ret .none)) s') →
      codeAny (model P w) A (.builtin "set.update.loop" ⟨[.ref S, .ref I], []⟩) R s
  | 0, i, s, hi, st, hS, k => by
    have nw : S ∉ wr := fun h => out (W.sub _ h)
    refine codeAny_builtin PyProof.Rows.F.entry_set_update_loop ?_
    rw [Around.under_plainId PyProof.Rows.F.plain_set_update_loop _]
    refine wpAny_bind (W.done s _ _ (by rw [show n = i by omega]; exact st) fun s' mv => wpAny_pure (k s' (mv.mono fun b hb => List.mem_cons_of_mem _ hb) ?_))
    rw [List.take_of_length_le (by omega)] at hS
    exact hS.at fun o e => mv.heap S o nw e
  | m + 1, i, s, hi, st, hS, k => by
    have nw : S ∉ wr := fun h => out (W.sub _ h)
    refine codeAny_builtin PyProof.Rows.F.entry_set_update_loop ?_
    rw [Around.under_plainId PyProof.Rows.F.plain_set_update_loop _]
    refine wpAny_bind (W.item i s _ _ (by omega) st fun v s1 pv st1 mv => ?_)
    obtain ⟨x, t, hx, rfl⟩ := hv i v pv
    have h1 : TxS P w s1.heap S (xs.take i) := hS.at fun o e => mv.heap S o nw e
    refine wpAny_bind (wpAny_holding ?_)
    unfold setAdd
    refine wpAny_holding (wpAny_bind ((PySem.strKind P w).pyHash (k := x) (strKind_is _ _ _ _) ?_))
    have few : (dis (xs.take i)).length + 1 < scanBound := by
      have := dis_len (xs.take i)
      have : (xs.take i).length ≤ xs.length := by rw [List.length_take]; omega
      omega
    refine wpAny_setAddHashed_of (knd := PySem.strKind P w) (s := { s1 with toks := s1.toks + 1 }) (strKind_is _ _ _ _) rfl h1 few fun h' sb h2 => ?_
    have h3 : TxS P w h' S (xs.take (i + 1)) := by
      refine SetOf_congr h2 (fun k' => ?_) ?_
      · rw [dis_snoc hx, put1_has]
      · rw [dis_snoc hx, put1_len]
    refine wpAny_pure ⟨plainId_quiet PyProof.Rows.F.plain_set_update_loop _, grow W S out xs hn room hv m (i + 1) _ (by omega) (W.frame _ s1 _ _ st1 (Nat.le_succ _) fun b hb o e => (sb.2 b fun z => out (z ▸ hb)).trans e) h3 fun s2 mv2 h4 => ?_⟩
    exact k s2 (Moved.trans W.gtrans ((mv.mono fun b hb => List.mem_cons_of_mem _ hb).then_heap (Nat.le_succ _) fun b o hb e => (sb.2 b fun z => hb (z ▸ List.mem_cons_self)).trans e) mv2) h4
end
end G

set_option Elab.async false
set_option linter.all false
set_option maxRecDepth 100000
set_option maxHeartbeats 4000000
namespace G
open PySem L2 PySem.Spec PyProof.Rows
def ledW (w : World) : Bool := !w.params.followText "set-order"
/-! ### a set of texts whose items can be walked -/
abbrev ledOk (w : World) (t : SetTable) : Prop := w.params.followText "set-order" = true ∨ t.led = true
structure TabX (P : Program) (w : World) (S : Str → Bool) (es : Array (Int × Value)) (t : SetTable) : Prop where
  el : ElemsOf (PySem.strKind P w) es.toList
  mem : ∀ k, S k = true ↔ ∃ e ∈ es.toList, (PySem.strKind P w).is k e.2 = true
  few : es.size < scanBound
  fit : t.fits es.size = true
  up : Ris t.place.toList
  led : ledOk w t
def SetX (P : Program) (w : World) (h : Heap) (a : Addr) (S : Str → Bool) (n : Nat) : Prop :=
  ∃ (o : Obj) (es : Array (Int × Value)) (ep : Nat) (t : SetTable), h.get? a = some o ∧ o.ExactSet ∧ o.data = .set es ep t ∧ es.size = n ∧ TabX P w S es t
/-- the texts of a list, each once -/
abbrev SetL (P : Program) (w : World) (h : Heap) (a : Addr) (xs : List Str) : Prop := SetX P w h a (fun k => (dis xs).contains k) (dis xs).length
def SetLO (P : Program) (w : World) (a : Addr) (xs : List Str) : HO := .ext fun h => SetL P w h a xs
theorem setL_data {P : Program} {w : World} {h : Heap} {a : Addr} {xs : List Str} (r : SetL P w h a xs) {o : Obj} (e : h.get? a = some o) : ∃ es ep t, o.data = .set es ep t := by
  obtain ⟨o', es, ep, t, g, _, d, _⟩ := r
  rw [e] at g
  cases g
  exact ⟨es, ep, t, d⟩
end G

set_option Elab.async false
set_option linter.all false
set_option maxRecDepth 100000
set_option maxHeartbeats 4000000
/-! G: an evaluator of a part of Python over values without addresses for tuples, and that the machine does what it says. -/
namespace G
open PySem L2 PySem.Spec PyProof.Rows

/-- a value: tuples are data, lists and dicts lie in the heap, by their number -/
inductive W where
  | non | bl (b : Bool) | int (i : Int) | str (s : Str) | tup (ws : List W) | ref (i : Nat) | fn (x : Str) | ty (n : String)
  deriving Inhabited
/-- what lies in the heap: a list of one's own, one that is only read, a dict by texts and ints, one by tuples -/
inductive O where
  | lst (ws : List W) | slst (ws : List W) | dK (kvs : List (Key × W)) | dN (kvs : List (W × W)) | sdN (kvs : List (W × W)) | sdK (kvs : List (Key × W)) | exc (b : Bool) | cup (j : Nat) | txs (xs : List Str)
  deriving Inhabited
abbrev Hh : Type := List O

/-- the module, as the proof sees it -/
structure Md where
  P : Program
  w : World
  K : PySem.W.Frag
  mg : Str → Option Value
  T : List (Addr × Str)
  xa : Option Addr
  cs : Nat → Int × Int
mutual
/-- a value as a key -/
def nk : W → NestedKey
  | .non => .none
  | .bl b => .num (if b = true then 1 else 0)
  | .int i => .num i
  | .str s => .text s
  | .tup ws => .tup (nks ws)
  | _ => .none
def nks : List W → List NestedKey
  | [] => []
  | w :: ws => nk w :: nks ws
end
mutual
def kOk : W → Bool
  | .non => true
  | .bl _ => true
  | .int _ => true
  | .str _ => true
  | .tup ws => kOks ws
  | _ => false
def kOks : List W → Bool
  | [] => true
  | w :: ws => kOk w && kOks ws
end
/-- the dict at a has these entries -/
def DkAt (P : Program) (w : World) (a : Addr) (xs : List (NestedKey × Addr × Value)) : HO := .ext fun h => ∃ (o : Obj) (es : Array DictEntry) (ep : Nat), h.get? a = some o ∧ o.ExactDict ∧ o.data = .dict es ep ∧ es.toList = xs.map (entryOfKey (nestedKind P w))
def ents (kvs : List (W × W)) (xs : List (Addr × V × Value)) : List (NestedKey × Addr × Value) := List.zipWith (fun p q => (nk p.1, q.1, q.2.2)) kvs xs

section
variable (M : Md)
mutual
def RelW (H : Hp) (ι : List Addr) : W → V → Prop
  | .non, v => v = .non
  | .bl b, v => v = .bl b
  | .int i, v => v = .int i
  | .str s, v => v = .str s
  | .tup ws, v => ∃ a vs, v = .ref a ∧ SqT M.K H a vs ∧ RelWs H ι ws vs
  | .ref i, v => ∃ a, ι[i]? = some a ∧ v = .ref a
  | .fn x, v => ∃ f, M.mg x = some (.ref f) ∧ v = .ref f
  | .ty n, v => v = .ty n
def RelWs (H : Hp) (ι : List Addr) : List W → List V → Prop
  | [], vs => vs = []
  | w :: ws, vs => ∃ v r, vs = v :: r ∧ RelW H ι w v ∧ RelWs H ι ws r
end
/-- a list that nobody changes -/
def StL (K : PySem.W.Frag) (H : Hp) (a : Addr) (xs : List V) : Prop := (∃ o, H a = some (.frz o (.lst xs))) ∨
  ∃ (o : Obj) (its : Array Value) (n : Nat), K.lookup a = some o ∧ o.cls = .type "list" ∧ o.dict = none ∧ o.data = .seq its n ∧ its.size ≤ sizeLine ∧ Vals xs its.toList
/-- what may be changed -/
def Mt : O → Bool
  | .slst _ => false
  | .sdN _ => false
  | .sdK _ => false
  | .exc _ => false
  | _ => true
/-- what is held once -/
def Ow : O → Bool
  | .slst _ => false
  | .exc _ => false
  | _ => true
theorem Mt.ow {o : O} (h : Mt o = true) : Ow o = true := by cases o <;> first | rfl | cases h
def RelO (H : Hp) (ι : List Addr) (a : Addr) : O → Prop
  | .lst ws => ∃ vs, H a = some (.lst vs) ∧ RelWs M H ι ws vs
  | .slst ws => ∃ vs, StL M.K H a vs ∧ RelWs M H ι ws vs
  | .dK kvs => ∃ vs : List V, H a = some (.dK ((kvs.map (·.1)).zip vs)) ∧ RelWs M H ι (kvs.map (·.2)) vs
  | .dN kvs => ∃ xs : List (Addr × V × Value), H a = some (DkAt M.P M.w a (ents kvs xs)) ∧ kvs.length ≤ sizeLine ∧ (a == sysModules) = false ∧ (kvs.map fun p => nk p.1).Nodup ∧
      Paired (fun p q => (RelW M H ι p.1 (.ref q.1) ∧ kOk p.1 = true ∧ (nk p.1).depth ≤ 8) ∧ RelW M H ι p.2 q.2.1 ∧ RelV q.2.1 q.2.2) kvs xs
  | .sdN kvs => ∃ (xs : List (Addr × V × Value)) (od : Obj), H a = some (.frz od (DkAt M.P M.w a (ents kvs xs))) ∧ kvs.length ≤ sizeLine ∧ (a == sysModules) = false ∧ (kvs.map fun p => nk p.1).Nodup ∧
      Paired (fun p q => (RelW M H ι p.1 (.ref q.1) ∧ kOk p.1 = true ∧ (nk p.1).depth ≤ 8) ∧ RelW M H ι p.2 q.2.1 ∧ RelV q.2.1 q.2.2) kvs xs
  | .sdK kvs => ∃ (vs : List V) (od : Obj), H a = some (.frz od (.dK ((kvs.map (·.1)).zip vs))) ∧ RelWs M H ι (kvs.map (·.2)) vs
  | .exc b => b = true → M.xa = some a
  | .cup j => H a = some (.lst [V.int (M.cs j).1, V.int (M.cs j).2])
  | .txs xs => H a = some (SetLO M.P M.w a xs)
structure Rel (ι : List Addr) (E : Hh) (H : Hp) : Prop where
  len : ι.length = E.length
  inj : ∀ (i j : Nat) (a : Addr) (o u : O), ι[i]? = some a → ι[j]? = some a → (E : List O)[i]? = some o → (E : List O)[j]? = some u → Ow o = true → Ow u = true → i = j
  obj : ∀ (i : Nat) (o : O), (E : List O)[i]? = some o → ∃ a, ι[i]? = some a ∧ RelO M H ι a o
  tabs : LamX.Tabs M.T H
def RelS (H : Hp) (ι : List Addr) (σE : List (Option W)) (σ : L2.St) : Prop :=
  σE.length = List.length σ ∧ ∀ (i : Nat) (w : W), σE[i]? = some (some w) → ∃ v, (σ : List (Option V))[i]? = some (some v) ∧ RelW M H ι w v
/-- what stays: addresses of what was made, tuples, and what is only read -/
structure Ext (ι : List Addr) (H : Hp) (ι' : List Addr) (H' : Hp) : Prop where
  pre : ι <+: ι'
  tup : ∀ a xs, SqT M.K H a xs → SqT M.K H' a xs
  frz : ∀ a o u, H a = some (.frz o u) → H' a = some (.frz o u)
end

variable {M : Md} {H H' H1 H2 : Hp} {ι ι' ι1 ι2 : List Addr}
theorem Ext.refl (H : Hp) (ι : List Addr) : Ext M ι H ι H := ⟨List.prefix_refl _, fun _ _ h => h, fun _ _ _ h => h⟩
theorem Ext.trans (a : Ext M ι H ι1 H1) (b : Ext M ι1 H1 ι2 H2) : Ext M ι H ι2 H2 := ⟨a.pre.trans b.pre, fun x y h => b.tup x y (a.tup x y h), fun x o u h => b.frz x o u (a.frz x o u h)⟩
theorem pre_get {ι ι' : List Addr} (p : ι <+: ι') {i : Nat} {a : Addr} (h : ι[i]? = some a) : ι'[i]? = some a := by
  obtain ⟨t, rfl⟩ := p
  obtain ⟨hi, _⟩ := List.getElem?_eq_some_iff.mp h
  rw [List.getElem?_append_left hi]
  exact h
mutual
theorem RelW.ext (x : Ext M ι H ι' H') : ∀ {w : W} {v : V}, RelW M H ι w v → RelW M H' ι' w v
  | .non, _, h => h
  | .bl _, _, h => h
  | .int _, _, h => h
  | .str _, _, h => h
  | .tup ws, v, h => by
    obtain ⟨a, vs, e, ht, hw⟩ := h
    exact ⟨a, vs, e, x.tup _ _ ht, RelWs.ext x hw⟩
  | .ref i, v, h => by
    obtain ⟨a, e, hv⟩ := h
    exact ⟨a, pre_get x.pre e, hv⟩
  | .fn _, _, h => h
  | .ty _, _, h => h
theorem RelWs.ext (x : Ext M ι H ι' H') : ∀ {ws : List W} {vs : List V}, RelWs M H ι ws vs → RelWs M H' ι' ws vs
  | [], _, h => h
  | w :: ws, vs, h => by
    obtain ⟨v, r, e, h1, h2⟩ := h
    exact ⟨v, r, e, RelW.ext x h1, RelWs.ext x h2⟩
end
theorem RelS.ext {σE : List (Option W)} {σ : L2.St} (x : Ext M ι H ι' H') (h : RelS M H ι σE σ) : RelS M H' ι' σE σ :=
  ⟨h.1, fun i w e => let ⟨v, e1, r⟩ := h.2 i w e; ⟨v, e1, r.ext x⟩⟩
theorem RelWs.length : ∀ {ws : List W} {vs : List V}, RelWs M H ι ws vs → ws.length = vs.length
  | [], vs, h => by rw [show vs = [] from h]; rfl
  | w :: ws, vs, h => by
    obtain ⟨v, r, rfl, h1, h2⟩ := h
    simp [RelWs.length h2]
theorem RelWs.get : ∀ {ws : List W} {vs : List V} {i : Nat} {w : W}, RelWs M H ι ws vs → ws[i]? = some w → ∃ v, vs[i]? = some v ∧ RelW M H ι w v
  | [], _, _, _, _, e => by simp at e
  | w :: ws, vs, 0, x, h, e => by
    obtain ⟨v, r, rfl, h1, h2⟩ := h
    simp at e; subst e
    exact ⟨v, rfl, h1⟩
  | w :: ws, vs, i + 1, x, h, e => by
    obtain ⟨v, r, rfl, h1, h2⟩ := h
    obtain ⟨u, e1, e2⟩ := RelWs.get (i := i) h2 (by simpa using e)
    exact ⟨u, by simpa using e1, e2⟩
theorem RelWs.append : ∀ {ws xs : List W} {vs us : List V}, RelWs M H ι ws vs → RelWs M H ι xs us → RelWs M H ι (ws ++ xs) (vs ++ us)
  | [], _, _, _, h, q => by rw [show _ = [] from h]; exact q
  | w :: ws, _, _, _, h, q => by
    obtain ⟨v, r, rfl, h1, h2⟩ := h
    exact ⟨v, r ++ _, rfl, h1, RelWs.append h2 q⟩
theorem RelWs.take : ∀ {ws : List W} {vs : List V} (n : Nat), RelWs M H ι ws vs → RelWs M H ι (ws.take n) (vs.take n)
  | [], _, n, h => by rw [show _ = [] from h]; simp [RelWs]
  | w :: ws, _, 0, h => by simp [RelWs]
  | w :: ws, _, n + 1, h => by
    obtain ⟨v, r, rfl, h1, h2⟩ := h
    exact ⟨v, r.take n, rfl, h1, RelWs.take n h2⟩
theorem RelWs.drop : ∀ {ws : List W} {vs : List V} (n : Nat), RelWs M H ι ws vs → RelWs M H ι (ws.drop n) (vs.drop n)
  | [], _, n, h => by rw [show _ = [] from h]; simp [RelWs]
  | w :: ws, _, 0, h => h
  | w :: ws, _, n + 1, h => by
    obtain ⟨v, r, rfl, h1, h2⟩ := h
    exact RelWs.drop n h2
theorem RelWs.set : ∀ {ws : List W} {vs : List V} {w : W} {v : V} (i : Nat), RelW M H ι w v → RelWs M H ι ws vs → RelWs M H ι (ws.set i w) (vs.set i v)
  | [], _, _, _, _, _, h => by rw [show _ = [] from h]; simp [RelWs]
  | x :: ws, _, w, v, 0, q, h => by
    obtain ⟨u, r, rfl, h1, h2⟩ := h
    exact ⟨v, r, rfl, q, h2⟩
  | x :: ws, _, w, v, i + 1, q, h => by
    obtain ⟨u, r, rfl, h1, h2⟩ := h
    exact ⟨u, r.set i v, rfl, h1, RelWs.set i q h2⟩
theorem RelWs.replicate {ws : List W} {vs : List V} (h : RelWs M H ι ws vs) : ∀ n : Nat, RelWs M H ι (List.replicate n ws).flatten (List.replicate n vs).flatten
  | 0 => by simp [RelWs]
  | n + 1 => by
    rw [List.replicate_succ, List.replicate_succ, List.flatten_cons, List.flatten_cons]
    exact RelWs.append h (RelWs.replicate h n)

/-! ### what comes of an act -/
/-- behind it: some value and heap, and whatever addresses there are -/
def Post (M : Md) (ι : List Addr) (H : Hp) (c : Option (W × Hh)) (Q : VK) : Prop :=
  ∃ w E', c = some (w, E') ∧ ∀ ι' H' v, Ext M ι H ι' H' → Rel M ι' E' H' → RelW M H' ι' w v → Q v H'
theorem SqT.new {K : PySem.W.Frag} {p : Addr} {ho : HO} {a : Addr} {xs : List V} (hp : H p = none) (h : SqT K H a xs) : SqT K (upd H p ho) a xs := by
  rcases h with (h | ⟨o, h⟩) | h
  · exact .inl (.inl (by rw [upd_ne (ne_of_none h hp)]; exact h))
  · exact .inl (.inr ⟨o, by rw [upd_ne (ne_of_none h hp)]; exact h⟩)
  · exact .inr h
theorem StL.new {K : PySem.W.Frag} {p : Addr} {ho : HO} {a : Addr} {xs : List V} (hp : H p = none) (h : StL K H a xs) : StL K (upd H p ho) a xs := by
  rcases h with ⟨o, h⟩ | h
  · exact .inl ⟨o, by rw [upd_ne (ne_of_none h hp)]; exact h⟩
  · exact .inr h
theorem StL.sq {K : PySem.W.Frag} {a : Addr} {xs : List V} (h : StL K H a xs) : SqL K H a xs := by
  rcases h with ⟨o, h⟩ | h
  · exact .inl (.inr ⟨o, h⟩)
  · exact .inr h
theorem RelO.some_of {a : Addr} {o : O} (h : RelO M H ι a o) (m : Ow o = true) : ∃ u, H a = some u := by
  cases o with
  | lst ws => obtain ⟨vs, h1, _⟩ := h; exact ⟨_, h1⟩
  | slst ws => cases m
  | dK kvs => obtain ⟨vs, h1, _⟩ := h; exact ⟨_, h1⟩
  | dN kvs => obtain ⟨vs, h1, _⟩ := h; exact ⟨_, h1⟩
  | sdN kvs => obtain ⟨vs, od, h1, _⟩ := h; exact ⟨_, h1⟩
  | sdK kvs => obtain ⟨vs, od, h1, _⟩ := h; exact ⟨_, h1⟩
  | exc b => cases m
  | cup j => exact ⟨_, h⟩
  | txs xs => exact ⟨_, h⟩
/-- an object stays where another address is written -/
theorem RelO.other {p a : Addr} {ho : HO} {o : O} (x : Ext M ι H ι' (upd H p ho)) (hs : ∀ a xs, StL M.K H a xs → StL M.K (upd H p ho) a xs) (hz : ∀ b o u, H b = some (.frz o u) → upd H p ho b = some (.frz o u)) (na : Ow o = true → a ≠ p) (h : RelO M H ι a o) : RelO M (upd H p ho) ι' a o := by
  cases o with
  | lst ws => obtain ⟨vs, h1, h2⟩ := h; exact ⟨vs, by rw [upd_ne (na rfl)]; exact h1, h2.ext x⟩
  | slst ws => obtain ⟨vs, h1, h2⟩ := h; exact ⟨vs, hs _ _ h1, h2.ext x⟩
  | dK kvs => obtain ⟨vs, h1, h2⟩ := h; exact ⟨vs, by rw [upd_ne (na rfl)]; exact h1, h2.ext x⟩
  | dN kvs => obtain ⟨vs, h1, h2, h3, h4, h5⟩ := h; exact ⟨vs, by rw [upd_ne (na rfl)]; exact h1, h2, h3, h4, Paired.mapP h5 fun p q ⟨⟨a1, a2⟩, a3, a4⟩ => ⟨⟨a1.ext x, a2⟩, a3.ext x, a4⟩⟩
  | sdK kvs => obtain ⟨vs, od, h1, h2⟩ := h; exact ⟨vs, od, hz _ _ _ h1, h2.ext x⟩
  | exc b => exact h
  | cup j => exact (upd_ne (na rfl)).trans h
  | txs xs => exact (upd_ne (na rfl)).trans h
  | sdN kvs => obtain ⟨vs, od, h1, h2, h3, h4, h5⟩ := h; exact ⟨vs, od, hz _ _ _ h1, h2, h3, h4, Paired.mapP h5 fun p q ⟨⟨a1, a2⟩, a3, a4⟩ => ⟨⟨a1.ext x, a2⟩, a3.ext x, a4⟩⟩
/-- neither a table nor a code object -/
def NoCode (a : Addr) (q : HO) : Prop := (∀ ps, q ≠ .tbl ps) ∧ ∀ nm, q ≠ LamX.CodeO a nm
theorem Tabs.putN {T : List (Addr × Str)} {a : Addr} {q ho : HO} (t : LamX.Tabs T H) (hq : H a = some q) (nc : NoCode a q) : LamX.Tabs T (upd H a ho) := fun p hp => by
  obtain ⟨ps, h1, h2, h3⟩ := t p hp
  refine ⟨ps, by rw [upd_ne (fun z => by rw [z, hq] at h1; exact nc.1 ps (Option.some.inj h1))]; exact h1, h2, fun pos cv hc => ?_⟩
  obtain ⟨c, e1, e2⟩ := h3 pos cv hc
  exact ⟨c, e1, by rw [upd_ne (fun z => by subst z; rw [hq] at e2; exact nc.2 p.2 (Option.some.inj e2))]; exact e2⟩
theorem DkAt.noCode {P : Program} {w : World} {a : Addr} {xs : List (NestedKey × Addr × Value)} : NoCode a (DkAt P w a xs) := by
  refine ⟨fun ps z => (by unfold DkAt at z; cases z), fun nm z => ?_⟩
  unfold DkAt LamX.CodeO at z
  injection z with z
  let o : Obj := ⟨.none, none, .fields #[.none, .str nm 0], #[]⟩
  let h : Heap := ⟨Array.replicate (a + 1) o, {}⟩
  have e : h.get? a = some o := by
    unfold Heap.get?
    rw [show h.objs[a]? = some o from by show (Array.replicate (a + 1) o)[a]? = _; rw [Array.getElem?_replicate, if_pos (Nat.lt_succ_self a)]]
  have k := congrFun z h
  have k2 : ∃ (oc : Obj) (vs : Array Value) (t : Tok), h.get? a = some oc ∧ oc.data = .fields vs ∧ vs[1]? = some (.str nm t) := ⟨o, _, 0, e, rfl, rfl⟩
  rw [← k] at k2
  obtain ⟨o', es, ep, e1, e2, e3, _⟩ := k2
  rw [e] at e1
  cases e1
  cases e3
theorem setL_noCode {P : Program} {w : World} {a : Addr} {xs : List Str} : NoCode a (SetLO P w a xs) := by
  refine ⟨fun ps z => (by unfold SetLO at z; cases z), fun nm z => ?_⟩
  unfold SetLO LamX.CodeO at z
  injection z with z
  let o : Obj := ⟨.none, none, .fields #[.none, .str nm 0], #[]⟩
  let h : Heap := ⟨Array.replicate (a + 1) o, {}⟩
  have e : h.get? a = some o := by
    unfold Heap.get?
    rw [show h.objs[a]? = some o from by show (Array.replicate (a + 1) o)[a]? = _; rw [Array.getElem?_replicate, if_pos (Nat.lt_succ_self a)]]
  have k := congrFun z h
  have k2 : ∃ (oc : Obj) (vs : Array Value) (t : Tok), h.get? a = some oc ∧ oc.data = .fields vs ∧ vs[1]? = some (.str nm t) := ⟨o, _, 0, e, rfl, rfl⟩
  rw [← k] at k2
  obtain ⟨es, ep, t, d⟩ := setL_data k2 e
  cases d
theorem RelO.noCode {a : Addr} {o : O} {q : HO} (h : RelO M H ι a o) (m : Mt o = true) (hq : H a = some q) : NoCode a q := by
  cases o with
  | lst ws => obtain ⟨vs, h1, _⟩ := h; rw [hq] at h1; cases h1; exact ⟨fun _ z => (nomatch z), fun _ z => (by unfold LamX.CodeO at z; cases z)⟩
  | slst ws => cases m
  | dK kvs => obtain ⟨vs, h1, _⟩ := h; rw [hq] at h1; cases h1; exact ⟨fun _ z => (nomatch z), fun _ z => (by unfold LamX.CodeO at z; cases z)⟩
  | dN kvs => obtain ⟨vs, h1, _⟩ := h; rw [hq] at h1; cases h1; exact DkAt.noCode
  | sdN kvs => cases m
  | sdK kvs => cases m
  | exc b => cases m
  | cup j => rw [show H a = _ from h] at hq; cases hq; exact ⟨fun _ z => (nomatch z), fun _ z => (by unfold LamX.CodeO at z; cases z)⟩
  | txs xs => rw [show H a = _ from h] at hq; cases hq; exact setL_noCode
/-- a new object that the proof tells -/
theorem Rel.new {E : Hh} {p : Addr} {ho : HO} {o : O} (R : Rel M ι E H) (hp : H p = none) (new : Ext M ι H (ι ++ [p]) (upd H p ho) → RelO M (upd H p ho) (ι ++ [p]) p o) :
    Rel M (ι ++ [p]) (E ++ [o]) (upd H p ho) ∧ Ext M ι H (ι ++ [p]) (upd H p ho) := by
  have x : Ext M ι H (ι ++ [p]) (upd H p ho) := ⟨⟨[p], rfl⟩, fun _ _ h => SqT.new hp h, fun b o u h => by rw [upd_ne (ne_of_none h hp)]; exact h⟩
  have old : ∀ (i : Nat) (u : O), (E ++ [o])[i]? = some u → i < E.length ∧ E[i]? = some u ∨ i = E.length ∧ u = o := fun i u e => by
    by_cases hi : i < E.length
    · rw [List.getElem?_append_left hi] at e
      exact .inl ⟨hi, e⟩
    · have h := (List.getElem?_eq_some_iff.mp e).1
      simp at h
      have hi' : i = E.length := by omega
      subst hi'
      simp at e
      exact .inr ⟨rfl, e.symm⟩
  have frs : ∀ (i : Nat) (u : O), E[i]? = some u → Ow u = true → ι[i]? ≠ some p := fun i u e m z => by
    obtain ⟨a, ea, ro⟩ := R.obj i u e
    rw [z] at ea
    cases ea
    obtain ⟨q, hq⟩ := ro.some_of m
    rw [hp] at hq
    cases hq
  have lft : ∀ {i : Nat}, i < E.length → (ι ++ [p])[i]? = ι[i]? := fun {i} hi => List.getElem?_append_left (by rw [R.len]; exact hi)
  have rgt : (ι ++ [p])[E.length]? = some p := by rw [← R.len]; simp
  refine ⟨⟨by simp [R.len], fun i j a u1 u2 h1 h2 e1 e2 m1 m2 => ?_, fun i u e => ?_, R.tabs.ext fun b o h => by rw [upd_ne (ne_of_none h hp)]; exact h⟩, x⟩
  · rcases old i u1 e1 with ⟨l1, g1⟩ | ⟨l1, g1⟩ <;> rcases old j u2 e2 with ⟨l2, g2⟩ | ⟨l2, g2⟩
    · rw [lft l1] at h1
      rw [lft l2] at h2
      exact R.inj i j a u1 u2 h1 h2 g1 g2 m1 m2
    · rw [lft l1] at h1
      rw [l2, rgt] at h2
      cases h2
      exact absurd h1 (frs i u1 g1 m1)
    · rw [lft l2] at h2
      rw [l1, rgt] at h1
      cases h1
      exact absurd h2 (frs j u2 g2 m2)
    · rw [l1, l2]
  · rcases old i u e with ⟨l1, g1⟩ | ⟨l1, g1⟩
    · obtain ⟨a, ea, ro⟩ := R.obj i u g1
      refine ⟨a, pre_get x.pre ea, ro.other x (fun _ _ h => StL.new hp h) (fun b o u h => by rw [upd_ne (ne_of_none h hp)]; exact h) fun m z => ?_⟩
      exact frs i u g1 m (z ▸ ea)
    · subst g1
      exact ⟨p, by rw [l1]; exact rgt, new x⟩
/-- .. that it does not tell (a tuple) -/
theorem Rel.newT {E : Hh} {p : Addr} {ho : HO} (R : Rel M ι E H) (hp : H p = none) : Rel M ι E (upd H p ho) ∧ Ext M ι H ι (upd H p ho) := by
  have x : Ext M ι H ι (upd H p ho) := ⟨List.prefix_refl _, fun _ _ h => SqT.new hp h, fun b o u h => by rw [upd_ne (ne_of_none h hp)]; exact h⟩
  refine ⟨⟨R.len, R.inj, fun i u e => ?_, R.tabs.ext fun b o h => by rw [upd_ne (ne_of_none h hp)]; exact h⟩, x⟩
  obtain ⟨a, ea, ro⟩ := R.obj i u e
  refine ⟨a, ea, ro.other x (fun _ _ h => StL.new hp h) (fun b o u h => by rw [upd_ne (ne_of_none h hp)]; exact h) fun m z => ?_⟩
  obtain ⟨q, hq⟩ := ro.some_of m
  rw [z, hp] at hq
  cases hq
/-- an object of one's own is written -/
theorem Rel.put {E : Hh} {i : Nat} {a : Addr} {u : O} {ho : HO} {o : O} (R : Rel M ι E H) (ha : ι[i]? = some a) (hu : E[i]? = some u) (mu : Mt u = true) (nt : ∀ q, H a = some q → (∀ xs, q ≠ .tup xs) ∧ ∀ b xs, q ≠ .frz b xs)
    (mo : Mt o = true) (new : Ext M ι H ι (upd H a ho) → RelO M (upd H a ho) ι a o) : Rel M ι (E.set i o) (upd H a ho) ∧ Ext M ι H ι (upd H a ho) := by
  obtain ⟨q, hq⟩ : ∃ q, H a = some q := by
    obtain ⟨b, eb, ro⟩ := R.obj i u hu
    rw [ha] at eb
    cases eb
    exact ro.some_of (Mt.ow mu)
  obtain ⟨n1, n2⟩ := nt q hq
  have x : Ext M ι H ι (upd H a ho) := by
    refine ⟨List.prefix_refl _, fun b xs h => ?_, fun b o u h => by rw [upd_ne (fun z => by rw [z, hq] at h; exact n2 _ _ (Option.some.inj h))]; exact h⟩
    rcases h with (h | ⟨ob, h⟩) | h
    · exact .inl (.inl (by rw [upd_ne (fun z => by rw [z, hq] at h; exact n1 xs (Option.some.inj h))]; exact h))
    · exact .inl (.inr ⟨ob, by rw [upd_ne (fun z => by rw [z, hq] at h; exact n2 _ _ (Option.some.inj h))]; exact h⟩)
    · exact .inr h
  have st : ∀ b xs, StL M.K H b xs → StL M.K (upd H a ho) b xs := fun b xs h => by
    rcases h with ⟨ob, h⟩ | h
    · exact .inl ⟨ob, by rw [upd_ne (fun z => by rw [z, hq] at h; exact n2 _ _ (Option.some.inj h))]; exact h⟩
    · exact .inr h
  have hi : i < E.length := (List.getElem?_eq_some_iff.mp hu).1
  have set_at : ∀ (j : Nat) (v : O), (E.set i o)[j]? = some v → j = i ∧ v = o ∨ j ≠ i ∧ E[j]? = some v := fun j v e => by
    by_cases hj : j = i
    · subst hj
      rw [List.getElem?_set_self hi] at e
      exact .inl ⟨rfl, (Option.some.inj e).symm⟩
    · rw [List.getElem?_set_ne (Ne.symm hj)] at e
      exact .inr ⟨hj, e⟩
  have nc : NoCode a q := by
    obtain ⟨b, eb, ro⟩ := R.obj i u hu
    rw [ha] at eb
    cases eb
    exact ro.noCode mu hq
  refine ⟨⟨by rw [List.length_set]; exact R.len, fun j k b v1 v2 h1 h2 e1 e2 m1 m2 => ?_, fun j v e => ?_, Tabs.putN R.tabs hq nc⟩, x⟩
  · rcases set_at j v1 e1 with ⟨l1, g1⟩ | ⟨l1, g1⟩ <;> rcases set_at k v2 e2 with ⟨l2, g2⟩ | ⟨l2, g2⟩
    · rw [l1, l2]
    · rw [l1] at h1 ⊢
      exact R.inj i k b u v2 h1 h2 hu g2 (Mt.ow mu) m2
    · rw [l2] at h2 ⊢
      exact R.inj j i b v1 u h1 h2 g1 hu m1 (Mt.ow mu)
    · exact R.inj j k b v1 v2 h1 h2 g1 g2 m1 m2
  · rcases set_at j v e with ⟨l1, g1⟩ | ⟨l1, g1⟩
    · subst l1
      subst g1
      exact ⟨a, ha, new x⟩
    · obtain ⟨b, eb, ro⟩ := R.obj j v g1
      refine ⟨b, eb, ro.other x st (fun b o u h => by rw [upd_ne (fun z => by rw [z, hq] at h; exact n2 _ _ (Option.some.inj h))]; exact h) fun m z => ?_⟩
      subst z
      exact l1 (R.inj j i b v u eb ha g1 hu m (Mt.ow mu))
end G

set_option Elab.async false
set_option linter.all false
set_option maxRecDepth 100000
set_option maxHeartbeats 2000000
namespace G
open PySem PySem.Spec PyProof.Rows L2
/-! ### a value as the head's heap has it -/
mutual
def rwB (K : PySem.W.Frag) : W → Value → Bool
  | .non, .none => true
  | .bl b, .bool c => b == c
  | .int i, .int j _ => decide (i = j)
  | .str s, .str t _ => decide (s = t)
  | .tup ws, .ref a => (match K.lookup a with
    | some ⟨.type c, _, .seq its _, _⟩ => decide (c = "tuple") && (decide (its.size ≤ sizeLine) && rwBs K ws its.toList)
    | _ => false)
  | .fn x, .ref f => He.eqO (PySem.W.nsIn K mainGlobals x) (some (some (.ref f)))
  | .ty n, .type m => decide (n = m)
  | _, _ => false
def rwBs (K : PySem.W.Frag) : List W → List Value → Bool
  | [], [] => true
  | w :: ws, u :: us => rwB K w u && rwBs K ws us
  | _, _ => false
end
def dEs (K : PySem.W.Frag) : List DictEntry → List (Str × W) → Bool
  | [], [] => true
  | e :: r, p :: q => (match e.key with
    | .str x _ => decide (x = p.1)
    | _ => false) && (rwB K p.2 e.val && dEs K r q)
  | _, _ => false
def dctB (K : PySem.W.Frag) (a : Addr) (kvs : List (Str × W)) : Bool := match K.lookup a with
  | some ⟨_, _, .dict es _, _⟩ => dEs K es.toList kvs
  | _ => false
/-- what the head has to tell of a module: constants, written dicts, the lambdas' tables -/
def tabsL (lams : List Str) (K : PySem.W.Frag) : List (Addr × Str) := lams.map fun x => ((He.cT K (x, none)).2, (x ++ ".<locals>.") ++ "<lambda>")
def okQ (cs : List (Str × W)) (dct : List (Str × List (Str × W))) (lams : List Str) (K : PySem.W.Frag) : Bool := (cs.all fun p => match PySem.W.nsIn K mainGlobals p.1 with
  | some (some u) => rwB K p.2 u
  | _ => false) && ((dct.all fun p => dctB K (He.ga K p.1) p.2) && decide ((tabsL lams K).map (·.1)).Nodup)
end G

set_option Elab.async false
set_option linter.all false
set_option maxRecDepth 100000
set_option maxHeartbeats 2000000
namespace G
open PySem PySem.Spec PyProof.Rows L2
def exCB (K : PySem.W.Frag) (D : Addr) : Bool := He.eqO (PySem.W.findIn K (.ref D) "__getattribute__") (some (some (.builtin "BaseException.__getattribute__"))) && (He.eqO (PySem.W.findIn K (.ref D) "__getattr__") (some none) && (decide (PySem.W.subIn K (.ref D) (.type "BaseException") = some true) && (PySem.W.hasDictIn K D &&
  (He.eqO (PySem.W.findIn K (.ref D) "__class__") (some (some (.builtin "object.__class__"))) && (He.eqO (PySem.W.specialIn K (.builtin "object.__class__") "__get__") (some (some (.builtin "getset_descriptor.__get__"))) && (decide (PySem.W.takesIn K (.builtin "object.__class__") = some true) && decide (PySem.W.mroIn K D (.type "object") = some true)))))))
theorem exCB_ok {K : PySem.W.Frag} {D : Addr} (e : exCB K D = true) : L2.ExcC K D := by
  obtain ⟨h1, e⟩ := He.ba e
  obtain ⟨h2, e⟩ := He.ba e
  obtain ⟨h3, e⟩ := He.ba e
  obtain ⟨h4, e⟩ := He.ba e
  obtain ⟨h5, e⟩ := He.ba e
  obtain ⟨h6, e⟩ := He.ba e
  obtain ⟨h7, h8⟩ := He.ba e
  exact ⟨He.eqO_ok h1, He.eqO_ok h2, of_decide_eq_true h3, h4, He.eqO_ok h5, He.eqO_ok h6, of_decide_eq_true h7, of_decide_eq_true h8⟩
/-- xs: the classes that come; top: the one that is caught -/
def excsB (xs : List Str) (top : Str) (K : PySem.W.Frag) : Bool := xs.all fun x => exCB K (He.ga K x) && (decide (PySem.W.kitOne K (.ref (He.ga K x)) (.type "ValueError") = some true) && (decide (PySem.W.exmOne K (.ref (He.ga K x)) (.ref (He.ga K top)) = some true) &&
  xs.all fun y => decide (PySem.W.kitOne K (.ref (He.ga K x)) (.ref (He.ga K y)) = some (decide (y = x)))))
structure ExcsOk (K : PySem.W.Frag) (mg : Str → Option Value) (xs : List Str) (top : Str) : Prop where
  top : ∃ T, mg top = some (.ref T) ∧ ∀ x ∈ xs, ∃ D, mg x = some (.ref D) ∧ L2.ExcC K D ∧ PySem.W.kitOne K (.ref D) (.type "ValueError") = some true ∧ PySem.W.exmOne K (.ref D) (.ref T) = some true ∧
    ∀ y ∈ xs, ∃ C, mg y = some (.ref C) ∧ PySem.W.kitOne K (.ref D) (.ref C) = some (decide (y = x))
theorem excsB_ok {K : PySem.W.Frag} {mg : Str → Option Value} {xs : List Str} {top : Str} (e : excsB xs top K = true) (ht : mg top = some (.ref (He.ga K top))) (hx : ∀ x ∈ xs, mg x = some (.ref (He.ga K x))) : ExcsOk K mg xs top := ⟨_, ht, fun x m => by
  obtain ⟨h1, r⟩ := He.ba (List.all_eq_true.mp e x m)
  obtain ⟨h2, r⟩ := He.ba r
  obtain ⟨h3, h4⟩ := He.ba r
  exact ⟨_, hx x m, exCB_ok h1, of_decide_eq_true h2, of_decide_eq_true h3, fun y my => ⟨_, hx y my, of_decide_eq_true (List.all_eq_true.mp h4 y my)⟩⟩⟩
end G

set_option Elab.async false
set_option linter.all false
set_option maxRecDepth 100000
set_option maxHeartbeats 4000000
namespace G
open PySem L2 PySem.Spec PyProof.Rows
def main61 : List Stmt := PySem.Challenge.pw_namesapart_k61_errors_of_early_and_late.main.body
def clss61 : List Str := main61.filterMap fun
  | .ClassDef (name := n) .. => some n
  | _ => none
def clssX61 : List Str := clss61.filter fun x => !(x == ("TooMany" : Str))
def d61_FIRST_PART : List (Str × W) := [("apply", (.int 1)), ("test", (.int 1)), ("reckon", (.int 2)), ("given", (.int 2)), ("hold", (.int 2)), ("each", (.int 1)), ("fold", (.int 1)), ("code", (.int 1)), ("put", (.int 1)), ("run", (.int 1)), ("lift", (.int 1))]
def d61_ITEMS : List (Str × W) := [("amount", (.int 2)), ("use", (.int 2)), ("given", (.int 3)), ("apply", (.int 3)), ("hold", (.int 4)), ("reckon", (.int 4)), ("test", (.int 4)), ("maker", (.int 4)), ("make", (.int 3)), ("fill", (.int 2))]
def consts61 : List (Str × W) := [("LETTERS", .str "abcdefghijklmnopqrstuvwxyz"), ("NO_WORDS", .tup [(.str "given"), (.str "apply"), (.str "hold"), (.str "test"), (.str "maker"), (.str "row"), (.str "make"), (.str "any"), (.str "name"), (.str "word"), (.str "fill")]), ("MOST_LETTERS", .int 6), ("GREATEST_AMOUNT", .int 1000000000000), ("NAME_BOUNDS", .tup [(.int 40), (.int 40)]), ("MOST_SIZE", .int 1000), ("MOST_DEPTH", .int 60), ("MOST_ROWS", .int 4), ("MOST_PIECES", .int 6), ("SIGNS", .tup [(.str "+"), (.str "-"), (.str "*")]), ("BINDERS", .tup [(.str "given"), (.str "hold"), (.str "maker")]), ("NAMED", .tup [(.str "use"), (.str "make"), (.str "given"), (.str "hold"), (.str "maker")]), ("LEAVES", .tup [(.str "use"), (.str "amount"), (.str "fill")]), ("MOST_STEPS", .int 400), ("MOST_CELLS", .int 4), ("MOST_DEEDS", .int 5), ("MOST_ASKED", .int 100), ("MOST_STEPS_TOLD", .int 100), ("STEP_WORDS", .tup [(.str "bind"), (.str "choose"), (.str "drop"), (.str "fold"), (.str "known"), (.str "put")]), ("READY", .tup [(.str "amount"), (.str "given"), (.str "use")]), ("MOST_WORDS", .int 4), ("MOST_AMOUNT", .int 3), ("MOST_KNOWN", .int 4), ("FIGURES", .str "0123456789"), ("MOST_OPEN", .int 200), ("MOST_FIGURES", .int 20)]
def dcts61 : List (Str × List (Str × W)) := [("FIRST_PART", d61_FIRST_PART), ("ITEMS", d61_ITEMS)]
def nonL61 : List Str := ["abs", "all", "any", "bool", "enumerate", "int", "isinstance", "len", "list", "set", "sorted", "str", "sum", "tuple", "zip", "range", "dict", "max", "min", "ValueError"]
def nmC : List Str := ["InvalidStore", "InvalidDeed", "InvalidDeeds", "InvalidStep", "InvalidWords", "InvalidTree", "InvalidNumber", "TooMany"]
def iniSt61 : Stmt := match main61.find? (fun s => match s with
    | .ClassDef (name := n) .. => n == ("TooMany" : Str)
    | _ => false) with
  | some (.ClassDef (body := b) ..) => b.getD 0 (.Pass ⟨0, 0, 0, 0⟩)
  | _ => .Pass ⟨0, 0, 0, 0⟩
def dIni61 : He.DefD := ⟨("TooMany", some "__init__"), "__init__", "TooMany.__init__", defArgs iniSt61, defBody iniSt61, defScope iniSt61, [], []⟩
def oexB (K : PySem.W.Frag) (C : Addr) : Bool := (match K.lookup C with
  | some ⟨.type "type", _, .cls cd, sl⟩ => (match cd.mro, sl.toList with
    | .ref C' :: bm, [_, _, _, _, some (.builtin n), _] => C' == C && (n == "ValueError.__new__" && (!cd.hasDel && (cd.hasDict && PySem.HandSPX.refsVE bm)))
    | _, _ => false)
  | _ => false) && (He.eqO (PySem.W.findIn K (.ref C) "__setattr__") (some (some (.builtin "object.__setattr__"))) && (decide (PySem.W.subIn K (.ref C) (.type "BaseException") = some true) && (decide (PySem.W.typeIn K (.ref C) = some (.type "type")) && PySem.W.keepIn K (.ref C))))
def lowB (K : PySem.W.Frag) : Bool := He.eqO (PySem.W.nsIn K mainGlobals "TooMany") (some (some (.ref (He.ga K "TooMany")))) && (oexB K (He.ga K "TooMany") && (He.eqO (PySem.W.findIn K (.ref (He.ga K "TooMany")) "limit") (some none) && (He.eqO (PySem.W.findIn K (.ref (He.ga K "TooMany")) "__init__") (some (some (.ref (He.fAd K ("TooMany", some "__init__"))))) &&
  (decide (PySem.W.typeIn K (.ref (He.fAd K ("TooMany", some "__init__"))) = some (.type "function")) && (exCB K (He.ga K "TooMany") && decide (PySem.W.exmOne K (.ref (He.ga K "TooMany")) (.ref (He.ga K "TooMany")) = some true))))))
end G

set_option Elab.async false
set_option linter.all false
set_option maxRecDepth 100000
set_option maxHeartbeats 0
namespace G
open PySem PySem.Spec PyProof.Rows L2
abbrev R61 : PySem.W.OpenRow := PySem.W.OpenLaw.row PySem.Challenge.rw_namesapart_k61_errors_of_early_and_late
def isLoc61 : NameKind → Bool
  | .local => true
  | _ => false
def loose61 : List Str := (PySem.Challenge.pw_namesapart_k61_errors_of_early_and_late.main.scope.names.filter fun p => isLoc61 p.2 && !decide (p.1 = ("law" : Str))).map (·.1)
def fnsS61 : List (Str × Stmt) := main61.filterMap fun
  | .FunctionDef name args body d r t sc a b c => some (name, .FunctionDef name args body d r t sc a b c)
  | _ => none
def fnL61 : List He.DefD := (fnsS61.map fun p => ⟨(p.1, none), p.1, p.1, defArgs p.2, defBody p.2, defScope p.2, [], []⟩) ++ [dIni61]
def faL61 : List He.Fa := (fnsS61.map fun p => He.Fa.glo p.1) ++ (nonL61.map He.Fa.free ++ (clssX61.map He.Fa.glo ++ (clssX61.map He.Fa.exc ++ dcts61.map fun p => He.Fa.glo p.1)))
def tsL61 : List He.Tab := dcts61.map fun p => (fun K => He.ga K p.1, p.2.map (·.1))
def lamL61 : List Str := ["_law_stores_right", "_law_trees_right", "_law_deeds_right", "law"]
def tfL61 : List He.Defn := lamL61.map fun x => (x, none)
def okL61 (K : PySem.W.Frag) : Bool := okQ consts61 dcts61 lamL61 K && (excsB nmC "ApartError" K && lowB K)
end G


set_option Elab.async false
set_option linter.all false
set_option maxRecDepth 100000
set_option maxHeartbeats 0
namespace G
open PySem PySem.Spec PyProof.Rows L2

def as61 : List Addr := List.range 1100
abbrev hook61 : PySem.W.Hook := hookL as61 faL61 fnL61 tsL61 tfL61 okL61
def ob61 (s : PySem.W.SharedT) : He.AlX := obsL as61 faL61 fnL61 tsL61 tfL61 okL61 (HandSHeadRun.getT s)
theorem ob61_eq (s : PySem.W.SharedT) : ob61 s = hook61.obs s.abs := by
  show obsL as61 _ _ _ _ _ (HandSHeadRun.getT s) = obsL as61 _ _ _ _ _ s.abs.heap.get?
  rw [show HandSHeadRun.getT s = s.abs.heap.get? from funext (HandSHeadRun.getT_eq s)]
/-- the state behind the head, and what is looked at -/
noncomputable def end61 (w : World) (os : OsState) : Option PySem.W.SharedT := HandSHeadRun.endF (HandSHeadRun.stepQ (HandSHeadRun.denQ HandSHeadRun.tabQ) R61.prog w) 20000 R61.prog w os
def v61 : Program := PySem.W.view R61.prog [178]
noncomputable def lk61 (w : World) (s : PySem.W.SharedT) : Bool := HandSHeadRun.looksF R61.prog (PySem.W.boot_heap w.params) s.abs
noncomputable def sn61 (s : PySem.W.SharedT) := HandSHeadRun.seenQ v61 loose61 (importedModules R61.prog.main.body) (fun s => PySem.W.xlAt v61 [] s && PySem.W.recOk R61.toRowW.records s) s.abs
def K61 (s : PySem.W.SharedT) : PySem.W.Frag := He.frT (HandSHeadRun.getT s) as61
abbrev wF (w : World) : World := w.withFollow "special-get-raises" false
abbrev wT (w : World) : World := w.withFollow "special-get-raises" true
theorem p1F (w : World) (os : OsState) : ((end61 (wF w) os).map fun s => (lk61 (wF w) s, sn61 s)) = some (true, PySem.W.openGood v61 loose61) := by kernel_rfl
theorem p2F (w : World) (os : OsState) : ((end61 (wF w) os).map fun s => ((fnL61.take 100).all fun d => d.ok (K61 s), tsL61.map fun t => He.dicW (K61 s) (t.1 (K61 s)))) = some (true, tsL61.map fun t => some (He.keysIn (wF w).params t.2)) := by kernel_rfl
theorem p3F (w : World) (os : OsState) : ((end61 (wF w) os).map fun s => ((fnL61.drop 100).all fun d => d.ok (K61 s), okL61 (K61 s))) = some (true, true) := by kernel_rfl
theorem p4F (w : World) (os : OsState) : ((end61 (wF w) os).map fun s => ((faL61.all fun f => f.ok (K61 s), He.tabsB (HandSHeadRun.getT s) tfL61 (K61 s)), fnL61.map fun d => He.fnW (K61 s) d.at_)) = some ((true, true), fnL61.map He.DefD.val) := by kernel_rfl
theorem p1T (w : World) (os : OsState) : ((end61 (wT w) os).map fun s => (lk61 (wT w) s, sn61 s)) = some (true, PySem.W.openGood v61 loose61) := by kernel_rfl
theorem p2T (w : World) (os : OsState) : ((end61 (wT w) os).map fun s => ((fnL61.take 100).all fun d => d.ok (K61 s), tsL61.map fun t => He.dicW (K61 s) (t.1 (K61 s)))) = some (true, tsL61.map fun t => some (He.keysIn (wT w).params t.2)) := by kernel_rfl
theorem p3T (w : World) (os : OsState) : ((end61 (wT w) os).map fun s => ((fnL61.drop 100).all fun d => d.ok (K61 s), okL61 (K61 s))) = some (true, true) := by kernel_rfl
theorem p4T (w : World) (os : OsState) : ((end61 (wT w) os).map fun s => ((faL61.all fun f => f.ok (K61 s), He.tabsB (HandSHeadRun.getT s) tfL61 (K61 s)), fnL61.map fun d => He.fnW (K61 s) d.at_)) = some ((true, true), fnL61.map He.DefD.val) := by kernel_rfl
theorem run61 (w : World) : HandSHeadRun.RunEq R61 (PySem.W.view R61.prog [178]) hook61 ob61 20000 loose61 w :=
  PySem.W.byRow2 "special-get-raises" (P := fun w => HandSHeadRun.RunEq R61 (PySem.W.view R61.prog [178]) hook61 ob61 20000 loose61 w)
    (fun w os => map5 (p1F w os) (map_fst (map_fst (p4F w os)).1).1 (all_split 100 (map_fst (p2F w os)).1 (map_fst (p3F w os)).1) (map_fst (p4F w os)).2 (map_fst (p2F w os)).2 (map_fst (p3F w os)).2 (map_fst (map_fst (p4F w os)).1).2)
    (fun w os => map5 (p1T w os) (map_fst (map_fst (p4T w os)).1).1 (all_split 100 (map_fst (p2T w os)).1 (map_fst (p3T w os)).1) (map_fst (p4T w os)).2 (map_fst (p2T w os)).2 (map_fst (p3T w os)).2 (map_fst (map_fst (p4T w os)).1).2) w
end G

set_option Elab.async false
set_option linter.all false
set_option maxRecDepth 100000
set_option maxHeartbeats 4000000
namespace G
open PySem L2 PySem.Spec PyProof.Rows
abbrev sob (led : Bool) : Obj := { cls := .type "set", dict := none, data := .set #[] 0 (.fresh 0 0 led) }
section
variable {P : Program} {w : World} {A : Around} {E : Value → Shared → Prop} {s : Shared}
theorem set_texts {l : Addr} {items : Array Value} {xs : List Str} {Q : Value → Shared → Prop} (hh : A.handled = none) (hl : s.heap.IsList l items) (hn : xs.length = items.size) (room : items.size + 1 < scanBound)
    (hv : ∀ (i : Nat) (v : Value), items[i]? = some v → ∃ (x : Str) (t : Tok), xs[i]? = some x ∧ v = Value.str x t)
    (hq : ∀ h' tk, TxS P w h' s.heap.objs.size xs → (∀ b o, s.heap.get? b = some o → h'.get? b = some o) → Q (.ref s.heap.objs.size) { s with heap := h', toks := tk }) :
    wpAny (model P w) A (call (.type "set") [.ref l]) Q E s := by
  obtain ⟨c, tl, mro⟩ := PySem.F.called_set.mro
  have f1 := PySem.F.called_set.made
  have f2 := PySem.F.called_set.sub
  have f3 := PySem.F.called_set.notType
  have f4 := PySem.F.called_set.canCreate
  have f5 := PySem.F.typeCall_set_1 (.ref l)
  refine wpAny_call (codeAny_of_tree ?_)
  show wpAny _ _ (callAny (.type "set") _) _ _ _
  refine wpAny_pure ⟨Code.quiet_builtin _ (by decide +kernel), codeAny_builtin PySem.F.entry_type_call ?_⟩
  rw [Around.under_plain (weight_type_call_type "set" [.ref l] []) rfl]
  repeat (any_goals (first | assumption | wp_step))
  refine codeAny_mono (code_set_new_1 (.ref l) (E := E) (Q₁ := fun obj s₁ => obj = .ref s.heap.objs.size ∧ ∃ led, s₁ = { s with heap := s.heap.push (sob led) }) fun led => ⟨rfl, led, rfl⟩) fun r s₁ hr => ?_
  match r, hr with
  | .error e, hr => exact hr
  | .ok .next, hr => exact hr.elim
  | .ok .brk, hr => exact hr.elim
  | .ok .cont, hr => exact hr.elim
  | .ok (.ret obj), ⟨e1, led, e2⟩ =>
    subst e1
    subst e2
    have hS : (s.heap.push (sob led)).get? s.heap.objs.size = some (sob led) := Heap.get?_push_size _ rfl
    have hT : Shared.TypeIs { s with heap := s.heap.push (sob led) } (.ref s.heap.objs.size) "set" := ⟨_, hS, rfl⟩
    have g1 := PySem.F.called_set.init.lookup
    have g2 := PySem.F.called_set.init.bind (.ref s.heap.objs.size)
    repeat (any_goals (first | assumption | wp_step))
    refine codeAny_mono (codeAny_call_builtin (R := wants (fun r s₂ => r = .none ∧ ∃ h' tk, s₂ = { s with heap := h', toks := tk } ∧ TxS P w h' s.heap.objs.size xs ∧ ∀ b o, s.heap.get? b = some o → h'.get? b = some o) E) PySem.F.called_set.init.plain PySem.F.entry_set_init (check_set_init_1 hT ?_)) fun r₂ s₂ hr₂ => ?_
    · obtain ⟨ol, hol, hcl, nl, hdl⟩ := hl
      obtain ⟨ocls, odict, odata, oslots⟩ := ol
      simp only at hcl hdl
      subst hcl
      subst hdl
      have hol' : (s.heap.push (sob led)).get? l = some { cls := .type "list", dict := odict, data := .seq items nl, slots := oslots } := Heap.get?_push_of_some _ hol
      have hl1 : (s.heap.push (sob led)).IsList l items := ⟨_, hol', rfl, nl, rfl⟩
      have q1 := PySem.F.sub_list_set
      have q2 := PySem.F.sub_list_frozenset
      have q3 : (Value.type "list" == Value.type "dict") = false := by decide
      unfold Builtin.«set.__init__» noKeywords Builtin.Frozenset.updateFrom
      generalize hPI : pyIter = PI
      wp_walk
      subst hPI
      refine wpAny_pyIter_list hl1 (wpAny_bind (wpAny_runValue ?_))
      have small : l < s.heap.objs.size := Heap.lt_size hol
      have ne1 : l ≠ (s.heap.push (sob led)).objs.size := by
        rw [Heap.size_push]
        exact Nat.ne_of_lt (Nat.lt_succ_of_lt small)
      have out : s.heap.objs.size ∉ [(s.heap.push (sob led)).objs.size, l] := by
        rw [Heap.size_push]
        intro z
        rcases List.mem_cons.mp z with z | z
        · exact Nat.ne_of_lt (Nat.lt_succ_self _) z
        · have z : s.heap.objs.size = l := by simpa using z
          exact Nat.ne_of_gt small z
      have free : A.in1.in1.in1.handled = none := by simp [hh]
      refine grow ((Walks.list free _ l ne1 items).toS) s.heap.objs.size out xs hn room hv items.size 0 _ (Nat.zero_add _) ⟨⟨_, Heap.get?_push_size _ rfl, rfl, rfl⟩, hl1.push _⟩ ?_ fun s' mv h4 => ?_
      · exact SetOf_congr ((setObjOf_fresh (knd := PySem.strKind P w) led).setOf (Heap.get?_push_of_some _ hS) (by unfold scanBound; omega)) (fun _ => rfl) rfl
      · obtain ⟨h', g', d', tk', os'⟩ := s'
        obtain rfl : g' = s.gens := mv.gens
        obtain rfl : d' = s.drawn := mv.drawn
        obtain rfl : os' = s.os := mv.os
        show wpAny _ _ _ _ _ _
        refine wpAny_pure ?_
        show wpAny _ _ (ret Value.none) _ _ _
        refine wpAny_pure ⟨rfl, h', tk', rfl, h4, fun b o e => mv.heap b o (fun z => ?_) (Heap.get?_push_of_some _ (Heap.get?_push_of_some _ e))⟩
        have hb := Heap.lt_size e
        rcases List.mem_cons.mp z with z | z
        · exact Nat.ne_of_lt hb z
        · have z : b = (s.heap.push (sob led)).objs.size := by simpa using z
          rw [Heap.size_push] at z
          exact Nat.ne_of_lt (Nat.lt_succ_of_lt hb) z
    · match r₂, hr₂ with
      | .error e, hr₂ => exact hr₂
      | .ok .next, hr₂ => exact hr₂.elim
      | .ok .brk, hr₂ => exact hr₂.elim
      | .ok .cont, hr₂ => exact hr₂.elim
      | .ok (.ret r), ⟨e1, h', tk, e2, hS', hk'⟩ =>
        subst e1
        subst e2
        repeat (any_goals (first | assumption | wp_step))
        exact hq _ _ hS' hk'
end
end G

set_option Elab.async false
set_option linter.all false
set_option maxRecDepth 100000
set_option maxHeartbeats 4000000
namespace G
open PySem L2 PySem.Spec PyProof.Rows
variable {M : Md} {H H' H1 H2 : Hp} {ι ι' ι1 ι2 : List Addr}

/-- a line for sizes that the kernel reckons with -/
def big : Nat := 10000000
theorem big_le {n : Nat} (h : n ≤ big) : n ≤ sizeLine := by
  rw [sizeLine_eq]
  unfold big at h
  omega
theorem big_lt {n : Nat} (h : n < big) : n < sizeLine := by
  rw [sizeLine_eq]
  unfold big at h
  omega

/-- what is wanted behind a by-value step -/
abbrev Fin (M : Md) (ι : List Addr) (H : Hp) (z : W) (E' : Hh) (Q : VK) : Prop := ∀ ι' H' v, Ext M ι H ι' H' → Rel M ι' E' H' → RelW M H' ι' z v → Q v H'
theorem Fin.now {z : W} {E : Hh} {Q : VK} {v : V} (k : Fin M ι H z E Q) (R : Rel M ι E H) (r : RelW M H ι z v) : Q v H := k ι H v (Ext.refl _ _) R r
/-- a new tuple -/
theorem Fin.tup {ws : List W} {vs : List V} {E : Hh} {Q : VK} (k : Fin M ι H (.tup ws) E Q) (R : Rel M ι E H) (r : RelWs M H ι ws vs) : ∀ p, H p = none → Q (.ref p) (upd H p (.tup vs)) := fun p hp => by
  obtain ⟨R', x⟩ := Rel.newT (ho := .tup vs) R hp
  exact k _ _ _ x R' ⟨p, vs, rfl, SqT.of upd_same, r.ext x⟩
/-- a new list -/
theorem Fin.lst {ws : List W} {vs : List V} {E : Hh} {Q : VK} (k : Fin M ι H (.ref E.length) (E ++ [.lst ws]) Q) (R : Rel M ι E H) (r : RelWs M H ι ws vs) : ∀ p, H p = none → Q (.ref p) (upd H p (.lst vs)) := fun p hp => by
  obtain ⟨R', x⟩ := Rel.new (ho := .lst vs) (o := .lst ws) R hp fun x => ⟨vs, upd_same, r.ext x⟩
  exact k _ _ _ x R' ⟨p, by rw [← R.len]; simp, rfl⟩
theorem Rel.at (R : Rel M ι E H) {i : Nat} {o : O} {a : Addr} (e : (E : List O)[i]? = some o) (ha : ι[i]? = some a) : RelO M H ι a o := by
  obtain ⟨b, eb, ro⟩ := R.obj i o e
  rw [ha] at eb
  cases eb
  exact ro
/-- the items of a list, read -/
def seqOf (E : Hh) : W → Option (List W)
  | .tup ws => some ws
  | .ref i => match (E : List O)[i]? with
    | some (.lst ws) => some ws
    | some (.slst ws) => some ws
    | _ => none
  | _ => none
theorem seq_ok {E : Hh} (R : Rel M ι E H) {w : W} {ws : List W} {v : V} (h : seqOf E w = some ws) (r : RelW M H ι w v) : ∃ a vs, v = .ref a ∧ (SqL M.K H a vs ∨ SqT M.K H a vs) ∧ RelWs M H ι ws vs := by
  cases w with
  | tup xs =>
    obtain rfl : xs = ws := Option.some.inj h
    obtain ⟨a, vs, e, ht, rw⟩ := r
    exact ⟨a, vs, e, .inr ht, rw⟩
  | ref i =>
    obtain ⟨a, ha, e⟩ := r
    unfold seqOf at h; dsimp only at h
    cases he : (E : List O)[i]? with
    | none => simp [he] at h
    | some o =>
      have ro := R.at he ha
      rw [he] at h
      cases o with
      | lst xs =>
        obtain rfl : xs = ws := Option.some.inj h
        obtain ⟨vs, h1, h2⟩ := ro
        exact ⟨a, vs, e, .inl (SqL.of h1), h2⟩
      | slst xs =>
        obtain rfl : xs = ws := Option.some.inj h
        obtain ⟨vs, h1, h2⟩ := ro
        exact ⟨a, vs, e, .inl h1.sq, h2⟩
      | dK kvs => cases h
      | dN kvs => cases h
      | sdN kvs => cases h
      | sdK kvs => cases h
      | exc b => cases h
      | cup b => cases h
      | txs b => cases h
  | _ => cases h
/-- a list of one's own -/
def lstOf (E : Hh) : W → Option (Nat × List W)
  | .ref i => match (E : List O)[i]? with
    | some (.lst ws) => some (i, ws)
    | _ => none
  | _ => none
theorem lst_ok {E : Hh} (R : Rel M ι E H) {w : W} {i : Nat} {ws : List W} {v : V} (h : lstOf E w = some (i, ws)) (r : RelW M H ι w v) : ∃ a vs, w = .ref i ∧ ι[i]? = some a ∧ (E : List O)[i]? = some (.lst ws) ∧ v = .ref a ∧ H a = some (.lst vs) ∧ RelWs M H ι ws vs := by
  cases w with
  | ref j =>
    obtain ⟨a, ha, e⟩ := r
    unfold lstOf at h; dsimp only at h
    cases he : (E : List O)[j]? with
    | none => simp [he] at h
    | some o =>
      have ro := R.at he ha
      rw [he] at h
      cases o with
      | lst xs =>
        obtain ⟨rfl, rfl⟩ : j = i ∧ xs = ws := by simpa using h
        obtain ⟨vs, h1, h2⟩ := ro
        exact ⟨a, vs, rfl, ha, he, e, h1, h2⟩
      | slst xs => cases h
      | dK kvs => cases h
      | dN kvs => cases h
      | sdN kvs => cases h
      | sdK kvs => cases h
      | exc b => cases h
      | cup b => cases h
      | txs b => cases h
  | _ => cases h
/-- a list of one's own gets other items -/
theorem Fin.putL {E : Hh} {i : Nat} {a : Addr} {ws xs : List W} {us vs : List V} {Q : Hp → Prop} (R : Rel M ι E H) (ha : ι[i]? = some a) (he : (E : List O)[i]? = some (.lst xs)) (hu : H a = some (.lst us)) (r : RelWs M H ι ws vs)
    (k : ∀ ι' H', Ext M ι H ι' H' → Rel M ι' ((E : List O).set i (.lst ws)) H' → Q H') : Q (upd H a (.lst vs)) := by
  obtain ⟨R', x⟩ := Rel.put (o := .lst ws) (ho := .lst vs) R ha he rfl (fun q hq => by rw [hu] at hq; cases hq; exact ⟨fun _ z => (nomatch z), fun _ _ z => (nomatch z)⟩) rfl fun x => ⟨vs, upd_same, r.ext x⟩
  exact k _ _ x R'

/-! ### data -/
mutual
/-- a value as the library's data: n is how deep lists are followed -/
def dat (E : Hh) (n : Nat) : W → Option PyData
  | .non => some .none
  | .bl b => some (.bool b)
  | .int i => some (.int i)
  | .str s => some (.str s)
  | .tup ws => (dats E n ws).map .tuple
  | .ref _ => none
  | .fn _ => none
  | .ty _ => none
def dats (E : Hh) (n : Nat) : List W → Option (List PyData)
  | [] => some []
  | w :: ws => match dat E n w, dats E n ws with
    | some d, some ds => some (d :: ds)
    | _, _ => none
end
/-- lists of data, one level, and what is none -/
def datL (E : Hh) : Nat → W → Option PyData
  | n + 1, .ref i => match (E : List O)[i]? with
    | some (.lst ws) => ((ws.mapM (datL E n))).map .list
    | some (.slst ws) => ((ws.mapM (datL E n))).map .list
    | _ => none
  | n + 1, .tup ws => match dats E 0 ws with
    | some ds => some (.tuple ds)
    | none => ((ws.mapM (datL E n))).map .tuple
  | _, w => dat E 0 w
mutual
theorem dat_ok {E : Hh} {n : Nat} : ∀ {w : W} {d : PyData} {v : V}, dat E n w = some d → RelW M H ι w v → Dp M.K H v d
  | .non, d, v, h, r => by
    obtain rfl : PyData.none = d := Option.some.inj h
    rw [show v = .non from r]
    exact .non
  | .bl b, d, v, h, r => by
    obtain rfl : PyData.bool b = d := Option.some.inj h
    rw [show v = .bl b from r]
    exact .bl b
  | .int i, d, v, h, r => by
    obtain rfl : PyData.int i = d := Option.some.inj h
    rw [show v = .int i from r]
    exact .int i
  | .str s, d, v, h, r => by
    obtain rfl : PyData.str s = d := Option.some.inj h
    rw [show v = .str s from r]
    exact .str s
  | .tup ws, d, v, h, r => by
    obtain ⟨a, vs, rfl, ht, rw⟩ := r
    cases e : dats E n ws with
    | none => simp [dat, e] at h
    | some ds =>
      simp [dat, e] at h
      subst h
      exact .tup ht (dats_ok e rw)
  | .ref _, d, v, h, r => by simp [dat] at h
  | .fn _, d, v, h, r => by simp [dat] at h
  | .ty _, d, v, h, r => by simp [dat] at h
theorem dats_ok {E : Hh} {n : Nat} : ∀ {ws : List W} {ds : List PyData} {vs : List V}, dats E n ws = some ds → RelWs M H ι ws vs → DpAll M.K H vs ds
  | [], ds, vs, h, r => by
    simp [dats] at h
    subst h
    rw [show vs = [] from r]
    exact .nil
  | w :: ws, ds, vs, h, r => by
    obtain ⟨v, us, rfl, r1, r2⟩ := r
    unfold dats at h
    cases e1 : dat E n w with
    | none => simp [e1] at h
    | some d =>
      cases e2 : dats E n ws with
      | none => simp [e1, e2] at h
      | some es =>
        simp [e1, e2] at h
        subst h
        exact .cons (dat_ok e1 r1) (dats_ok e2 r2)
end
theorem datL_ok {E : Hh} (R : Rel M ι E H) : ∀ (n : Nat) {w : W} {d : PyData} {v : V}, datL E n w = some d → RelW M H ι w v → Dp M.K H v d
  | 0, w, d, v, h, r => dat_ok (E := E) (n := 0) (by cases w <;> exact h) r
  | n + 1, w, d, v, h, r => by
    have all : ∀ {ws : List W} {ds : List PyData} {vs : List V}, ws.mapM (datL E n) = some ds → RelWs M H ι ws vs → DpAll M.K H vs ds := by
      intro ws
      induction ws with
      | nil =>
        intro ds vs h r
        simp at h
        subst h
        rw [show vs = [] from r]
        exact .nil
      | cons w ws ih =>
        intro ds vs h r
        obtain ⟨v, us, rfl, r1, r2⟩ := r
        rw [List.mapM_cons] at h
        cases e1 : datL E n w with
        | none => simp [e1] at h
        | some d =>
          cases e2 : ws.mapM (datL E n) with
          | none => simp [e1, e2] at h
          | some es =>
            simp [e1, e2] at h
            subst h
            exact .cons (datL_ok R n e1 r1) (ih e2 r2)
    cases w with
    | ref i =>
      obtain ⟨a, ha, rfl⟩ := r
      unfold datL at h
      cases he : (E : List O)[i]? with
      | none => simp [he] at h
      | some o =>
        have ro := R.at he ha
        rw [he] at h
        cases o with
        | lst xs =>
          obtain ⟨vs, h1, h2⟩ := ro
          cases e : xs.mapM (datL E n) with
          | none => simp [e] at h
          | some ds =>
            simp [e] at h
            subst h
            exact .lst (SqL.of h1) (all e h2)
        | slst xs =>
          obtain ⟨vs, h1, h2⟩ := ro
          cases e : xs.mapM (datL E n) with
          | none => simp [e] at h
          | some ds =>
            simp [e] at h
            subst h
            exact .lst h1.sq (all e h2)
        | dK kvs => cases h
        | dN kvs => cases h
        | sdN kvs => cases h
        | sdK kvs => cases h
        | exc b => cases h
        | cup b => cases h
        | txs b => cases h
    | tup ws =>
      obtain ⟨a, vs, rfl, ht, rw⟩ := r
      unfold datL at h
      cases e0 : dats E 0 ws with
      | some ds =>
        simp [e0] at h
        subst h
        exact .tup ht (dats_ok e0 rw)
      | none =>
        rw [e0] at h
        cases e : ws.mapM (datL E n) with
        | none => simp [e] at h
        | some ds =>
          simp [e] at h
          subst h
          exact .tup ht (all e rw)
    | non => exact dat_ok (E := E) (n := 0) h r
    | bl b => exact dat_ok (E := E) (n := 0) h r
    | int b => exact dat_ok (E := E) (n := 0) h r
    | str b => exact dat_ok (E := E) (n := 0) h r
    | fn b => exact dat_ok (E := E) (n := 0) h r
    | ty b => exact dat_ok (E := E) (n := 0) h r
/-- data of a depth that is let -/
def shp (E : Hh) (w : W) : Option PyData := (datL E 4 w).bind fun d => if SeqAt.shaped d then some d else none
theorem shp_ok {E : Hh} (R : Rel M ι E H) {w : W} {d : PyData} {v : V} (h : shp E w = some d) (r : RelW M H ι w v) : Dp M.K H v d ∧ SeqAt.shaped d = true := by
  unfold shp at h
  cases e : datL E 4 w with
  | none => simp [e] at h
  | some d0 =>
    simp [e] at h
    obtain ⟨h1, rfl⟩ := h
    exact ⟨datL_ok R 4 e r, h1⟩

/-! ### operators -/
def wCat (x y : W) (E : Hh) : Option (W × Hh) :=
  match x, y with
  | .int i, .int j => some (.int (i + j), E)
  | .str s, .str t => if s.length + t.length ≤ big then some (.str (s ++ t), E) else none
  | .tup xs, .tup ys => if xs.length + ys.length ≤ big then some (.tup (xs ++ ys), E) else none
  | x, y => match lstOf E x, lstOf E y with
    | some (_, xs), some (_, ys) => if xs.length + ys.length ≤ big then some (.ref E.length, E ++ [.lst (xs ++ ys)]) else none
    | _, _ => none
def rAddAll (K : PySem.W.Frag) : R2 := fun x y H Q => (rI0 (fun i j => .int (i + j)) x y H Q) ∨ ((∃ i j, x = .str i ∧ y = .str j ∧ i.length + j.length ≤ sizeLine ∧ Q (.str (i ++ j)) H) ∨ (rCatA K x y H Q ∨ rCat x y H Q))
theorem op_addAll {X : Cx} : OpR X (binaryOp .Add) (rAddAll X.K) := op_add.or (op_add_str.or (op_catA.or op_cat))
theorem add_ok {E E' : Hh} {x y z : W} {v u : V} {Q : VK} (h : wCat x y E = some (z, E')) (R : Rel M ι E H) (rx : RelW M H ι x v) (ry : RelW M H ι y u) (k : Fin M ι H z E' Q) : rAddAll M.K v u H Q := by
  have lists : ∀ {x y : W}, RelW M H ι x v → RelW M H ι y u → (match lstOf E x, lstOf E y with
    | some (_, xs), some (_, ys) => if xs.length + ys.length ≤ big then some ((.ref E.length : W), E ++ [.lst (xs ++ ys)]) else none
    | _, _ => none) = some (z, E') → rAddAll M.K v u H Q := by
    intro x y rx ry h
    cases e1 : lstOf E x with
    | none => rw [e1] at h; simp at h
    | some p =>
      obtain ⟨i, xs⟩ := p
      cases e2 : lstOf E y with
      | none => rw [e1, e2] at h; simp at h
      | some q =>
        obtain ⟨j, ys⟩ := q
        rw [e1, e2] at h
        dsimp only at h
        split at h
        · rename_i hl
          obtain ⟨rfl, rfl⟩ : (.ref E.length : W) = z ∧ E ++ [.lst (xs ++ ys)] = E' := by simpa using h
          obtain ⟨a, vs, _, ha, hea, rfl, h1, r1⟩ := lst_ok R e1 rx
          obtain ⟨b, us, _, hb, heb, rfl, h2, r2⟩ := lst_ok R e2 ry
          refine .inr (.inr (.inr ⟨a, b, vs, us, rfl, rfl, h1, h2, ?_, k.lst R (r1.append r2)⟩))
          rw [← r1.length, ← r2.length]
          exact big_le hl
        · cases h
  unfold wCat at h
  split at h
  · rename_i i j
    obtain ⟨rfl, rfl⟩ : (.int (i + j) : W) = z ∧ E = E' := by simpa using h
    rw [show v = .int i from rx, show u = .int j from ry]
    exact .inl ⟨i, j, rfl, rfl, k.now R rfl⟩
  · rename_i s t
    split at h
    · rename_i hl
      obtain ⟨rfl, rfl⟩ : (.str (s ++ t) : W) = z ∧ E = E' := by simpa using h
      rw [show v = .str s from rx, show u = .str t from ry]
      exact .inr (.inl ⟨s, t, rfl, rfl, big_le hl, k.now R rfl⟩)
    · cases h
  · rename_i xs ys
    split at h
    · rename_i hl
      obtain ⟨rfl, rfl⟩ : (.tup (xs ++ ys) : W) = z ∧ E = E' := by simpa using h
      obtain ⟨a, vs, rfl, ha, r1⟩ := rx
      obtain ⟨b, us, rfl, hb, r2⟩ := ry
      refine .inr (.inr (.inl ⟨a, b, vs, us, rfl, rfl, ha, hb, ?_, fun e => ?_, fun _ e => ?_, fun _ _ => k.tup R (r1.append r2)⟩))
      · rw [← r1.length, ← r2.length]
        exact big_le hl
      · subst e
        cases xs with
        | nil => exact k.now R ⟨b, us, rfl, hb, r2⟩
        | cons w ws => obtain ⟨_, _, z, _⟩ := r1; cases z
      · subst e
        cases ys with
        | nil => rw [List.append_nil] at k; exact k.now R ⟨a, vs, rfl, ha, r1⟩
        | cons w ws => obtain ⟨_, _, z, _⟩ := r2; cases z
    · cases h
  · exact lists rx ry h
end G

set_option Elab.async false
set_option linter.all false
set_option maxRecDepth 100000
set_option maxHeartbeats 4000000
namespace G
open PySem L2 PySem.Spec PyProof.Rows
/-! ### () * n -/
theorem tuple_mulE (l : Addr) (n : Nat) (dd : Option Addr) (sl : Array (Option Value)) (x : Int) (u : Tok) (c0 : (decide (x < -(2 ^ 63)) || decide (x ≥ 2 ^ 63)) = false) :
    Meets (Builtin.«tuple.__mul__» ⟨[.ref l, .int x u], []⟩) (fun _ R s => s.heap.get? l = some { cls := .type "tuple", dict := dd, data := .seq #[] n, slots := sl } ∧ R (.ok (.ret (Value.ref l))) s) :=
  .of_wp fun prog w A R s h => by
    obtain ⟨hp, g, d, tk, os⟩ := s
    obtain ⟨hl, h⟩ := h
    have f1 := AutoSeq1.idx_int
    wp_walk using wpAny_loadPart' hl
    repeat (first
      | (refine wpAny_ite_false (decide_eq_false (by rw [c0]; exact Bool.false_ne_true)) ?_; wp_walk using wpAny_loadPart' hl))
    exact ⟨_, rfl, h⟩
def rRepE (K : PySem.W.Frag) : R2 := fun x y H Q => ∃ l k, x = .ref l ∧ y = .int k ∧ SqT K H l [] ∧ 0 ≤ k ∧ k ≤ 1000 ∧ Q (.ref l) H
theorem op_repE {X : Cx} : OpR X (binaryOp .Mult) (rRepE X.K) := by
  intro pins s σ H x y v u Q I rx ry h
  obtain ⟨l, k, rfl, rfl, hT, h1, h2, q⟩ := h
  cases rx
  obtain ⟨t, rfl⟩ := ry
  obtain ⟨its, r, ⟨⟨cls, dd, data, sl⟩, ho, hc, n, hd⟩, hs⟩ := I.tuple hT
  simp only at hc hd
  subst hc hd
  have hle : its.length = 0 := r.length.symm
  obtain rfl : its = [] := List.length_eq_zero_iff.mp hle
  have c0 : (decide (k < -(2 ^ 63)) || decide (k ≥ 2 ^ 63)) = false := by
    rw [decide_eq_false (by omega), decide_eq_false (by omega)] <;> rfl
  refine wpAny_binaryOp_repeat_ref (T := "tuple") (U := "int") (by decide) ⟨_, ho, rfl⟩ (fun s' => typeIs_int s' k t) noFill_tuple_mul F.fills_int_mul F.slot_int_rmul repeat_tuple F.slot_int_index.lookup
    (call_meets F.slot_int_rmul (typeIs_int s k t) F.entry_int_rmul (F.args_int_rmul_2 _ _) (int_rmul_tuple k t l _ n dd sl)
      ⟨ho, rfl, ⟨_, ho, rfl⟩, call_meets F.slot_tuple_mul ⟨_, ho, rfl⟩ F.entry_tuple_mul (F.args_tuple_mul_2 _ _) (tuple_mulE l n dd sl k t c0) ⟨ho, ?_⟩⟩)
  exact ⟨.ref l, _, I, rfl, q⟩
end G

set_option Elab.async false
set_option linter.all false
set_option maxRecDepth 100000
set_option maxHeartbeats 4000000
namespace G
open PySem L2 PySem.Spec PyProof.Rows
variable {M : Md} {H H' H1 H2 : Hp} {ι ι' ι1 ι2 : List Addr}

def two64 : Int := 18446744073709551616
theorem two64_eq : two64 = 2 ^ 64 := by decide
/-! ### * -/
instance {xs : List W} : Decidable (xs ≠ []) := match xs with
  | [] => .isFalse (fun h => h rfl)
  | _ :: _ => .isTrue (fun h => nomatch h)
def wMul' (x y : W) (E : Hh) : Option (W × Hh) :=
  match y with
  | .int j => match x with
    | .int i => if (-two64 < i ∧ i < two64) ∨ (-two64 < j ∧ j < two64) then some (.int (i * j), E) else none
    | .tup xs => if xs ≠ [] ∧ 2 ≤ j ∧ j ≤ 1000 ∧ xs.length ≤ 1000 then some (.tup (List.replicate j.toNat xs).flatten, E) else if xs.isEmpty = true ∧ 0 ≤ j ∧ j ≤ 1000 then some (.tup [], E) else none
    | .ref r => match lstOf E (.ref r) with
      | some (_, xs) => if 0 ≤ j ∧ j ≤ 1000 ∧ xs.length ≤ 1000 then some (.ref E.length, E ++ [.lst (List.replicate j.toNat xs).flatten]) else none
      | none => none
    | _ => none
  | _ => none
def rMulAll (K : PySem.W.Frag) : R2 := fun x y H Q => (rI CMul (fun i j => .int (i * j)) x y H Q) ∨ (rRepT K x y H Q ∨ (rRep x y H Q ∨ rRepE K x y H Q))
theorem op_mulAll {X : Cx} : OpR X (binaryOp .Mult) (rMulAll X.K) := op_mul.or (op_repT.or (op_rep.or op_repE))
theorem mul_ok {E E' : Hh} {x y z : W} {v u : V} {Q : VK} (h : wMul' x y E = some (z, E')) (R : Rel M ι E H) (rx : RelW M H ι x v) (ry : RelW M H ι y u) (k : Fin M ι H z E' Q) : rMulAll M.K v u H Q := by
  unfold wMul' at h
  split at h
  · rename_i j
    rw [show u = .int j from ry]
    split at h
    · rename_i i
      split at h
      · rename_i hc
        obtain ⟨rfl, rfl⟩ : (.int (i * j) : W) = z ∧ E = E' := by simpa using h
        rw [show v = .int i from rx]
        exact .inl ⟨i, j, rfl, rfl, by unfold CMul; rw [← two64_eq]; exact hc, k.now R rfl⟩
      · cases h
    · rename_i xs
      split at h
      · rename_i hc
        obtain ⟨rfl, rfl⟩ : (.tup (List.replicate j.toNat xs).flatten : W) = z ∧ E = E' := by simpa using h
        obtain ⟨a, vs, rfl, ha, r1⟩ := rx
        refine .inr (.inl ⟨a, j, vs, rfl, rfl, ha, fun e => ?_, hc.2.1, hc.2.2.1, by rw [← r1.length]; exact hc.2.2.2, k.tup R (r1.replicate _)⟩)
        have := r1.length
        rw [e] at this
        exact hc.1 (List.length_eq_zero_iff.mp this)
      · split at h
        · rename_i hc
          obtain rfl : xs = [] := List.isEmpty_iff.mp hc.1
          obtain ⟨rfl, rfl⟩ : (.tup [] : W) = z ∧ E = E' := by simpa using h
          obtain ⟨a, vs, rfl, ha, r1⟩ := rx
          obtain rfl : vs = [] := r1
          exact .inr (.inr (.inr ⟨a, j, rfl, rfl, ha, hc.2.1, hc.2.2, k.now R ⟨a, [], rfl, ha, rfl⟩⟩))
        · cases h
    · rename_i r
      split at h
      · rename_i p i xs e1
        split at h
        · rename_i hc
          obtain ⟨rfl, rfl⟩ : (.ref E.length : W) = z ∧ E ++ [.lst (List.replicate j.toNat xs).flatten] = E' := by simpa using h
          obtain ⟨a, vs, _, ha, hea, rfl, h1, r1⟩ := lst_ok R e1 rx
          refine .inr (.inr (.inl ⟨a, j, vs, rfl, rfl, h1, by omega, by omega, ?_, k.lst R (r1.replicate _)⟩))
          have hl := r1.length
          have : vs.length * j.toNat ≤ 1000 * 1000 := Nat.mul_le_mul (by omega) (by omega)
          exact big_le (by unfold big; omega)
        · cases h
      · cases h
    · cases h
  · cases h
/-! ### -, mod, //, ** of ints -/
def wSub (x y : W) (E : Hh) : Option (W × Hh) := match x, y with
  | .int i, .int j => some (.int (i - j), E)
  | _, _ => none
def wMod (x y : W) (E : Hh) : Option (W × Hh) := match x, y with
  | .int i, .int j => if j ≠ 0 then some (.int (i.fmod j), E) else none
  | _, _ => none
def wDiv (x y : W) (E : Hh) : Option (W × Hh) := match x, y with
  | .int i, .int j => if j ≠ 0 ∧ j.natAbs < 1073741824 then some (.int (i.fdiv j), E) else none
  | _, _ => none
def wPow (x y : W) (E : Hh) : Option (W × Hh) := match x, y with
  | .int i, .int j => if 0 ≤ j ∧ j ≤ 100 ∧ i.natAbs < 1000 then some (.int (i ^ j.toNat), E) else none
  | _, _ => none
theorem sub_ok {E E' : Hh} {x y z : W} {v u : V} {Q : VK} (h : wSub x y E = some (z, E')) (R : Rel M ι E H) (rx : RelW M H ι x v) (ry : RelW M H ι y u) (k : Fin M ι H z E' Q) : rI0 (fun i j => .int (i - j)) v u H Q := by
  unfold wSub at h
  split at h
  · rename_i i j
    obtain ⟨rfl, rfl⟩ : (.int (i - j) : W) = z ∧ E = E' := by simpa using h
    rw [show v = .int i from rx, show u = .int j from ry]
    exact ⟨i, j, rfl, rfl, k.now R rfl⟩
  · cases h
theorem mod_ok {E E' : Hh} {x y z : W} {v u : V} {Q : VK} (h : wMod x y E = some (z, E')) (R : Rel M ι E H) (rx : RelW M H ι x v) (ry : RelW M H ι y u) (k : Fin M ι H z E' Q) : rI (fun _ j => j ≠ 0) (fun i j => .int (i.fmod j)) v u H Q := by
  unfold wMod at h
  split at h
  · rename_i i j
    split at h
    · rename_i hc
      obtain ⟨rfl, rfl⟩ : (.int (i.fmod j) : W) = z ∧ E = E' := by simpa using h
      rw [show v = .int i from rx, show u = .int j from ry]
      exact ⟨i, j, rfl, rfl, hc, k.now R rfl⟩
    · cases h
  · cases h
theorem div_ok {E E' : Hh} {x y z : W} {v u : V} {Q : VK} (h : wDiv x y E = some (z, E')) (R : Rel M ι E H) (rx : RelW M H ι x v) (ry : RelW M H ι y u) (k : Fin M ι H z E' Q) : rI CDivN (fun i j => .int (i.fdiv j)) v u H Q := by
  unfold wDiv at h
  split at h
  · rename_i i j
    split at h
    · rename_i hc
      obtain ⟨rfl, rfl⟩ : (.int (i.fdiv j) : W) = z ∧ E = E' := by simpa using h
      rw [show v = .int i from rx, show u = .int j from ry]
      exact ⟨i, j, rfl, rfl, hc, k.now R rfl⟩
    · cases h
  · cases h
theorem pow_ok {E E' : Hh} {x y z : W} {v u : V} {Q : VK} (h : wPow x y E = some (z, E')) (R : Rel M ι E H) (rx : RelW M H ι x v) (ry : RelW M H ι y u) (k : Fin M ι H z E' Q) : rI CPow (fun i j => .int (i ^ j.toNat)) v u H Q := by
  unfold wPow at h
  split at h
  · rename_i i j
    split at h
    · rename_i hc
      obtain ⟨rfl, rfl⟩ : (.int (i ^ j.toNat) : W) = z ∧ E = E' := by simpa using h
      rw [show v = .int i from rx, show u = .int j from ry]
      exact ⟨i, j, rfl, rfl, ⟨hc.1, by omega, by omega⟩, k.now R rfl⟩
    · cases h
  · cases h
/-- the operators between two values -/
def wBin : Operator → W → W → Hh → Option (W × Hh)
  | .Add => wCat
  | .Sub => wSub
  | .Mult => wMul'
  | .Mod => wMod
  | .FloorDiv => wDiv
  | .Pow => wPow
  | _ => fun _ _ _ => none
/-! ### comparisons -/
def flV : W → Option V
  | .non => some .non
  | .bl b => some (.bl b)
  | .int i => some (.int i)
  | .str s => some (.str s)
  | _ => none
theorem flV_ok {w : W} {v u : V} (h : flV w = some u) (r : RelW M H ι w v) : v = u ∧ flatV v = true := by
  cases w <;> simp [flV] at h
  all_goals (subst h; rw [show v = _ from r]; exact ⟨rfl, rfl⟩)
theorem flVs_ok : ∀ {ws : List W} {vs us : List V}, ws.mapM flV = some us → RelWs M H ι ws vs → vs = us ∧ vs.all flatV = true
  | [], vs, us, h, r => by
    simp at h
    subst h
    rw [show vs = [] from r]
    exact ⟨rfl, rfl⟩
  | w :: ws, vs, us, h, r => by
    obtain ⟨v, rs, rfl, r1, r2⟩ := r
    rw [List.mapM_cons] at h
    cases e1 : flV w with
    | none => simp [e1] at h
    | some d =>
      cases e2 : ws.mapM flV with
      | none => simp [e1, e2] at h
      | some es =>
        simp [e1, e2] at h
        subst h
        obtain ⟨rfl, f1⟩ := flV_ok e1 r1
        obtain ⟨rfl, f2⟩ := flVs_ok e2 r2
        exact ⟨rfl, by simp [f1]; simpa using f2⟩
/-- a dict, by texts and ints, or by tuples of these -/
inductive Dc where
  | k (i : Nat) (kvs : List (Key × W))
def dctOf (E : Hh) : W → Option Dc
  | .ref i => match (E : List O)[i]? with
    | some (.dK kvs) => some (.k i kvs)
    | _ => none
  | _ => none
def keyOf : W → Option Key
  | .int i => some (.inl i)
  | .str s => some (.inr s)
  | _ => none
theorem keyOf_ok {w : W} {k : Key} {v : V} (h : keyOf w = some k) (r : RelW M H ι w v) : v = kV k := by
  cases w <;> simp [keyOf] at h
  all_goals (subst h; exact r)
/-- what a dict holds -/
def lkK {κ : Type} [DecidableEq κ] (kvs : List (κ × W)) (k : κ) : Option W := (kvs.find? fun kv => decide (kv.1 = k)).map (·.2)
theorem lkK_ok {κ : Type} [DecidableEq κ] {k : κ} : ∀ {kvs : List (κ × W)} {vs : List V}, RelWs M H ι (kvs.map (·.2)) vs →
    (∀ w, lkK kvs k = some w → ∃ v, valV ((kvs.map (·.1)).zip vs) k = some v ∧ RelW M H ι w v) ∧ (lkK kvs k = none → valV ((kvs.map (·.1)).zip vs) k = none)
  | [], vs, r => by
    rw [show vs = [] from r]
    refine ⟨fun w h => ?_, fun _ => rfl⟩
    have h' : (none : Option W) = some w := h
    cases h'
  | (k', w) :: kvs, vs, r => by
    obtain ⟨v, rs, rfl, r1, r2⟩ := r
    have ih := lkK_ok (k := k) r2
    by_cases e : k' = k
    · have h1 : lkK ((k', w) :: kvs) k = some w := by simp [lkK, List.find?_cons, e]
      rw [h1]
      refine ⟨fun w' h => ?_, fun h => nomatch h⟩
      obtain rfl := Option.some.inj h
      exact ⟨v, by rw [List.map_cons, List.zip_cons_cons, valV_pos (by exact e)], r1⟩
    · have h1 : lkK ((k', w) :: kvs) k = lkK kvs k := by simp [lkK, List.find?_cons, e]
      rw [h1, List.map_cons, List.zip_cons_cons, valV_neg (by exact e)]
      exact ih
def lkD (E : Hh) (d y : W) : Option (Option W) := match dctOf E d with
  | some (.k _ kvs) => (keyOf y).map (lkK kvs)
  | none => none
theorem lkD_ok {E : Hh} (R : Rel M ι E H) {d y : W} {o : Option W} {v u : V} (h : lkD E d y = some o) (rd : RelW M H ι d v) (ry : RelW M H ι y u) : ∃ a, v = .ref a ∧ IsD H a ∧ ∃ ov, DGet H a u ov ∧
    (∀ w, o = some w → ∃ x, ov = some x ∧ RelW M H ι w x) ∧ (o = none → ov = none) := by
  unfold lkD at h
  cases d with
  | ref i =>
    obtain ⟨a, ha, rfl⟩ := rd
    unfold dctOf at h; dsimp only at h
    cases he : (E : List O)[i]? with
    | none => simp [he] at h
    | some ob =>
      have ro := R.at he ha
      rw [he] at h
      cases ob with
      | dK kvs =>
        dsimp only at h
        cases ek : keyOf y with
        | none => simp [ek] at h
        | some k =>
          simp [ek] at h
          subst h
          obtain ⟨vs, h1, h2⟩ := ro
          have e := keyOf_ok ek ry
          exact ⟨a, rfl, .inl ⟨_, .inl h1⟩, _, by rw [e]; exact DGet.k h1, lkK_ok (k := k) h2⟩
      | lst ws => cases h
      | slst ws => cases h
      | dN kvs => cases h
      | sdN kvs => cases h
      | sdK kvs => cases h
      | exc b => cases h
      | cup b => cases h
      | txs b => cases h
  | _ => cases h
/-- x in y -/
def wIn (x y : W) (E : Hh) : Option Bool :=
  match lkD E y x with
  | some o => some o.isSome
  | none => match x, y with
    | .str s, .str t => if s.length = 1 then some (decide (s.cps.toList.headD 0 ∈ t.cps.toList)) else none
    | x, y => match seqOf E y with
      | some ws => match flV x, ws.mapM flV with
        | some v, some vs => some (inV v vs)
        | _, _ => match shp E x, shp E y with
          | some d, some (.list ds) => some (ds.any fun z => PyData.eqv z d)
          | _, _ => none
      | none => none
def rInDc : Bool → R2 := fun neg x y H Q => ∃ a o, y = .ref a ∧ DGet H a x o ∧ Q (.bl (if neg then !o.isSome else o.isSome)) H
theorem op_inDc {X : Cx} (hu : X.A.units + 1 < cLine) : OpR X (compareOp .In) (rInDc false) := by
  intro pins s σ H x y v u Q I rx ry h
  obtain ⟨a, o, rfl, g, q⟩ := h
  obtain rfl : u = Value.ref a := ry
  exact d_in hu I g rx fun s3 I3 => ⟨.bl o.isSome, H, I3, rfl, q⟩
theorem op_notInDc {X : Cx} (hu : X.A.units + 1 < cLine) : OpR X (compareOp .NotIn) (rInDc true) := by
  intro pins s σ H x y v u Q I rx ry h
  obtain ⟨a, o, rfl, g, q⟩ := h
  obtain rfl : u = Value.ref a := ry
  exact d_notIn hu I g rx fun s3 I3 => ⟨.bl (!o.isSome), H, I3, rfl, q⟩
def rInAll (K : PySem.W.Frag) : R2 := fun x y H Q => rInDc false x y H Q ∨ (rInS x y H Q ∨ (rIn K false x y H Q ∨ rInD K x y H Q))
def rNotInAll (K : PySem.W.Frag) : R2 := fun x y H Q => rInDc true x y H Q ∨ (rNotInS x y H Q ∨ (rIn K true x y H Q ∨ rNotInD K x y H Q))
theorem op_inAll {X : Cx} (hu : X.A.units + 65 < cLine) : OpR X (compareOp .In) (rInAll X.K) := (op_inDc (by omega)).or (op_in_sign.or (op_in_seq.or (op_inD hu)))
theorem op_notInAll {X : Cx} (hu : X.A.units + 65 < cLine) : OpR X (compareOp .NotIn) (rNotInAll X.K) := (op_notInDc (by omega)).or (op_notIn_sign.or (op_notIn_seq.or (op_notInD hu)))
theorem one_sign {s : Str} (h : s.length = 1) : s = ⟨#[s.cps.toList.headD 0]⟩ := by
  obtain ⟨⟨l⟩⟩ := s
  match l, h with
  | [c], _ => rfl
theorem in_ok {E : Hh} {x y : W} {b : Bool} {v u : V} {Q : VK} (h : wIn x y E = some b) (R : Rel M ι E H) (rx : RelW M H ι x v) (ry : RelW M H ι y u) :
    (Q (.bl b) H → rInAll M.K v u H Q) ∧ (Q (.bl (!b)) H → rNotInAll M.K v u H Q) := by
  have seqs : (match seqOf E y with
      | some ws => match flV x, ws.mapM flV with
        | some v, some vs => some (inV v vs)
        | _, _ => match shp E x, shp E y with
          | some d, some (.list ds) => some (ds.any fun z => PyData.eqv z d)
          | _, _ => none
      | none => none) = some b → (Q (.bl b) H → rInAll M.K v u H Q) ∧ (Q (.bl (!b)) H → rNotInAll M.K v u H Q) := by
    intro h
    cases e1 : seqOf E y with
    | none => rw [e1] at h; cases h
    | some ws =>
      rw [e1] at h
      dsimp only at h
      obtain ⟨a, vs, rfl, hs, rws⟩ := seq_ok R e1 ry
      have deep : (match shp E x, shp E y with
          | some d, some (.list ds) => some (ds.any fun z => PyData.eqv z d)
          | _, _ => none) = some b → (Q (.bl b) H → rInAll M.K v (.ref a) H Q) ∧ (Q (.bl (!b)) H → rNotInAll M.K v (.ref a) H Q) := by
        intro h
        split at h
        · rename_i d ds e2 e3
          obtain ⟨d1, s1⟩ := shp_ok R e2 rx
          obtain ⟨d2, s2⟩ := shp_ok R e3 ry
          obtain rfl := Option.some.inj h
          exact ⟨fun q => .inr (.inr (.inr ⟨d, ds, d1, d2, s1, s2, q⟩)), fun q => .inr (.inr (.inr ⟨d, ds, d1, d2, s1, s2, q⟩))⟩
        · cases h
      cases e2 : flV x with
      | none => rw [e2] at h; exact deep h
      | some z =>
        cases e3 : ws.mapM flV with
        | none => rw [e2, e3] at h; exact deep h
        | some zs =>
          rw [e2, e3] at h
          obtain ⟨rfl, f1⟩ := flV_ok e2 rx
          obtain ⟨rfl, f2⟩ := flVs_ok e3 rws
          obtain rfl := Option.some.inj h
          exact ⟨fun q => .inr (.inr (.inl ⟨a, vs, rfl, hs, f1, f2, q⟩)), fun q => .inr (.inr (.inl ⟨a, vs, rfl, hs, f1, f2, q⟩))⟩
  unfold wIn at h
  cases e0 : lkD E y x with
  | some o =>
    rw [e0] at h
    obtain rfl : o.isSome = b := Option.some.inj h
    obtain ⟨a, rfl, _, ov, g, hv1, hv2⟩ := lkD_ok R e0 ry rx
    have e : ov.isSome = o.isSome := by
      cases o with
      | none => rw [hv2 rfl]; rfl
      | some w => obtain ⟨x, e, _⟩ := hv1 w rfl; rw [e]; rfl
    exact ⟨fun q => .inl ⟨a, ov, rfl, g, by rw [e]; exact q⟩, fun q => .inl ⟨a, ov, rfl, g, by rw [e]; exact q⟩⟩
  | none =>
    rw [e0] at h
    dsimp only at h
    split at h
    · rename_i s t
      split at h
      · rename_i hc
        obtain rfl := Option.some.inj h
        rw [show v = .str s from rx, show u = .str t from ry]
        refine ⟨fun q => .inr (.inl ⟨s.cps.toList.headD 0, t, ?_, rfl, q⟩), fun q => .inr (.inl ⟨s.cps.toList.headD 0, t, ?_, rfl, q⟩)⟩
        · exact congrArg V.str (one_sign hc)
        · exact congrArg V.str (one_sign hc)
      · cases h
    · exact seqs h
end G

set_option Elab.async false
set_option linter.all false
set_option maxRecDepth 100000
set_option maxHeartbeats 4000000
namespace G
open PySem L2 PySem.Spec PyProof.Rows
variable {M : Md} {H H' H1 H2 : Hp} {ι ι' ι1 ι2 : List Addr}

/-! ### comparisons by their sign -/
def isNon : W → Bool
  | .non => true
  | _ => false
def int2 (f : Int → Int → Bool) : W → W → Option Bool
  | .int i, .int j => some (f i j)
  | _, _ => none
theorem int2_ok {f : Int → Int → Bool} {x y : W} {b : Bool} {v u : V} {Q : VK} (h : int2 f x y = some b) (rx : RelW M H ι x v) (ry : RelW M H ι y u) (q : Q (.bl b) H) : rI0 (fun i j => .bl (f i j)) v u H Q := by
  cases x <;> cases y <;> simp [int2] at h
  subst h
  exact ⟨_, _, rx, ry, q⟩
def isB : W → W → Option Bool
  | .bl a, .bl b => some (decide (a = b))
  | _, _ => none
theorem isB_ok {x y : W} {b : Bool} {v u : V} (h : isB x y = some b) (rx : RelW M H ι x v) (ry : RelW M H ι y u) : ∃ c d : Bool, v = .bl c ∧ u = .bl d ∧ b = decide (c = d) := by
  cases x <;> cases y <;> simp [isB] at h
  subst h
  exact ⟨_, _, rx, ry, rfl⟩
def eq2 (E : Hh) (x y : W) : Option Bool := match shp E x, shp E y with
  | some d, some e => some (PyData.eqv d e)
  | _, _ => none
theorem eq2_ok {E : Hh} {x y : W} {b : Bool} {v u : V} (h : eq2 E x y = some b) (R : Rel M ι E H) (rx : RelW M H ι x v) (ry : RelW M H ι y u) :
    ∃ d e, Dp M.K H v d ∧ Dp M.K H u e ∧ SeqAt.shaped d = true ∧ SeqAt.shaped e = true ∧ b = PyData.eqv d e := by
  unfold eq2 at h
  cases e2 : shp E x with
  | none => rw [e2] at h; cases h
  | some d =>
    cases e3 : shp E y with
    | none => rw [e2, e3] at h; cases h
    | some e =>
      rw [e2, e3] at h
      obtain ⟨d1, s1⟩ := shp_ok R e2 rx
      obtain ⟨d2, s2⟩ := shp_ok R e3 ry
      exact ⟨d, e, d1, d2, s1, s2, (Option.some.inj h).symm⟩
def ltW (x y : W) : Option Bool := match x, y with
  | .str i, .str j => some (decide (i.cps.toList < j.cps.toList))
  | x, y => int2 (fun i j => decide (i < j)) x y
theorem ltW_ok {x y : W} {b : Bool} {v u : V} {Q : VK} (h : ltW x y = some b) (rx : RelW M H ι x v) (ry : RelW M H ι y u) (now : Q (.bl b) H) : rI0 (fun i j => .bl (decide (i < j))) v u H Q ∨ ∃ i j, v = .str i ∧ u = .str j ∧ Q (.bl (decide (i.cps.toList < j.cps.toList))) H := by
  unfold ltW at h
  split at h
  · obtain rfl := Option.some.inj h
    exact .inr ⟨_, _, rx, ry, now⟩
  · exact .inl (int2_ok (f := fun i j => decide (i < j)) h rx ry now)
def wCmp (op : CmpOp) (x y : W) (E : Hh) : Option Bool :=
  match op with
  | .Eq => eq2 E x y
  | .NotEq => (eq2 E x y).map (!·)
  | .Lt => ltW x y
  | .LtE => int2 (fun i j => decide (i ≤ j)) x y
  | .Gt => int2 (fun i j => decide (j < i)) x y
  | .GtE => int2 (fun i j => decide (j ≤ i)) x y
  | .Is => if isNon y = true then some (isNon x) else isB x y
  | .IsNot => if isNon y = true then some (!isNon x) else (isB x y).map (!·)
  | .In => wIn x y E
  | .NotIn => (wIn x y E).map (!·)
def rCmpAll (K : PySem.W.Frag) : CmpOp → R2
  | .Eq => rEqD K
  | .NotEq => rNeD K
  | .Lt => fun x y H Q => rI0 (fun i j => .bl (decide (i < j))) x y H Q ∨ ∃ i j, x = .str i ∧ y = .str j ∧ Q (.bl (decide (i.cps.toList < j.cps.toList))) H
  | .LtE => rI0 fun i j => .bl (decide (i ≤ j))
  | .Gt => rI0 fun i j => .bl (decide (j < i))
  | .GtE => rI0 fun i j => .bl (decide (j ≤ i))
  | .Is => fun x y H Q => (y = .non ∧ Q (.bl (decide (x = .non))) H) ∨ rIsB x y H Q
  | .IsNot => fun x y H Q => (y = .non ∧ Q (.bl (!decide (x = .non))) H) ∨ rNotB x y H Q
  | .In => rInAll K
  | .NotIn => rNotInAll K
theorem op_cmpAll {X : Cx} (hu : X.A.units + 65 < cLine) : ∀ op : CmpOp, OpR X (compareOp op) (rCmpAll X.K op)
  | .Eq => op_eqD (by omega)
  | .NotEq => op_neD (by omega)
  | .Lt => op_lt.or op_lt_str
  | .LtE => op_le
  | .Gt => op_gt
  | .GtE => op_ge
  | .Is => op_isN.or op_isBl
  | .IsNot => op_notN.or op_notBl
  | .In => op_inAll hu
  | .NotIn => op_notInAll hu
theorem RelW.non_iff {w : W} {v : V} (r : RelW M H ι w v) : decide (v = .non) = isNon w := by
  cases w with
  | non => rw [show v = .non from r]; rfl
  | bl b => rw [show v = .bl b from r]; rfl
  | int b => rw [show v = .int b from r]; rfl
  | str b => rw [show v = .str b from r]; rfl
  | tup ws => obtain ⟨a, vs, rfl, _⟩ := r; rfl
  | ref i => obtain ⟨a, _, rfl⟩ := r; rfl
  | fn x => obtain ⟨a, _, rfl⟩ := r; rfl
  | ty x => rw [show v = .ty x from r]; rfl
theorem isNon_ok {w : W} {v : V} (h : isNon w = true) (r : RelW M H ι w v) : v = .non := by
  cases w <;> simp [isNon] at h
  exact r
theorem map_not {o : Option Bool} {b : Bool} (h : o.map (!·) = some b) : ∃ c, o = some c ∧ (!c) = b := by
  cases o with
  | none => cases h
  | some c => exact ⟨c, rfl, Option.some.inj h⟩
theorem cmp_ok {op : CmpOp} {E : Hh} {x y : W} {b : Bool} {v u : V} {Q : VK} (h : wCmp op x y E = some b) (R : Rel M ι E H) (rx : RelW M H ι x v) (ry : RelW M H ι y u) (k : Fin M ι H (.bl b) E Q) : rCmpAll M.K op v u H Q := by
  have now : Q (.bl b) H := k.now R rfl
  cases op with
  | Eq =>
    obtain ⟨d, e, d1, d2, s1, s2, rfl⟩ := eq2_ok (show eq2 E x y = some b from h) R rx ry
    exact ⟨d, e, d1, d2, s1, s2, now⟩
  | NotEq =>
    obtain ⟨c, hc, rfl⟩ := map_not (show (eq2 E x y).map (!·) = some b from h)
    obtain ⟨d, e, d1, d2, s1, s2, rfl⟩ := eq2_ok hc R rx ry
    exact ⟨d, e, d1, d2, s1, s2, now⟩
  | Lt => exact ltW_ok h rx ry now
  | LtE => exact int2_ok (f := fun i j => decide (i ≤ j)) h rx ry now
  | Gt => exact int2_ok (f := fun i j => decide (j < i)) h rx ry now
  | GtE => exact int2_ok (f := fun i j => decide (j ≤ i)) h rx ry now
  | Is =>
    have h : (if isNon y = true then some (isNon x) else isB x y) = some b := h
    split at h
    · rename_i hc
      refine .inl ⟨isNon_ok hc ry, ?_⟩
      rw [rx.non_iff, Option.some.inj h]
      exact now
    · obtain ⟨c, d, e1, e2, rfl⟩ := isB_ok h rx ry
      exact .inr ⟨c, d, e1, e2, now⟩
  | IsNot =>
    have h : (if isNon y = true then some (!isNon x) else (isB x y).map (!·)) = some b := h
    split at h
    · rename_i hc
      refine .inl ⟨isNon_ok hc ry, ?_⟩
      rw [rx.non_iff, Option.some.inj h]
      exact now
    · obtain ⟨c0, hc, rfl⟩ := map_not h
      obtain ⟨c, d, e1, e2, rfl⟩ := isB_ok hc rx ry
      exact .inr ⟨c, d, e1, e2, now⟩
  | In => exact (in_ok h R rx ry).1 now
  | NotIn =>
    obtain ⟨c, hc, rfl⟩ := map_not (show (wIn x y E).map (!·) = some b from h)
    exact (in_ok hc R rx ry).2 now

/-! ### truth -/
def wTru (x : W) (E : Hh) : Option Bool := match x with
  | .non => some false
  | .bl b => some b
  | .int i => some (i != 0)
  | .str s => if s.length ≤ big then some ((s.length : Int) != 0) else none
  | x => match seqOf E x with
    | some ws => some (!ws.isEmpty)
    | none => match dctOf E x with
      | some (.k _ kvs) => some (!kvs.isEmpty)
      | _ => none
theorem tru_okW {E : Hh} {x : W} {b : Bool} {v : V} (h : wTru x E = some b) (R : Rel M ι E H) (rx : RelW M H ι x v) : TruV M.K v H b := by
  have seqsC : (match seqOf E x with
    | some ws => some (!ws.isEmpty)
    | none => match dctOf E x with
      | some (.k _ kvs) => some (!kvs.isEmpty)
      | _ => none) = some b → TruV M.K v H b := by
    intro h
    cases e : seqOf E x with
    | some ws =>
      rw [e] at h
      obtain rfl : (!ws.isEmpty) = b := Option.some.inj h
      obtain ⟨a, vs, rfl, hs, r⟩ := seq_ok R e rx
      have el : (!ws.isEmpty) = !vs.isEmpty := by
        have := r.length
        cases ws <;> cases vs <;> simp_all
      rcases hs with hs | hs
      · exact .inl ⟨vs, hs, el⟩
      · exact .inr (.inl ⟨vs, hs, el⟩)
    | none =>
      rw [e] at h
      dsimp only at h
      split at h
      · rename_i i kvs e2
        obtain rfl : (!kvs.isEmpty) = b := Option.some.inj h
        cases x with
        | ref j =>
          unfold dctOf at e2; dsimp only at e2
          cases he : (E : List O)[j]? with
          | none => simp [he] at e2
          | some ob =>
            obtain ⟨a, ha, rfl⟩ := rx
            have ro := R.at he ha
            rw [he] at e2
            cases ob with
            | dK ks =>
              obtain ⟨rfl, rfl⟩ : j = i ∧ ks = kvs := by simpa using e2
              obtain ⟨vs, h1, h2⟩ := ro
              refine .inr (.inr ⟨_, h1, ?_⟩)
              have := h2.length
              cases ks <;> cases vs <;> simp_all
            | lst ws => cases e2
            | slst ws => cases e2
            | dN ks => simp at e2
            | sdN ks => simp at e2
            | sdK ks => simp at e2
            | exc b => simp at e2
            | cup b => simp at e2
            | txs b => simp at e2
        | _ => cases e2
      · cases h
  unfold wTru at h
  split at h
  · obtain rfl := Option.some.inj h
    rw [show v = .non from rx]
    exact rfl
  · rename_i c
    obtain rfl := Option.some.inj h
    rw [show v = .bl c from rx]
    exact rfl
  · rename_i i
    obtain rfl := Option.some.inj h
    rw [show v = .int i from rx]
    exact rfl
  · rename_i s
    split at h
    · rename_i hc
      obtain rfl := Option.some.inj h
      rw [show v = .str s from rx]
      exact ⟨big_le hc, rfl⟩
    · cases h
  · exact seqsC h

/-! ### calls of what is built in -/
/-- the type's name -/
def tyW (E : Hh) : W → Option String
  | .non => some "NoneType"
  | .bl _ => some "bool"
  | .int _ => some "int"
  | .str _ => some "str"
  | .tup _ => some "tuple"
  | .ref i => match (E : List O)[i]? with
    | some (.lst _) => some "list"
    | some (.dK _) => some "dict"
    | _ => none
  | .fn _ => none
  | .ty _ => none
theorem ty_ok {E : Hh} {x : W} {n : String} {v : V} (h : tyW E x = some n) (R : Rel M ι E H) (rx : RelW M H ι x v) : TyX M.K H v (.type n) := by
  cases x with
  | non => obtain rfl : _ = n := Option.some.inj h; rw [show v = .non from rx]; exact .base .non
  | bl b => obtain rfl : _ = n := Option.some.inj h; rw [show v = .bl b from rx]; exact .base (.bl b)
  | int b => obtain rfl : _ = n := Option.some.inj h; rw [show v = .int b from rx]; exact .base (.int b)
  | str b => obtain rfl : _ = n := Option.some.inj h; rw [show v = .str b from rx]; exact .base (.str b)
  | tup ws =>
    obtain rfl : _ = n := Option.some.inj h
    obtain ⟨a, vs, rfl, ht, _⟩ := rx
    rcases ht with (ht | ⟨o, ht⟩) | ⟨o, its, k, e, c, _⟩
    · exact .base (.tup ht)
    · exact .fTuple ht
    · exact .kTuple e c
  | ref i =>
    obtain ⟨a, ha, rfl⟩ := rx
    unfold tyW at h; dsimp only at h
    cases he : (E : List O)[i]? with
    | none => simp [he] at h
    | some ob =>
      have ro := R.at he ha
      rw [he] at h
      cases ob with
      | lst ws => obtain rfl : _ = n := Option.some.inj h; obtain ⟨vs, h1, _⟩ := ro; exact .base (.lst h1)
      | slst ws => cases h
      | dK ws => obtain rfl : _ = n := Option.some.inj h; obtain ⟨vs, h1, _⟩ := ro; exact .base (.dK h1)
      | dN ws => cases h
      | sdN ws => cases h
      | sdK ws => cases h
      | exc b => cases h
      | cup b => cases h
      | txs b => cases h
  | fn x => cases h
  | ty x => cases h
def blW : W → Option Bool
  | .bl b => some b
  | _ => none
def intW : W → Option Int
  | .int i => some i
  | _ => none
theorem bls_ok : ∀ {ws : List W} {bs : List Bool} {vs : List V}, ws.mapM blW = some bs → RelWs M H ι ws vs → vs = bs.map V.bl
  | [], bs, vs, h, r => by
    simp at h
    subst h
    rw [show vs = [] from r]
    rfl
  | w :: ws, bs, vs, h, r => by
    obtain ⟨v, rs, rfl, r1, r2⟩ := r
    rw [List.mapM_cons] at h
    cases e1 : blW w with
    | none => simp [e1] at h
    | some d =>
      cases e2 : ws.mapM blW with
      | none => simp [e1, e2] at h
      | some es =>
        simp [e1, e2] at h
        subst h
        rw [bls_ok e2 r2]
        cases w <;> cases e1
        rw [show v = .bl d from r1]
        rfl
theorem ints_ok : ∀ {ws : List W} {bs : List Int} {vs : List V}, ws.mapM intW = some bs → RelWs M H ι ws vs → vs = bs.map V.int
  | [], bs, vs, h, r => by
    simp at h
    subst h
    rw [show vs = [] from r]
    rfl
  | w :: ws, bs, vs, h, r => by
    obtain ⟨v, rs, rfl, r1, r2⟩ := r
    rw [List.mapM_cons] at h
    cases e1 : intW w with
    | none => simp [e1] at h
    | some d =>
      cases e2 : ws.mapM intW with
      | none => simp [e1, e2] at h
      | some es =>
        simp [e1, e2] at h
        subst h
        rw [ints_ok e2 r2]
        cases w <;> cases e1
        rw [show v = .int d from r1]
        rfl
/-- built-in names that are called -/
inductive Bi where
  | len | isi | all | any | sum | abs | int | list | tuple
def biOf (x : Str) : Option Bi :=
  if x = "len" then some .len else if x = "isinstance" then some .isi else if x = "all" then some .all else if x = "any" then some .any
  else if x = "sum" then some .sum else if x = "abs" then some .abs else if x = "int" then some .int else if x = "list" then some .list
  else if x = "tuple" then some .tuple else none
def Bi.val : Bi → Value
  | .len => .builtin "len"
  | .isi => .builtin "isinstance"
  | .all => .builtin "all"
  | .any => .builtin "any"
  | .sum => .builtin "sum"
  | .abs => .builtin "abs"
  | .int => .type "int"
  | .list => .type "list"
  | .tuple => .type "tuple"
def wBi (f : Bi) (xs : List W) (E : Hh) : Option (W × Hh) :=
  match f, xs with
  | .len, [x] => match x with
    | .str s => if s.length ≤ big then some (.int s.length, E) else none
    | x => match seqOf E x with
      | some ws => some (.int ws.length, E)
      | none => none
  | .isi, [x, .ty n] => match tyW E x with
    | some m => (kitB m n).map fun b => (.bl b, E)
    | none => none
  | .all, [x] => match lstOf E x with
    | some (_, ws) => (ws.mapM blW).map fun bs => (.bl (bs.all id), E)
    | none => none
  | .any, [x] => match lstOf E x with
    | some (_, ws) => (ws.mapM blW).map fun bs => (.bl (bs.any id), E)
    | none => none
  | .sum, [x] => match lstOf E x with
    | some (_, ws) => (ws.mapM intW).map fun ns => (.int ns.sum, E)
    | none => none
  | .abs, [.int i] => some (.int (if i < 0 then -i else i), E)
  | .int, [.int i] => some (.int i, E)
  | .list, [x] => match seqOf E x with
    | some ws => some (.ref E.length, E ++ [.lst ws])
    | none => none
  | .tuple, [x] => match seqOf E x with
    | some ws => some (.tup ws, E)
    | none => none
  | _, _ => none
def rBi (K : PySem.W.Frag) : Bi → List V → Hp → VK → Prop
  | .len => fun xs H Q => ∃ x n, xs = [x] ∧ LenV K x H n ∧ Q (.int n) H
  | .isi => rIsi K
  | .all => rAll K
  | .any => rAny K
  | .sum => rSum K
  | .abs => fun xs H Q => ∃ i, xs = [.int i] ∧ Q (.int (if i < 0 then -i else i)) H
  | .int => fun xs H Q => (∃ i, xs = [.int i] ∧ Q (.int i) H) ∨ ∃ k, xs = [.bl k] ∧ Q (.int (if k then 1 else 0)) H
  | .list => fun xs H Q => ∃ p ys, xs = [.ref p] ∧ (SqL K H p ys ∨ SqT K H p ys) ∧ ∀ l, H l = none → Q (.ref l) (upd H l (.lst ys))
  | .tuple => fun xs H Q => ∃ p ys, xs = [.ref p] ∧ ((SqL K H p ys ∧ ∀ l, H l = none → Q (.ref l) (upd H l (.tup ys))) ∨ (SqT K H p ys ∧ Q (.ref p) H))
theorem cr_bi {X : Cx} (hc : X.calm = true) : ∀ f : Bi, CallR X f.val (rBi X.K f)
  | .len => call_len
  | .isi => call_isi
  | .all => cr_all hc
  | .any => cr_any hc
  | .sum => cr_sum hc
  | .abs => call_abs
  | .int => call_int1
  | .list => call_list_of
  | .tuple => call_tuple_of
theorem one_ok {w : W} {vs : List V} (r : RelWs M H ι [w] vs) : ∃ v, vs = [v] ∧ RelW M H ι w v := by
  obtain ⟨v, r, rfl, h1, h2⟩ := r
  rw [show r = [] from h2]
  exact ⟨v, rfl, h1⟩
theorem two_ok {w x : W} {vs : List V} (r : RelWs M H ι [w, x] vs) : ∃ v u, vs = [v, u] ∧ RelW M H ι w v ∧ RelW M H ι x u := by
  obtain ⟨v, r, rfl, h1, h2⟩ := r
  obtain ⟨u, rfl, h3⟩ := one_ok h2
  exact ⟨v, u, rfl, h1, h3⟩
theorem bi_ok {f : Bi} {E E' : Hh} {xs : List W} {z : W} {vs : List V} {Q : VK} (h : wBi f xs E = some (z, E')) (R : Rel M ι E H) (r : RelWs M H ι xs vs) (k : Fin M ι H z E' Q) : rBi M.K f vs H Q := by
  unfold wBi at h
  split at h
  · rename_i x
    obtain ⟨v, rfl, rx⟩ := one_ok r
    have seqsC : (match seqOf E x with
      | some ws => some ((.int ws.length : W), E)
      | none => none) = some (z, E') → rBi M.K .len [v] H Q := by
      intro h
      cases e : seqOf E x with
      | none => rw [e] at h; cases h
      | some ws =>
        rw [e] at h
        obtain ⟨rfl, rfl⟩ : (.int ws.length : W) = z ∧ E = E' := by simpa using h
        obtain ⟨a, us, rfl, hs, rw⟩ := seq_ok R e rx
        refine ⟨.ref a, ws.length, rfl, ?_, k.now R rfl⟩
        rcases hs with hs | hs
        · exact .inl ⟨us, hs, rw.length⟩
        · exact .inr ⟨us, hs, rw.length⟩
    split at h
    · rename_i s
      split at h
      · rename_i hc
        obtain ⟨rfl, rfl⟩ : (.int s.length : W) = z ∧ E = E' := by simpa using h
        rw [show v = .str s from rx]
        exact ⟨.str s, s.length, rfl, ⟨big_le hc, rfl⟩, k.now R rfl⟩
      · cases h
    · exact seqsC h
  · rename_i x n
    obtain ⟨v, u, rfl, rx, ry⟩ := two_ok r
    split at h
    · rename_i m e
      cases e2 : kitB m n with
      | none => rw [e2] at h; cases h
      | some b =>
        rw [e2] at h
        obtain ⟨rfl, rfl⟩ : (.bl b : W) = z ∧ E = E' := by simpa using h
        rw [show u = .ty n from ry]
        exact ⟨v, .ty n, .type m, .type n, b, rfl, .ty n, ty_ok e R rx, kit_ty e2, k.now R rfl⟩
    · cases h
  · rename_i x
    obtain ⟨v, rfl, rx⟩ := one_ok r
    split at h
    · rename_i p i ws e
      cases e2 : ws.mapM blW with
      | none => rw [e2] at h; cases h
      | some bs =>
        rw [e2] at h
        obtain ⟨rfl, rfl⟩ : (.bl (bs.all id) : W) = z ∧ E = E' := by simpa using h
        obtain ⟨a, us, _, _, _, rfl, h1, rw⟩ := lst_ok R e rx
        rw [bls_ok e2 rw] at h1
        exact ⟨a, bs, rfl, SqL.of h1, k.now R rfl⟩
    · cases h
  · rename_i x
    obtain ⟨v, rfl, rx⟩ := one_ok r
    split at h
    · rename_i p i ws e
      cases e2 : ws.mapM blW with
      | none => rw [e2] at h; cases h
      | some bs =>
        rw [e2] at h
        obtain ⟨rfl, rfl⟩ : (.bl (bs.any id) : W) = z ∧ E = E' := by simpa using h
        obtain ⟨a, us, _, _, _, rfl, h1, rw⟩ := lst_ok R e rx
        rw [bls_ok e2 rw] at h1
        exact ⟨a, bs, rfl, SqL.of h1, k.now R rfl⟩
    · cases h
  · rename_i x
    obtain ⟨v, rfl, rx⟩ := one_ok r
    split at h
    · rename_i p i ws e
      cases e2 : ws.mapM intW with
      | none => rw [e2] at h; cases h
      | some ns =>
        rw [e2] at h
        obtain ⟨rfl, rfl⟩ : (.int ns.sum : W) = z ∧ E = E' := by simpa using h
        obtain ⟨a, us, _, _, _, rfl, h1, rw⟩ := lst_ok R e rx
        rw [ints_ok e2 rw] at h1
        exact ⟨a, ns, rfl, SqL.of h1, k.now R rfl⟩
    · cases h
  · rename_i i
    obtain ⟨v, rfl, rx⟩ := one_ok r
    obtain ⟨rfl, rfl⟩ : (.int (if i < 0 then -i else i) : W) = z ∧ E = E' := by simpa using h
    rw [show v = .int i from rx]
    exact ⟨i, rfl, k.now R rfl⟩
  · rename_i i
    obtain ⟨v, rfl, rx⟩ := one_ok r
    obtain ⟨rfl, rfl⟩ : (.int i : W) = z ∧ E = E' := by simpa using h
    rw [show v = .int i from rx]
    exact .inl ⟨i, rfl, k.now R rfl⟩
  · rename_i x
    obtain ⟨v, rfl, rx⟩ := one_ok r
    split at h
    · rename_i ws e
      obtain ⟨rfl, rfl⟩ : (.ref E.length : W) = z ∧ E ++ [.lst ws] = E' := by simpa using h
      obtain ⟨a, us, rfl, hs, rw⟩ := seq_ok R e rx
      exact ⟨a, us, rfl, hs, k.lst R rw⟩
    · cases h
  · rename_i x
    obtain ⟨v, rfl, rx⟩ := one_ok r
    split at h
    · rename_i ws e
      obtain ⟨rfl, rfl⟩ : (.tup ws : W) = z ∧ E = E' := by simpa using h
      obtain ⟨a, us, rfl, hs, rw⟩ := seq_ok R e rx
      refine ⟨a, us, rfl, ?_⟩
      rcases hs with hs | hs
      · exact .inl ⟨hs, k.tup R rw⟩
      · exact .inr ⟨hs, k.now R ⟨a, us, rfl, hs, rw⟩⟩
    · cases h
  · cases h
end G

set_option Elab.async false
set_option linter.all false
set_option maxRecDepth 100000
set_option maxHeartbeats 4000000
namespace G
open PySem L2 PySem.Spec PyProof.Rows
variable {M : Md} {H H' H1 H2 : Hp} {ι ι' ι1 ι2 : List Addr}

/-! ### acts, and their readings -/
abbrev Sg := List (Option W)
/-- what comes: a value, or an error of the class with this name -/
inductive Rz (α : Type) where
  | ok (a : α) (E : Hh) | ex (x : Str) (E : Hh)
  deriving Inhabited
abbrev Act (α : Type) := Sg → Hh → Option (Rz α)
def andThen {α β : Type} (o : Option (Rz α)) (f : α → Hh → Option (Rz β)) : Option (Rz β) := match o with
  | some (.ok x E) => f x E
  | some (.ex x E) => some (.ex x E)
  | none => none
def lift {α : Type} (o : Option (α × Hh)) : Option (Rz α) := match o with
  | some (x, E) => some (.ok x E)
  | none => none
/-- a wish of errors, by a class's name -/
def Exd (M : Md) (W' : WX) (ι : List Addr) (σ : L2.St) (H : Hp) (x : Str) (E' : Hh) : Prop := ∀ ι' H', Ext M ι H ι' H' → Rel M ι' E' H' → ∃ C, M.mg x = some (.ref C) ∧ W' (.ref C) none σ H'
def Rs {α : Type} (M : Md) (W' : WX) (ι : List Addr) (σ : L2.St) (H : Hp) (o : Option (Rz α)) (G : α → Hh → Prop) : Prop :=
  (∃ a E', o = some (.ok a E') ∧ G a E') ∨ ∃ x E', o = some (.ex x E') ∧ Exd M W' ι σ H x E'
section
variable {α β : Type} {W' : WX} {σ : L2.St} {o : Option (Rz α)} {G G' : α → Hh → Prop}
theorem Rs.imp (h : Rs M W' ι σ H o G) (i : ∀ a E', G a E' → G' a E') : Rs M W' ι σ H o G' := by
  rcases h with ⟨a, E', e, g⟩ | h
  · exact .inl ⟨a, E', e, i a E' g⟩
  · exact .inr h
theorem Rs.ext (h : Rs M W' ι σ H o G) (x : Ext M ι H ι1 H1) : Rs M W' ι1 σ H1 o G := by
  rcases h with h | ⟨y, E', e, g⟩
  · exact .inl h
  · exact .inr ⟨y, E', e, fun ι' H' x' R => g ι' H' (x.trans x') R⟩
theorem Rs.bind {f : α → Hh → Option (Rz β)} {G : β → Hh → Prop} (h : Rs M W' ι σ H (andThen o f) G) : Rs M W' ι σ H o fun a E1 => Rs M W' ι σ H (f a E1) G := by
  cases o with
  | none => rcases h with ⟨_, _, e, _⟩ | ⟨_, _, e, _⟩ <;> cases e
  | some r =>
    cases r with
    | ok a E1 => exact .inl ⟨a, E1, rfl, h⟩
    | ex x E1 =>
      rcases h with ⟨_, _, e, _⟩ | ⟨y, E', e, g⟩
      · cases e
      · cases e
        exact .inr ⟨_, _, rfl, g⟩
theorem Rs.lift {p : Option (α × Hh)} (h : Rs M W' ι σ H (lift p) G) : ∃ a E', p = some (a, E') ∧ G a E' := by
  cases p with
  | none => rcases h with ⟨_, _, e, _⟩ | ⟨_, _, e, _⟩ <;> cases e
  | some q =>
    rcases h with ⟨a, E', e, g⟩ | ⟨_, _, e, _⟩
    · cases e
      exact ⟨_, _, rfl, g⟩
    · cases e
theorem Rs.ok {a : α} {E : Hh} (h : Rs M W' ι σ H (some (.ok a E)) G) : G a E := by
  rcases h with ⟨_, _, e, g⟩ | ⟨_, _, e, _⟩
  · cases e
    exact g
  · cases e
theorem Rs.none (h : Rs M W' ι σ H (none : Option (Rz α)) G) : False := by
  rcases h with ⟨_, _, e, _⟩ | ⟨_, _, e, _⟩ <;> cases e
end
def SE (M : Md) (W' : WX) (c : Act W) : TE := fun σ H Q => ∃ ι E σE, Rel M ι E H ∧ RelS M H ι σE σ ∧ Rs M W' ι σ H (c σE E) fun w E' => Fin M ι H w E' Q
def ST (M : Md) (W' : WX) (c : Act Bool) : TT := fun σ H Q => ∃ ι E σE, Rel M ι E H ∧ RelS M H ι σE σ ∧ Rs M W' ι σ H (c σE E) fun b E' => ∀ ι' H', Ext M ι H ι' H' → Rel M ι' E' H' → Q b H'
def SA (M : Md) (W' : WX) (c : Act (List W)) : TA := fun σ H Q => ∃ ι E σE, Rel M ι E H ∧ RelS M H ι σE σ ∧ Rs M W' ι σ H (c σE E) fun ws E' => ∀ ι' H' vs, Ext M ι H ι' H' → Rel M ι' E' H' → RelWs M H' ι' ws vs → Q vs H'
theorem PE.imp {X : Cx} {e : Expr} {t t' : TE} (h : PE X e t) (i : ∀ σ H Q, t' σ H Q → t σ H Q) : PE X e t' := ⟨fun pins s σ H Q I q => h.run pins s σ H Q I (i σ H Q q)⟩
theorem PT.imp {X : Cx} {e : Expr} {t t' : TT} (h : PT X e t) (i : ∀ σ H Q, t' σ H Q → t σ H Q) : PT X e t' := ⟨fun pins s σ H Q I q => h.run pins s σ H Q I (i σ H Q q)⟩
theorem PA.imp {X : Cx} {e : List Expr} {t t' : TA} (h : PA X e t) (i : ∀ σ H Q, t' σ H Q → t σ H Q) : PA X e t' := ⟨fun pos pins s σ H Q I q => h.run pos pins s σ H Q I (i σ H Q q)⟩
section
variable {X : Cx} {W' : WX}
theorem pe_no {e : Expr} {c : Act W} (h : ∀ σ E, c σ E = none) : PE X e (SE M W' c) := ⟨fun pins s σ H Q I ⟨ι, E, σE, _, _, q⟩ => by
  rw [h] at q
  exact q.none.elim⟩
theorem pt_no {e : Expr} {c : Act Bool} (h : ∀ σ E, c σ E = none) : PT X e (ST M W' c) := ⟨fun pins s σ H Q I ⟨ι, E, σE, _, _, q⟩ => by
  rw [h] at q
  exact q.none.elim⟩
theorem pa_no {e : List Expr} {c : Act (List W)} (h : ∀ σ E, c σ E = none) : PA X e (SA M W' c) := ⟨fun pos pins s σ H Q I ⟨ι, E, σE, _, _, q⟩ => by
  rw [h] at q
  exact q.none.elim⟩
/-- a one-place act -/
theorem se_un {ca : Act W} {f : W → Hh → Option (W × Hh)} {r : V → Hp → VK → Prop}
    (hop : ∀ {ι : List Addr} {E E' : Hh} {H : Hp} {x z : W} {v : V} {Q : VK}, f x E = some (z, E') → Rel M ι E H → RelW M H ι x v → Fin M ι H z E' Q → r v H Q) :
    ∀ (σ : L2.St) (H : Hp) (Q : VK), SE M W' (fun σ E => andThen (ca σ E) fun x E1 => lift (f x E1)) σ H Q → tUn r (SE M W' ca) σ H Q := fun σ H Q ⟨ι, E, σE, R, rs, h⟩ =>
  ⟨ι, E, σE, R, rs, h.bind.imp fun x E1 h1 => fun ι1 H1 v x1 R1 rx => by
    obtain ⟨w, E', e, k⟩ := h1.lift
    exact hop e R1 rx fun ι2 H2 u x2 => k ι2 H2 u (x1.trans x2)⟩
/-- a two-place act -/
theorem se_op {ca cb : Act W} {f : W → W → Hh → Option (W × Hh)} {r : R2}
    (hop : ∀ {ι : List Addr} {E E' : Hh} {H : Hp} {x y z : W} {v u : V} {Q : VK}, f x y E = some (z, E') → Rel M ι E H → RelW M H ι x v → RelW M H ι y u → Fin M ι H z E' Q → r v u H Q) :
    ∀ (σ : L2.St) (H : Hp) (Q : VK), SE M W' (fun σ E => andThen (ca σ E) fun x E1 => andThen (cb σ E1) fun y E2 => lift (f x y E2)) σ H Q → tOp r (SE M W' ca) (SE M W' cb) σ H Q := fun σ H Q ⟨ι, E, σE, R, rs, h⟩ =>
  ⟨ι, E, σE, R, rs, h.bind.imp fun x E1 h1 => fun ι1 H1 v x1 R1 rx => ⟨ι1, E1, σE, R1, rs.ext x1, (h1.bind.ext x1).imp fun y E2 h2 => fun ι2 H2 u x2 R2 ry => by
    obtain ⟨w, E', e, k⟩ := h2.lift
    exact hop e R2 (rx.ext x2) ry fun ι3 H3 z x3 => k ι3 H3 z ((x1.trans x2).trans x3)⟩⟩
end

/-! ### the syntax's side -/
def plainArg : Expr → Bool
  | .Starred _ _ => false
  | _ => true
theorem starEach_cons {e : Expr} {es : List Expr} {env : Env} (h : plainArg e = true) : starEach (e :: es) env = (false, eval e env) :: starEach es env := by
  cases e <;> first | rfl | cases h
theorem starEach_plain {env : Env} : ∀ {es : List Expr} {pos : Pos}, es.all plainArg = true → (backTo pos (starEach es env)).any (·.1) = false
  | [], _, _ => rfl
  | e :: es, pos, h => by
    rw [List.all_cons, Bool.and_eq_true] at h
    rw [starEach_cons h.1]
    show (false || (backTo pos (starEach es env)).any (·.1)) = false
    rw [starEach_plain h.2]
    rfl
/-- its test is its value's truth -/
def plainTest : Expr → Bool
  | .UnaryOp .Not _ _ => false
  | .BoolOp _ _ _ => false
  | .IfExp _ _ _ _ => false
  | .Compare _ _ _ _ => false
  | _ => true
theorem isTrue_value {e : Expr} {env : Env} (h : plainTest e = true) : ∀ whole, isTrue e env whole = (do let v ← whole; standAt e.pos; holding [v] (truthy v)) := fun whole => by
  cases e <;> first
    | rfl
    | cases h
    | (rename_i op _ _; cases op <;> first | rfl | cases h)
def plainIx : Expr → Bool
  | .Slice _ _ _ _ => false
  | _ => true
theorem plainIx_ok {b : Expr} (h : plainIx b = true) : PlainIx b := fun o i => by
  cases b <;> first | rfl | cases h

/-! ### the static side of a def, or of a comprehension in it -/
structure Gm where
  N : List Str
  names : List (Str × NameKind)
  cellOk : Str → Bool
  hk : Expr → Option (Act W)
structure Pg where
  glob : Str → Option W
  has : Str → Bool
  non : Str → Bool
  exc : Str → Bool
  call : Str → List W → Hh → Option (Rz W)
  dct : Str → Option (List (Str × W))
def ixOf (x : Str) : List Str → Option Nat
  | [] => none
  | y :: r => if x = y then some 0 else (ixOf x r).map (· + 1)
theorem ixOf_ok {x : Str} : ∀ {N : List Str} {i : Nat}, ixOf x N = some i → N[i]? = some x
  | [], i, h => nomatch h
  | y :: r, i, h => by
    unfold ixOf at h
    split at h
    · rename_i e
      obtain rfl := Option.some.inj h
      simp [e]
    · cases e : ixOf x r with
      | none => rw [e] at h; cases h
      | some j =>
        rw [e] at h
        obtain rfl : j + 1 = i := Option.some.inj h
        simpa using ixOf_ok e
def dbg : Str := "__debug__"
def cdc : Str := "__classdict__"
/-- where a context stands over this module and this def -/
structure At (M : Md) (Γ : Gm) (W' : WX) (X : Cx) : Prop where
  P : X.prog = M.P
  w : X.w = M.w
  K : X.K = M.K
  mg : X.mg = M.mg
  N : X.N = Γ.N
  nd : Γ.N.Nodup
  names : X.env.scope.names = Γ.names
  kind : X.env.scope.kind = .function
  calm : X.calm = true
  units : X.A.units + 65 < cLine
  tk : L2N.Takes X W'
  own : PassesOwn (model X.prog X.w) X.A X.env X.xe
  fnc : ∀ x, Γ.cellOk x = true → X.fn x = true
def isLoc : Option NameKind → Bool
  | some .local => true
  | some .cell => true
  | some .free => true
  | _ => false
def wName (P : Pg) (Γ : Gm) (x : Str) : Act W := fun σ E => lift <|
  if x = dbg ∨ x = cdc then none
  else if isLoc (Γ.names.lookup x) = true then
    match ixOf x Γ.N with
    | some i => match (σ : List (Option W))[i]? with
      | some (some w) => some (w, E)
      | _ => none
    | none => none
  else if Γ.names.lookup x = some .globalImplicit then
    match P.glob x with
    | some w => some (w, E)
    | none => none
  else none
/-- a class of errors, over ValueError, that makes its instances as that one does -/
structure ExcC (K : PySem.W.Frag) (C : Addr) : Prop where
  make : PySem.W.excIn K C [.type "ValueError", .type "Exception", .type "BaseException", .type "object"] "ValueError.__new__" = true
  kp : PySem.W.keepIn K (.ref C) = true
  sub : PySem.W.subIn K (.ref C) (.type "BaseException") = some true
  ty : PySem.W.typeIn K (.ref C) = some (.type "type")
def KdV (M : Md) (kvs : List (Str × W)) (z : Str) (r : Option Value) : Prop := match kvs.lookup z with
  | some w => ∃ u v, r = some u ∧ RelV v u ∧ ∀ H ι, RelW M H ι w v
  | none => r = none
/-- a dict that the module's text writes: its entries -/
structure Kd (M : Md) (a : Addr) (kvs : List (Str × W)) : Prop where
  at_ : ∃ es n, M.K.lookup a = some ⟨.type "dict", none, .dict es n, #[]⟩ ∧ PySem.W.KeysLit M.w.params es.toList ∧ ∀ z, ∃ r, PySem.W.nsIn M.K a z = some r ∧ KdV M kvs z r
  low : (a == sysModules) = false
/-- what the module's names hold -/
structure Glob (M : Md) (P : Pg) : Prop where
  val : ∀ x w, P.glob x = some w → ∃ v u, M.mg x = some u ∧ RelV v u ∧ ∀ H ι, RelW M H ι w v
  non : ∀ x, P.non x = true → M.mg x = none
  exc : ∀ x, P.exc x = true → ∃ C, M.mg x = some (.ref C) ∧ ExcC M.K C
  dct : ∀ x kvs, P.dct x = some kvs → ∃ a, M.mg x = some (.ref a) ∧ (x == ("__debug__" : Str)) = false ∧ Kd M a kvs
theorem str_ne {x y : Str} (h : ¬ x = y) : (x == y) = false := by simpa using h
theorem pe_name {P : Pg} {Γ : Gm} {X : Cx} {W' : WX} {x : Str} {pos : Pos} (a : At M Γ W' X) (g : Glob M P) : PE X (.Name x pos) (SE M W' (wName P Γ x)) := by
  by_cases hb : x = dbg ∨ x = cdc
  · exact pe_no fun σ E => by unfold wName; rw [if_pos hb]; rfl
  have h1 : (x == ("__debug__" : Str)) = false := str_ne fun z => hb (.inl z)
  have h2 : (x == ("__classdict__" : Str)) = false := str_ne fun z => hb (.inr z)
  by_cases hl : isLoc (Γ.names.lookup x) = true
  · cases hi : ixOf x Γ.N with
    | none => exact pe_no fun σ E => by unfold wName; rw [if_neg hb, if_pos hl, hi]; rfl
    | some i =>
      have hv : Vis X.env.scope x := by
        unfold Vis
        rw [a.names]
        revert hl
        cases Γ.names.lookup x with
        | none => intro hl; cases hl
        | some k => cases k <;> intro hl <;> first | exact .inl rfl | exact .inr (.inl rfl) | exact .inr (.inr rfl) | cases hl
      refine PE.imp (pe_var (i := i) (by rw [a.N]; exact ixOf_ok hi) hv h1 h2) fun σ H Q ⟨ι, E, σE, R, rs, h0⟩ => ?_
      obtain ⟨w, E', h, k⟩ := h0.lift
      rw [if_neg hb, if_pos hl, hi] at h
      dsimp only at h
      split at h
      · rename_i w' e
        obtain ⟨rfl, rfl⟩ : w' = w ∧ E = E' := by simpa using h
        obtain ⟨v, e2, rv⟩ := rs.2 i w' e
        exact ⟨v, e2, k.now R rv⟩
      · cases h
  · by_cases hg : Γ.names.lookup x = some .globalImplicit
    · cases hp : P.glob x with
      | none => exact pe_no fun σ E => by unfold wName; rw [if_neg hb, if_neg hl, if_pos hg, hp]; rfl
      | some w0 =>
        obtain ⟨v, u, e1, rv, rw0⟩ := g.val x w0 hp
        have hgl : Gl X x := by
          unfold Gl Env.kindOf
          rw [a.names]
          exact hg
        refine PE.imp (pe_glob (v := v) hgl (by rw [a.mg]; exact e1) rv h1) fun σ H Q ⟨ι, E, σE, R, rs, h0⟩ => ?_
        obtain ⟨w, E', h, k⟩ := h0.lift
        rw [if_neg hb, if_neg hl, if_pos hg, hp] at h
        obtain ⟨rfl, rfl⟩ : w0 = w ∧ E = E' := by simpa using h
        exact k.now R (rw0 H ι)
    · exact pe_no fun σ E => by unfold wName; rw [if_neg hb, if_neg hl, if_neg hg]; rfl
end G

set_option Elab.async false
set_option linter.all false
set_option maxRecDepth 100000
set_option maxHeartbeats 4000000
namespace G
open PySem L2 PySem.Spec PyProof.Rows
variable {M : Md} {H H' H1 H2 : Hp} {ι ι' ι1 ι2 : List Addr} {X : Cx} {W' : WX}

/-! ### arguments, displays -/
def wArgs (ev : Expr → Act W) : List Expr → Act (List W)
  | [] => fun _ E => some (.ok [] E)
  | e :: es => fun σ E => if plainArg e = true then andThen (ev e σ E) fun x E1 => andThen (wArgs ev es σ E1) fun xs E2 => some (.ok (x :: xs) E2) else none
theorem pa_args {ev : Expr → Act W} (h : ∀ e, PE X e (SE M W' (ev e))) : ∀ es, PA X es (SA M W' (wArgs ev es))
  | [] => PA.imp pa_nil fun σ H Q ⟨ι, E, σE, R, rs, k⟩ => k.ok ι H [] (Ext.refl _ _) R rfl
  | e :: es => by
    by_cases hp : plainArg e = true
    · refine PA.imp (pa_cons (h e) (pa_args h es) (starEach_cons hp)) fun σ H Q ⟨ι, E, σE, R, rs, k⟩ => ?_
      unfold wArgs at k
      rw [if_pos hp] at k
      exact ⟨ι, E, σE, R, rs, k.bind.imp fun x E1 h1 => fun ι1 H1 v x1 R1 rx => ⟨ι1, E1, σE, R1, rs.ext x1, (h1.bind.ext x1).imp fun xs E2 h2 => fun ι2 H2 vs x2 R2 rxs =>
        h2.ok ι2 H2 (v :: vs) (x1.trans x2) R2 ⟨v, vs, rfl, rx.ext x2, rxs⟩⟩⟩
    · exact pa_no fun σ E => by unfold wArgs; rw [if_neg hp]
/-- a display's items are few -/
def few : Nat := 100000
theorem few_le {n : Nat} (h : n ≤ few) : n ≤ sizeLine := big_le (Nat.le_trans h (by unfold few big; omega))
theorem few_lt {n : Nat} (h : n ≤ few) : n < sizeLine := big_lt (Nat.lt_of_le_of_lt h (by unfold few big; omega))
def wTup (ca : Act (List W)) : Act W := fun σ E => andThen (ca σ E) fun ws E1 => if ws.length ≤ few then some (.ok (.tup ws) E1) else none
def wLst (ca : Act (List W)) : Act W := fun σ E => andThen (ca σ E) fun ws E1 => if ws.length ≤ few then some (.ok (.ref E1.length) (E1 ++ [.lst ws])) else none
theorem pe_tupG {es : List Expr} {k : Nat} {pos : Pos} {ca : Act (List W)} (h : PA X es (SA M W' ca)) : PE X (.Tuple es k pos) (SE M W' (wTup ca)) := by
  refine PE.imp (pe_tup h) fun σ H Q ⟨ι, E, σE, R, rs, k⟩ => ⟨ι, E, σE, R, rs, k.bind.imp fun ws E1 h1 => fun ι1 H1 vs x1 R1 rws => ?_⟩
  split at h1
  · rename_i hl
    have k1 : Fin M ι1 H1 (.tup ws) E1 Q := fun ι2 H2 u x2 => h1.ok ι2 H2 u (x1.trans x2)
    exact ⟨by rw [← rws.length]; exact few_le hl, k1.tup R1 rws⟩
  · exact h1.none.elim
theorem pe_lstG {es : List Expr} {pos : Pos} {ca : Act (List W)} (h : PA X es (SA M W' ca)) : PE X (.List es pos) (SE M W' (wLst ca)) := by
  refine PE.imp (pe_lst h) fun σ H Q ⟨ι, E, σE, R, rs, k⟩ => ⟨ι, E, σE, R, rs, k.bind.imp fun ws E1 h1 => fun ι1 H1 vs x1 R1 rws => ?_⟩
  split at h1
  · rename_i hl
    have k1 : Fin M ι1 H1 (.ref E1.length) (E1 ++ [.lst ws]) Q := fun ι2 H2 u x2 => h1.ok ι2 H2 u (x1.trans x2)
    exact ⟨by rw [← rws.length]; exact few_le hl, k1.lst R1 rws⟩
  · exact h1.none.elim
/-! ### constants -/
def wConst : Const → Act W
  | .int i => fun _ E => some (.ok (.int i) E)
  | .bool b => fun _ E => some (.ok (.bl b) E)
  | .none => fun _ E => some (.ok .non E)
  | .str s => fun _ E => some (.ok (.str s) E)
  | _ => fun _ _ => none
theorem pe_const {c : Const} {j : Nat} {pos : Pos} : PE X (.Constant c j pos) (SE M W' (wConst c)) := by
  cases c with
  | int i => exact PE.imp pe_int fun σ H Q ⟨ι, E, σE, R, rs, k⟩ => k.ok.now R rfl
  | bool i => exact PE.imp pe_bl fun σ H Q ⟨ι, E, σE, R, rs, k⟩ => k.ok.now R rfl
  | none => exact PE.imp pe_non fun σ H Q ⟨ι, E, σE, R, rs, k⟩ => k.ok.now R rfl
  | str i => exact PE.imp pe_str fun σ H Q ⟨ι, E, σE, R, rs, k⟩ => k.ok.now R rfl
  | float b => exact pe_no fun _ _ => rfl
  | complex a b => exact pe_no fun _ _ => rfl
  | bytes a => exact pe_no fun _ _ => rfl
  | ellipsis => exact pe_no fun _ _ => rfl
/-! ### operators -/
def wBinA (op : Operator) (ca cb : Act W) : Act W := fun σ E => andThen (ca σ E) fun x E1 => andThen (cb σ E1) fun y E2 => lift (wBin op x y E2)
theorem pe_binG {a b : Expr} {op : Operator} {pos : Pos} {ca cb : Act W} (at' : X.K = M.K) (ha : PE X a (SE M W' ca)) (hb : PE X b (SE M W' cb)) : PE X (.BinOp a op b pos) (SE M W' (wBinA op ca cb)) := by
  have no : (∀ x y E, wBin op x y E = none) → PE X (.BinOp a op b pos) (SE M W' (wBinA op ca cb)) := fun hn => ⟨fun pins s σ H Q I ⟨ι, E, σE, R, rs, k⟩ => by
    have e : wBinA op ca cb = fun σ E => andThen (ca σ E) fun x E1 => andThen (cb σ E1) fun y E2 => lift (none : Option (W × Hh)) := by
      unfold wBinA
      simp only [hn]
    rw [e] at k
    have t : tOp (fun _ _ _ _ => False) (SE M W' ca) (SE M W' cb) σ H Q := se_op (f := fun _ _ _ => none) (fun h => by cases h) σ H Q ⟨ι, E, σE, R, rs, k⟩
    exact (PE.imp (pe_op (op := op) (r := fun _ _ _ _ => False) (fun _ _ _ _ _ _ _ _ _ _ _ _ h => h.elim) ha hb) fun _ _ _ q => q).run pins s σ H Q I t⟩
  cases op with
  | Add => exact PE.imp (pe_op op_addAll ha hb) (by rw [at']; exact se_op add_ok)
  | Sub => exact PE.imp (pe_op op_sub ha hb) (se_op sub_ok)
  | Mult => exact PE.imp (pe_op op_mulAll ha hb) (by rw [at']; exact se_op mul_ok)
  | Mod => exact PE.imp (pe_op op_modN ha hb) (se_op mod_ok)
  | FloorDiv => exact PE.imp (pe_op op_fdivN ha hb) (se_op div_ok)
  | Pow => exact PE.imp (pe_op op_pow ha hb) (se_op pow_ok)
  | MatMult => exact no fun _ _ _ => rfl
  | Div => exact no fun _ _ _ => rfl
  | LShift => exact no fun _ _ _ => rfl
  | RShift => exact no fun _ _ _ => rfl
  | BitOr => exact no fun _ _ _ => rfl
  | BitXor => exact no fun _ _ _ => rfl
  | BitAnd => exact no fun _ _ _ => rfl
def wNeg (x : W) (E : Hh) : Option (W × Hh) := match x with
  | .int i => some (.int (-i), E)
  | _ => none
def wNot (x : W) (E : Hh) : Option (W × Hh) := match wTru x E with
  | some b => some (.bl (!b), E)
  | none => none
def wUn (op : UnaryOp) (ca : Act W) : Act W := fun σ E => match op with
  | .USub => andThen (ca σ E) fun x E1 => lift (wNeg x E1)
  | .Not => andThen (ca σ E) fun x E1 => lift (wNot x E1)
  | _ => none
theorem pe_unG {a : Expr} {op : UnaryOp} {pos : Pos} {ca : Act W} (at' : X.K = M.K) (ha : PE X a (SE M W' ca)) : PE X (.UnaryOp op a pos) (SE M W' (wUn op ca)) := by
  cases op with
  | USub =>
    refine PE.imp (pe_un un_neg ha) (se_un (f := wNeg) fun {ι E E' H x z v Q} h R rx k => ?_)
    cases x <;> simp [wNeg] at h
    obtain ⟨rfl, rfl⟩ := h
    exact ⟨_, rx, k.now R rfl⟩
  | Not =>
    refine PE.imp (pe_notT ha) (se_un (f := wNot) (r := fun x H Q => ∃ k, TruV X.K x H k ∧ Q (.bl (!k)) H) fun {ι E E' H x z v Q} h R rx k => ?_)
    unfold wNot at h
    cases e : wTru x E with
    | none => rw [e] at h; cases h
    | some b =>
      rw [e] at h
      obtain ⟨rfl, rfl⟩ : (.bl (!b) : W) = z ∧ E = E' := by simpa using h
      exact ⟨b, by rw [at']; exact tru_okW e R rx, k.now R rfl⟩
  | Invert => exact pe_no fun _ _ => rfl
  | UAdd => exact pe_no fun _ _ => rfl
/-! ### comparisons -/
def wCmpA (op : CmpOp) (ca cb : Act W) : Act W := fun σ E => andThen (ca σ E) fun x E1 => andThen (cb σ E1) fun y E2 => lift ((wCmp op x y E2).map fun b => (.bl b, E2))
theorem map_bl {op : CmpOp} {x y z : W} {E E' : Hh} (h : ((wCmp op x y E).map fun b => ((.bl b : W), E)) = some (z, E')) : ∃ b, wCmp op x y E = some b ∧ z = .bl b ∧ E' = E := by
  cases e : wCmp op x y E with
  | none => rw [e] at h; cases h
  | some b =>
    rw [e] at h
    obtain ⟨rfl, rfl⟩ : (.bl b : W) = z ∧ E = E' := by simpa using h
    exact ⟨b, rfl, rfl, rfl⟩
theorem pe_cmpG {a b : Expr} {op : CmpOp} {pos : Pos} {ca cb : Act W} (at' : X.K = M.K) (hu : X.A.units + 65 < cLine) (hm : behindInMarks op b = false) (ha : PE X a (SE M W' ca)) (hb : PE X b (SE M W' cb)) :
    PE X (.Compare a [op] [b] pos) (SE M W' (wCmpA op ca cb)) :=
  PE.imp (pe_cmpR (op_cmpAll hu op) ha hb hm) (se_op (f := fun x y E => (wCmp op x y E).map fun b => (.bl b, E)) fun {ι E E' H x y z v u Q} h R rx ry k => by
    obtain ⟨b, e, rfl, rfl⟩ := map_bl h
    rw [at']
    exact cmp_ok e R rx ry k)
def wChain (op op' : CmpOp) (ca cb cc : Act W) : Act W := fun σ E => andThen (ca σ E) fun x E1 => andThen (cb σ E1) fun y E2 => match wCmp op x y E2 with
  | some true => andThen (cc σ E2) fun z E3 => lift ((wCmp op' y z E3).map fun b => (.bl b, E3))
  | some false => some (.ok (.bl false) E2)
  | none => none
theorem chain_ok {op op' : CmpOp} {ca cb cc : Act W} (at' : X.K = M.K) : ∀ (σ : L2.St) (H : Hp) (Q : VK), SE M W' (wChain op op' ca cb cc) σ H Q → tChain (rCmpAll X.K op) (rCmpAll X.K op') (SE M W' ca) (SE M W' cb) (SE M W' cc) σ H Q := fun σ H Q ⟨ι, E, σE, R, rs, h⟩ =>
  ⟨ι, E, σE, R, rs, h.bind.imp fun x E1 h1 => fun ι1 H1 v x1 R1 rx => ⟨ι1, E1, σE, R1, rs.ext x1, (h1.bind.ext x1).imp fun y E2 h2 => fun ι2 H2 u x2 R2 ry => by
    have xx := x1.trans x2
    cases e : wCmp op x y E2 with
    | none =>
      rw [e] at h2
      exact h2.none.elim
    | some b =>
      rw [e] at h2
      rw [at']
      refine cmp_ok e R2 (rx.ext x2) ry fun ι3 H3 z x3 R3 rz => ?_
      rw [show z = .bl b from rz]
      refine ⟨b, rfl, ?_⟩
      cases b with
      | true =>
        rw [if_pos rfl]
        refine ⟨ι3, E2, σE, R3, rs.ext (xx.trans x3), ((Rs.bind h2).ext (xx.trans x3)).imp fun z E3 h3 => fun ι4 H4 t x4 R4 rt => ?_⟩
        obtain ⟨w, E', e4, k⟩ := h3.lift
        obtain ⟨b', e5, rfl, rfl⟩ := map_bl e4
        exact cmp_ok e5 R4 ((ry.ext x3).ext x4) rt fun ι5 H5 t x5 => k ι5 H5 t (((xx.trans x3).trans x4).trans x5)
      | false =>
        rw [if_neg Bool.false_ne_true]
        exact h2.ok ι3 H3 (.bl false) (xx.trans x3) R3 rfl⟩⟩
theorem pe_chainG {a b c : Expr} {op op' : CmpOp} {pos : Pos} {ca cb cc : Act W} (at' : X.K = M.K) (hu : X.A.units + 65 < cLine) (hm : behindInMarks op' c = false) (ha : PE X a (SE M W' ca)) (hb : PE X b (SE M W' cb)) (hc : PE X c (SE M W' cc)) :
    PE X (.Compare a [op, op'] [b, c] pos) (SE M W' (wChain op op' ca cb cc)) :=
  PE.imp (pe_chain (op_cmpAll hu op) (op_cmpAll hu op') ha hb hc (by show behindInMarks op' c = false; exact hm)) (chain_ok at')
/-! ### as tests -/
def toT (ca : Act W) : Act Bool := fun σ E => andThen (ca σ E) fun x E1 => match x with
  | .bl b => some (.ok b E1)
  | _ => none
theorem st_test {ca : Act W} : ∀ (σ : L2.St) (H : Hp) (Q : Bool → Hp → Prop), ST M W' (toT ca) σ H Q → tTest (SE M W' ca) σ H Q := fun σ H Q ⟨ι, E, σE, R, rs, h⟩ =>
  ⟨ι, E, σE, R, rs, h.bind.imp fun x E1 h1 => fun ι1 H1 v x1 R1 rx => by
    cases x with
    | bl b =>
      rw [show v = .bl b from rx]
      exact ⟨b, rfl, h1.ok ι1 H1 x1 R1⟩
    | _ => exact h1.none.elim⟩
theorem tTest_mono {t t' : TE} (h : ∀ σ H Q, t σ H Q → t' σ H Q) : ∀ σ H Q, tTest t σ H Q → tTest t' σ H Q := fun σ H Q q => h σ H _ q
theorem pt_cmpG {a b : Expr} {op : CmpOp} {pos : Pos} {ca cb : Act W} (at' : X.K = M.K) (hu : X.A.units + 65 < cLine) (hm : behindInMarks op b = false) (ha : PE X a (SE M W' ca)) (hb : PE X b (SE M W' cb)) :
    PT X (.Compare a [op] [b] pos) (ST M W' (toT (wCmpA op ca cb))) :=
  PT.imp (pt_cmpR (op_cmpAll hu op) ha hb hm) fun σ H Q q => tTest_mono (se_op (f := fun x y E => (wCmp op x y E).map fun b => (.bl b, E)) fun {ι E E' H x y z v u Q} h R rx ry k => by
    obtain ⟨b, e, rfl, rfl⟩ := map_bl h
    rw [at']
    exact cmp_ok e R rx ry k) σ H Q (st_test σ H Q q)
theorem pt_chainG {a b c : Expr} {op op' : CmpOp} {pos : Pos} {ca cb cc : Act W} (at' : X.K = M.K) (hu : X.A.units + 65 < cLine) (hm : behindInMarks op' c = false) (ha : PE X a (SE M W' ca)) (hb : PE X b (SE M W' cb)) (hc : PE X c (SE M W' cc)) :
    PT X (.Compare a [op, op'] [b, c] pos) (ST M W' (toT (wChain op op' ca cb cc))) :=
  PT.imp (pt_chain (op_cmpAll hu op) (op_cmpAll hu op') ha hb hc (by show behindInMarks op' c = false; exact hm)) fun σ H Q q => tTest_mono (chain_ok at') σ H Q (st_test σ H Q q)
/-- by truth -/
def byTru (ca : Act W) : Act Bool := fun σ E => andThen (ca σ E) fun x E1 => match wTru x E1 with
  | some b => some (.ok b E1)
  | none => none
theorem pt_truG {a : Expr} {ca : Act W} (at' : X.K = M.K) (hp : plainTest a = true) (ha : PE X a (SE M W' ca)) : PT X a (ST M W' (byTru ca)) :=
  PT.imp (pt_truth ha (isTrue_value hp)) fun σ H Q ⟨ι, E, σE, R, rs, h⟩ => ⟨ι, E, σE, R, rs, h.bind.imp fun x E1 h1 => fun ι1 H1 v x1 R1 rx => by
    cases e : wTru x E1 with
    | none => rw [e] at h1; exact h1.none.elim
    | some b =>
      rw [e] at h1
      exact ⟨b, by rw [at']; exact tru_okW e R1 rx, h1.ok ι1 H1 x1 R1⟩⟩
def notT (ct : Act Bool) : Act Bool := fun σ E => andThen (ct σ E) fun b E1 => some (.ok (!b) E1)
theorem pt_notG {a : Expr} {pos : Pos} {ct : Act Bool} (ha : PT X a (ST M W' ct)) : PT X (.UnaryOp .Not a pos) (ST M W' (notT ct)) :=
  PT.imp (pt_not ha) fun σ H Q ⟨ι, E, σE, R, rs, h⟩ => ⟨ι, E, σE, R, rs, h.bind.imp fun b E1 h1 => fun ι1 H1 x1 R1 => h1.ok ι1 H1 x1 R1⟩
def isAnd : BoolOp → Bool
  | .And => true
  | .Or => false
def allT (op : BoolOp) (t : Expr → Act Bool) : List Expr → Act Bool
  | [] => fun _ _ => none
  | [a] => t a
  | a :: b :: rest => fun σ E => andThen (t a σ E) fun c E1 => if c = isAnd op then allT op t (b :: rest) σ E1 else some (.ok c E1)
theorem pw_all {op : BoolOp} {t : Expr → Act Bool} {pos : Pos} (h : ∀ e, PT X e (ST M W' (t e))) : ∀ es, PW X (.BoolOp op es pos) (ST M W' (allT op t es)) := by
  have imp : ∀ {e : Expr} {t t' : TT}, PW X e t → (∀ σ H Q, t' σ H Q → t σ H Q) → PW X e t' := fun h i => ⟨fun whole pins s σ H Q I q => h.run whole pins s σ H Q I (i σ H Q q)⟩
  intro es
  induction es with
  | nil => exact ⟨fun whole pins s σ H Q I ⟨ι, E, σE, R, rs, k⟩ => k.none.elim⟩
  | cons a r ih =>
    cases r with
    | nil => cases op with
      | And => exact pw_and1 (h a)
      | Or => exact pw_or1 (h a)
    | cons b rest =>
      cases op with
      | And =>
        refine imp (pw_and (h a) ih) fun σ H Q ⟨ι, E, σE, R, rs, k⟩ => ⟨ι, E, σE, R, rs, (Rs.bind k).imp fun c E1 h1 => fun ι1 H1 x1 R1 => ?_⟩
        cases c with
        | true =>
          rw [if_pos rfl]
          rw [if_pos (by rfl)] at h1
          exact ⟨ι1, E1, σE, R1, rs.ext x1, (h1.ext x1).imp fun b E2 g => fun ι2 H2 x2 => g ι2 H2 (x1.trans x2)⟩
        | false =>
          rw [if_neg Bool.false_ne_true]
          rw [if_neg (by decide)] at h1
          exact h1.ok ι1 H1 x1 R1
      | Or =>
        refine imp (pw_or (h a) ih) fun σ H Q ⟨ι, E, σE, R, rs, k⟩ => ⟨ι, E, σE, R, rs, (Rs.bind k).imp fun c E1 h1 => fun ι1 H1 x1 R1 => ?_⟩
        cases c with
        | true =>
          rw [if_pos rfl]
          rw [if_neg (by decide)] at h1
          exact h1.ok ι1 H1 x1 R1
        | false =>
          rw [if_neg Bool.false_ne_true]
          rw [if_pos (by rfl)] at h1
          exact ⟨ι1, E1, σE, R1, rs.ext x1, (h1.ext x1).imp fun b E2 g => fun ι2 H2 x2 => g ι2 H2 (x1.trans x2)⟩
/-- and, or as values -/
def allE (op : BoolOp) (ev : Expr → Act W) : List Expr → Act W
  | [] => fun _ _ => none
  | [a] => ev a
  | a :: b :: rest => fun σ E => andThen (ev a σ E) fun x E1 => match wTru x E1 with
    | some c => if c = isAnd op then allE op ev (b :: rest) σ E1 else some (.ok x E1)
    | none => none
theorem pe_all {op : BoolOp} {ev : Expr → Act W} {pos : Pos} (at' : X.K = M.K) (h : ∀ e, PE X e (SE M W' (ev e))) : ∀ es, PE X (.BoolOp op es pos) (SE M W' (allE op ev es)) := by
  intro es
  induction es with
  | nil => exact pe_no fun _ _ => rfl
  | cons a r ih =>
    cases r with
    | nil => exact pe_one (h a)
    | cons b rest =>
      have go : ∀ (σ : L2.St) (H : Hp) (Q : VK), SE M W' (allE op ev (a :: b :: rest)) σ H Q → SE M W' (ev a) σ H fun x H1 => ∃ k, TruV X.K x H1 k ∧ if k = isAnd op then SE M W' (allE op ev (b :: rest)) σ H1 Q else Q x H1 :=
        fun σ H Q ⟨ι, E, σE, R, rs, k⟩ => ⟨ι, E, σE, R, rs, (Rs.bind k).imp fun x E1 h1 => fun ι1 H1 v x1 R1 rx => by
          cases e : wTru x E1 with
          | none => rw [e] at h1; exact h1.none.elim
          | some c =>
            rw [e] at h1
            refine ⟨c, by rw [at']; exact tru_okW e R1 rx, ?_⟩
            by_cases hc : c = isAnd op
            · rw [if_pos hc]
              dsimp only at h1
              rw [if_pos hc] at h1
              exact ⟨ι1, E1, σE, R1, rs.ext x1, (h1.ext x1).imp fun b E2 g => fun ι2 H2 u x2 => g ι2 H2 u (x1.trans x2)⟩
            · rw [if_neg hc]
              dsimp only at h1
              rw [if_neg hc] at h1
              exact h1.ok ι1 H1 v x1 R1 rx⟩
      cases op with
      | And => exact PE.imp (pe_andT (h a) ih) fun σ H Q q => go σ H Q q
      | Or =>
        refine PE.imp (pe_orT (h a) ih) fun σ H Q q => ?_
        obtain ⟨ι, E, σE, R, rs, k⟩ := go σ H Q q
        refine ⟨ι, E, σE, R, rs, k.imp fun w E' g => fun ι1 H1 v x1 R1 rx => ?_⟩
        obtain ⟨k, t, q⟩ := g ι1 H1 v x1 R1 rx
        refine ⟨k, t, ?_⟩
        cases k with
        | true => rw [if_pos rfl]; rw [if_neg (by decide)] at q; exact q
        | false => rw [if_neg Bool.false_ne_true]; rw [if_pos (by rfl)] at q; exact q
def wIf (ct : Act Bool) (ca cb : Act W) : Act W := fun σ E => andThen (ct σ E) fun c E1 => if c = true then ca σ E1 else cb σ E1
theorem pe_ifG {c a b : Expr} {pos : Pos} {ct : Act Bool} {ca cb : Act W} (hc : PT X c (ST M W' ct)) (ha : PE X a (SE M W' ca)) (hb : PE X b (SE M W' cb)) : PE X (.IfExp c a b pos) (SE M W' (wIf ct ca cb)) :=
  PE.imp (pe_ifExp hc ha hb) fun σ H Q ⟨ι, E, σE, R, rs, k⟩ => ⟨ι, E, σE, R, rs, (Rs.bind k).imp fun c E1 h1 => fun ι1 H1 x1 R1 => by
    cases c with
    | true =>
      rw [if_pos rfl] at h1 ⊢
      exact ⟨ι1, E1, σE, R1, rs.ext x1, (h1.ext x1).imp fun b E2 g => fun ι2 H2 u x2 => g ι2 H2 u (x1.trans x2)⟩
    | false =>
      rw [if_neg Bool.false_ne_true] at h1 ⊢
      exact ⟨ι1, E1, σE, R1, rs.ext x1, (h1.ext x1).imp fun b E2 g => fun ι2 H2 u x2 => g ι2 H2 u (x1.trans x2)⟩⟩
end G

set_option Elab.async false
set_option linter.all false
set_option maxRecDepth 100000
set_option maxHeartbeats 4000000
namespace G
open PySem L2 PySem.Spec PyProof.Rows
variable {M : Md} {H H' H1 H2 : Hp} {ι ι' ι1 ι2 : List Addr} {X : Cx} {W' : WX}

/-! ### x[i] -/
theorem RelWs.atI {ws : List W} {vs : List V} {i : Int} {w : W} (r : RelWs M H ι ws vs) (h : L2.atI ws i = some w) : ∃ v, L2.atI vs i = some v ∧ RelW M H ι w v := by
  unfold L2.atI at h ⊢
  rw [← r.length]
  cases e : ixN ws.length i with
  | none => rw [e] at h; cases h
  | some j =>
    rw [e] at h
    exact r.get (i := j) h
def ixSeq (E : Hh) (x y : W) : Option W := match y with
  | .int i => match x with
    | .str s => if s.length ≤ big then (L2.atI s.cps.toList i).map fun c => .str ⟨#[c]⟩ else none
    | x => match seqOf E x with
      | some ws => L2.atI ws i
      | none => none
  | _ => none
def wIx (x y : W) (E : Hh) : Option (W × Hh) := match lkD E x y with
  | some (some w) => some (w, E)
  | some none => none
  | none => match ixSeq E x y with
    | some w => some (w, E)
    | none => none
def rIxD : R2 := fun x y H Q => ∃ a v, x = .ref a ∧ DGet H a y (some v) ∧ Q v H
theorem ix_dict (hu : X.A.units + 1 < cLine) : IxR X rIxD := by
  intro value slice pins s σ H x y v u Q I rx ry h hs
  obtain ⟨a, w, rfl, g, q⟩ := h
  obtain rfl : v = Value.ref a := rx
  exact tail_any (dict_typeIs I g) PySem.F.slot_dict_getitem.lookup (d_getItem hu I g ry fun w' s3 I3 rw' => ⟨w, H, I3, rw', q⟩) hs
def rIxAll (K : PySem.W.Frag) : R2 := fun x y H Q => rIxD x y H Q ∨ rIx K x y H Q
theorem ix_all (hu : X.A.units + 1 < cLine) : IxR X (rIxAll X.K) := (ix_dict hu).or ix_seq
theorem ixSeq_ok {E : Hh} {x y w : W} {v u : V} {Q : VK} (h : ixSeq E x y = some w) (R : Rel M ι E H) (rx : RelW M H ι x v) (ry : RelW M H ι y u) (k : Fin M ι H w E Q) : rIx M.K v u H Q := by
  cases y with
  | int i =>
    have hs : ∀ ws, seqOf E x = some ws → L2.atI ws i = some w → rIx M.K v u H Q := fun ws e h => by
      obtain ⟨a, vs, rfl, hq, rws⟩ := seq_ok R e rx
      obtain ⟨z, e2, rz⟩ := rws.atI h
      rcases hq with hq | hq
      · exact .inl ⟨a, vs, i, z, rfl, ry, hq, e2, k.now R rz⟩
      · exact .inr (.inl ⟨a, vs, i, z, rfl, ry, hq, e2, k.now R rz⟩)
    have go : (match seqOf E x with
        | some ws => L2.atI ws i
        | none => none) = some w → rIx M.K v u H Q := fun h => by
      cases e : seqOf E x with
      | none => rw [e] at h; cases h
      | some ws => rw [e] at h; exact hs ws e h
    cases x with
    | str s =>
      have h : (if s.length ≤ big then (L2.atI s.cps.toList i).map fun c => (.str ⟨#[c]⟩ : W) else none) = some w := h
      split at h
      · rename_i hl
        cases e : L2.atI s.cps.toList i with
        | none => rw [e] at h; cases h
        | some c =>
          rw [e] at h
          obtain rfl : (.str ⟨#[c]⟩ : W) = w := Option.some.inj h
          exact .inr (.inr ⟨s, i, c, rx, ry, big_le hl, e, k.now R rfl⟩)
      · cases h
    | non => exact go h
    | bl b => exact go h
    | int b => exact go h
    | tup ws => exact go h
    | ref b => exact go h
    | fn b => exact go h
    | ty b => exact go h
  | _ => cases h
theorem ix_ok {E E' : Hh} {x y z : W} {v u : V} {Q : VK} (h : wIx x y E = some (z, E')) (R : Rel M ι E H) (rx : RelW M H ι x v) (ry : RelW M H ι y u) (k : Fin M ι H z E' Q) : rIxAll M.K v u H Q := by
  unfold wIx at h
  cases e : lkD E x y with
  | some o =>
    rw [e] at h
    cases o with
    | none => cases h
    | some w =>
      obtain ⟨rfl, rfl⟩ : w = z ∧ E = E' := by simpa using h
      obtain ⟨a, rfl, _, ov, g, h1, _⟩ := lkD_ok R e rx ry
      obtain ⟨t, rfl, rt⟩ := h1 w rfl
      exact .inl ⟨a, t, rfl, g, k.now R rt⟩
  | none =>
    rw [e] at h
    dsimp only at h
    cases e2 : ixSeq E x y with
    | none => rw [e2] at h; cases h
    | some w =>
      rw [e2] at h
      obtain ⟨rfl, rfl⟩ : w = z ∧ E = E' := by simpa using h
      exact .inr (ixSeq_ok e2 R rx ry k)
def wIxA (ca cb : Act W) : Act W := fun σ E => andThen (ca σ E) fun x E1 => andThen (cb σ E1) fun y E2 => lift (wIx x y E2)
theorem pe_ixG {a b : Expr} {pos : Pos} {ca cb : Act W} (at' : X.K = M.K) (hu : X.A.units + 1 < cLine) (hp : plainIx b = true) (ha : PE X a (SE M W' ca)) (hb : PE X b (SE M W' cb)) : PE X (.Subscript a b pos) (SE M W' (wIxA ca cb)) :=
  PE.imp (pe_ix (ix_all hu) ha hb (plainIx_ok hp)) (by rw [at']; exact se_op ix_ok)

/-! ### slices -/
def cutW (xs : List W) (lo hi : Option Int) : List W := (xs.drop (HT.sIx xs.length 0 lo)).take (HT.sIx xs.length xs.length hi - HT.sIx xs.length 0 lo)
theorem RelWs.cut {ws : List W} {vs : List V} (r : RelWs M H ι ws vs) (lo hi : Option Int) : RelWs M H ι (cutW ws lo hi) (cutV vs lo hi) := by
  unfold cutW cutV
  rw [r.length]
  exact (r.drop _).take _
def SO (M : Md) (W' : WX) (c : Act (Option Int)) : TO := fun σ H Q => ∃ ι E σE, Rel M ι E H ∧ RelS M H ι σE σ ∧ Rs M W' ι σ H (c σE E) fun b E' => ∀ ι' H', Ext M ι H ι' H' → Rel M ι' E' H' → Q b H'
theorem PO.imp {e : Option Expr} {t t' : TO} (h : PO X e t) (i : ∀ σ H Q, t' σ H Q → t σ H Q) : PO X e t' := ⟨fun pins s σ H Q I q => h.run pins s σ H Q I (i σ H Q q)⟩
def wPart (ev : Expr → Act W) : Option Expr → Act (Option Int)
  | none => fun _ E => some (.ok none E)
  | some e => fun σ E => andThen (ev e σ E) fun x E1 => match x with
    | .int i => some (.ok (some i) E1)
    | _ => none
theorem po_part {ev : Expr → Act W} (h : ∀ e, PE X e (SE M W' (ev e))) : ∀ o, PO X o (SO M W' (wPart ev o))
  | none => PO.imp po_none fun σ H Q ⟨ι, E, σE, R, rs, k⟩ => k.ok ι H (Ext.refl _ _) R
  | some e => PO.imp (po_some (h e)) fun σ H Q ⟨ι, E, σE, R, rs, k⟩ => ⟨ι, E, σE, R, rs, (Rs.bind k).imp fun x E1 h1 => fun ι1 H1 v x1 R1 rx => by
    cases x with
    | int i =>
      rw [show v = .int i from rx]
      exact ⟨i, rfl, h1.ok ι1 H1 x1 R1⟩
    | _ => exact h1.none.elim⟩
theorem seq_ref {E : Hh} (R : Rel M ι E H) {i : Nat} {ws : List W} {v : V} (h : seqOf E (.ref i) = some ws) (r : RelW M H ι (.ref i) v) : ∃ a vs, v = .ref a ∧ SqL M.K H a vs ∧ RelWs M H ι ws vs := by
  obtain ⟨a, ha, rfl⟩ := r
  unfold seqOf at h; dsimp only at h
  cases he : (E : List O)[i]? with
  | none => simp [he] at h
  | some o =>
    have ro := R.at he ha
    rw [he] at h
    cases o with
    | lst xs =>
      obtain rfl : xs = ws := Option.some.inj h
      obtain ⟨vs, h1, h2⟩ := ro
      exact ⟨a, vs, rfl, SqL.of h1, h2⟩
    | slst xs =>
      obtain rfl : xs = ws := Option.some.inj h
      obtain ⟨vs, h1, h2⟩ := ro
      exact ⟨a, vs, rfl, h1.sq, h2⟩
    | dK kvs => cases h
    | dN kvs => cases h
    | sdN kvs => cases h
    | sdK kvs => cases h
    | exc b => cases h
    | cup b => cases h
    | txs b => cases h
def wSlV (x : W) (lo hi : Option Int) (E : Hh) : Option (W × Hh) := match x with
  | .tup ws => some (.tup (cutW ws lo hi), E)
  | .str s => if s.length ≤ big then some (.str (cutS s lo hi), E) else none
  | x => match seqOf E x with
    | some ws => some (.ref E.length, E ++ [.lst (cutW ws lo hi)])
    | none => none
def rSlAll (K : PySem.W.Frag) : V → Option Int → Option Int → Hp → VK → Prop := fun x lo hi H Q => rSlL K x lo hi H Q ∨ (rSlA K x lo hi H Q ∨ rSlS x lo hi H Q)
theorem sl_all : SlR X (rSlAll X.K) := sl_list.or (sl_tupA.or sl_str)
theorem cutW_whole {ws : List W} {lo hi : Option Int} (h : HT.sIx ws.length 0 lo = 0 ∧ HT.sIx ws.length ws.length hi = ws.length) : cutW ws lo hi = ws := by
  unfold cutW
  rw [h.1, h.2]
  simp
theorem slV_ok {E E' : Hh} {x z : W} {lo hi : Option Int} {v : V} {Q : VK} (h : wSlV x lo hi E = some (z, E')) (R : Rel M ι E H) (rx : RelW M H ι x v) (k : Fin M ι H z E' Q) : rSlAll M.K v lo hi H Q := by
  have go : ∀ i : Nat, x = .ref i → rSlAll M.K v lo hi H Q := fun i ex => by
    subst ex
    have h : (match seqOf E (.ref i) with
      | some ws => some ((.ref E.length : W), E ++ [.lst (cutW ws lo hi)])
      | none => none) = some (z, E') := h
    cases e : seqOf E (.ref i) with
    | none => rw [e] at h; cases h
    | some ws =>
      rw [e] at h
      obtain ⟨rfl, rfl⟩ : (.ref E.length : W) = z ∧ E ++ [.lst (cutW ws lo hi)] = E' := by simpa using h
      obtain ⟨a, vs, rfl, hq, rws⟩ := seq_ref R e rx
      exact .inl ⟨a, vs, rfl, hq, k.lst R (rws.cut lo hi)⟩
  cases x with
  | tup ws =>
    obtain ⟨rfl, rfl⟩ : (.tup (cutW ws lo hi) : W) = z ∧ E = E' := by
      have h : some ((.tup (cutW ws lo hi) : W), E) = some (z, E') := h
      simpa using h
    obtain ⟨a, vs, rfl, ht, rws⟩ := rx
    refine .inr (.inl ⟨a, vs, rfl, ht, fun hw => ?_, fun _ => k.tup R (rws.cut lo hi)⟩)
    rw [← rws.length] at hw
    rw [cutW_whole hw] at k
    exact k.now R ⟨a, vs, rfl, ht, rws⟩
  | str s =>
    have h : (if s.length ≤ big then some ((.str (cutS s lo hi) : W), E) else none) = some (z, E') := h
    split at h
    · rename_i hl
      obtain ⟨rfl, rfl⟩ : (.str (cutS s lo hi) : W) = z ∧ E = E' := by simpa using h
      exact .inr (.inr ⟨s, rx, big_le hl, k.now R rfl⟩)
    · cases h
  | ref i => exact go i rfl
  | _ => cases h
def wSl (ca : Act W) (cl ch : Act (Option Int)) : Act W := fun σ E => andThen (ca σ E) fun x E1 => andThen (cl σ E1) fun lo E2 => andThen (ch σ E2) fun hi E3 => lift (wSlV x lo hi E3)
theorem pe_slG {a : Expr} {lo hi : Option Expr} {pos p2 : Pos} {ca : Act W} {cl ch : Act (Option Int)} (at' : X.K = M.K) (ha : PE X a (SE M W' ca)) (hl : PO X lo (SO M W' cl)) (hh : PO X hi (SO M W' ch)) :
    PE X (.Subscript a (.Slice lo hi none p2) pos) (SE M W' (wSl ca cl ch)) :=
  PE.imp (pe_slice sl_all ha hl hh) fun σ H Q ⟨ι, E, σE, R, rs, k⟩ => ⟨ι, E, σE, R, rs, (Rs.bind k).imp fun x E1 h1 => fun ι1 H1 v x1 R1 rx => ⟨ι1, E1, σE, R1, rs.ext x1, (h1.bind.ext x1).imp fun l E2 h2 => fun ι2 H2 x2 R2 =>
    ⟨ι2, E2, σE, R2, rs.ext (x1.trans x2), (h2.bind.ext (x1.trans x2)).imp fun u E3 h3 => fun ι3 H3 x3 R3 => by
      obtain ⟨w, E', e, g⟩ := h3.lift
      rw [at']
      exact slV_ok e R3 ((rx.ext x2).ext x3) fun ι4 H4 t x4 => g ι4 H4 t (((x1.trans x2).trans x3).trans x4)⟩⟩⟩
theorem RelWs.reverse : ∀ {ws : List W} {vs : List V}, RelWs M H ι ws vs → RelWs M H ι ws.reverse vs.reverse
  | [], vs, h => by rw [show vs = [] from h]; exact rfl
  | w :: ws, vs, h => by
    obtain ⟨v, r, rfl, h1, h2⟩ := h
    rw [List.reverse_cons, List.reverse_cons]
    exact h2.reverse.append ⟨v, [], rfl, h1, rfl⟩
def wRevV (x : W) (E : Hh) : Option (W × Hh) := match x with
  | .ref i => match seqOf E (.ref i) with
    | some ws => some (.ref E.length, E ++ [.lst ws.reverse])
    | none => none
  | _ => none
def wRev (ca : Act W) : Act W := fun σ E => andThen (ca σ E) fun x E1 => lift (wRevV x E1)
theorem pe_revG {a : Expr} {k : Nat} {p1 p2 p3 pos : Pos} {ca : Act W} (at' : X.K = M.K) (ha : PE X a (SE M W' ca)) : PE X (.Subscript a (.Slice none none (some (.UnaryOp .USub (.Constant (.int 1) k p1) p2)) p3) pos) (SE M W' (wRev ca)) :=
  PE.imp (pe_revL ha) (se_un (f := wRevV) (r := fun x H Q => ∃ a xs, x = .ref a ∧ SqL X.K H a xs ∧ ∀ p, H p = none → Q (.ref p) (upd H p (.lst xs.reverse))) fun {ι E E' H x z v Q} h R rx k => by
    cases x with
    | ref i =>
      have h : (match seqOf E (.ref i) with
        | some ws => some ((.ref E.length : W), E ++ [.lst ws.reverse])
        | none => none) = some (z, E') := h
      cases e : seqOf E (.ref i) with
      | none => rw [e] at h; cases h
      | some ws =>
        rw [e] at h
        obtain ⟨rfl, rfl⟩ : (.ref E.length : W) = z ∧ E ++ [.lst ws.reverse] = E' := by simpa using h
        obtain ⟨a, vs, rfl, hq, rws⟩ := seq_ref R e rx
        exact ⟨a, vs, rfl, by rw [at']; exact hq, k.lst R rws.reverse⟩
    | _ => cases h)

/-! ### calls -/
def wBiA (f : Bi) (ca : Act (List W)) : Act W := fun σ E => andThen (ca σ E) fun ws E1 => lift (wBi f ws E1)
/-- of what is built in: x names it, and no name of the module hides it -/
theorem pe_biG {x : Str} {p pos : Pos} {f : Bi} {e : Expr} {es : List Expr} {ca : Act (List W)} (at' : X.K = M.K) (hc : X.calm = true) (hb : biOf x = some f) (hg : Gl X x) (hm : X.mg x = none) (hp : (e :: es).all plainArg = true) (ha : PA X (e :: es) (SA M W' ca)) :
    PE X (.Call (.Name x p) (e :: es) [] pos) (SE M W' (wBiA f ca)) := by
  rw [List.all_cons, Bool.and_eq_true] at hp
  have t : ∀ (σ : L2.St) (H : Hp) (Q : VK), SE M W' (wBiA f ca) σ H Q → tCB (rBi X.K f) (SA M W' ca) σ H Q := fun σ H Q ⟨ι, E, σE, R, rs, k⟩ => ⟨ι, E, σE, R, rs, (Rs.bind k).imp fun ws E1 h1 => fun ι1 H1 vs x1 R1 rws => by
    obtain ⟨w, E', e, g⟩ := h1.lift
    rw [at']
    exact bi_ok e R1 rws fun ι2 H2 u x2 => g ι2 H2 u (x1.trans x2)⟩
  have ex : x = "len" ∧ f = .len ∨ x = "isinstance" ∧ f = .isi ∨ x = "all" ∧ f = .all ∨ x = "any" ∧ f = .any ∨ x = "sum" ∧ f = .sum ∨ x = "abs" ∧ f = .abs ∨ x = "int" ∧ f = .int ∨ x = "list" ∧ f = .list ∨ x = "tuple" ∧ f = .tuple := by
    unfold biOf at hb
    repeat' split at hb
    all_goals first | (cases hb; done) | (obtain rfl := Option.some.inj hb; simp [*])
  have cr := cr_bi hc f
  rcases ex with ⟨rfl, rfl⟩ | ⟨rfl, rfl⟩ | ⟨rfl, rfl⟩ | ⟨rfl, rfl⟩ | ⟨rfl, rfl⟩ | ⟨rfl, rfl⟩ | ⟨rfl, rfl⟩ | ⟨rfl, rfl⟩ | ⟨rfl, rfl⟩
  · exact PE.imp (pe_callB cr hg hm PySem.boot_len ha (by decide +kernel) (by decide +kernel) (starEach_cons hp.1) (starEach_plain hp.2)) t
  · exact PE.imp (pe_callB cr hg hm (by decide +kernel) ha (by decide +kernel) (by decide +kernel) (starEach_cons hp.1) (starEach_plain hp.2)) t
  · exact PE.imp (pe_callB cr hg hm (by decide +kernel) ha (by decide +kernel) (by decide +kernel) (starEach_cons hp.1) (starEach_plain hp.2)) t
  · exact PE.imp (pe_callB cr hg hm (by decide +kernel) ha (by decide +kernel) (by decide +kernel) (starEach_cons hp.1) (starEach_plain hp.2)) t
  · exact PE.imp (pe_callB cr hg hm (by decide +kernel) ha (by decide +kernel) (by decide +kernel) (starEach_cons hp.1) (starEach_plain hp.2)) t
  · exact PE.imp (pe_callB cr hg hm (by decide +kernel) ha (by decide +kernel) (by decide +kernel) (starEach_cons hp.1) (starEach_plain hp.2)) t
  · exact PE.imp (pe_callTy cr hg hm (by decide +kernel) ha (by decide +kernel) (by decide +kernel) (starEach_cons hp.1) (starEach_plain hp.2)) t
  · exact PE.imp (pe_callTy cr hg hm (by decide +kernel) ha (by decide +kernel) (by decide +kernel) (starEach_cons hp.1) (starEach_plain hp.2)) t
  · exact PE.imp (pe_callTy cr hg hm (by decide +kernel) ha (by decide +kernel) (by decide +kernel) (starEach_cons hp.1) (starEach_plain hp.2)) t
/-- a name of what is built in, as a value: a class -/
def tyOfN (x : Str) : Option String := if x = "int" then some "int" else if x = "bool" then some "bool" else if x = "str" then some "str" else if x = "tuple" then some "tuple" else if x = "list" then some "list" else none
theorem pe_tyG {x : Str} {n : String} {pos : Pos} (hb : tyOfN x = some n) (hg : Gl X x) (hm : X.mg x = none) : PE X (.Name x pos) (SE M W' fun _ E => some (.ok (.ty n) E)) := by
  have ex : x = "int" ∧ n = "int" ∨ x = "bool" ∧ n = "bool" ∨ x = "str" ∧ n = "str" ∨ x = "tuple" ∧ n = "tuple" ∨ x = "list" ∧ n = "list" := by
    unfold tyOfN at hb
    repeat' split at hb
    all_goals first | (cases hb; done) | (obtain rfl := Option.some.inj hb; simp [*])
  rcases ex with ⟨rfl, rfl⟩ | ⟨rfl, rfl⟩ | ⟨rfl, rfl⟩ | ⟨rfl, rfl⟩ | ⟨rfl, rfl⟩
  all_goals exact PE.imp (pe_bltn (u := .type _) hg hm (by decide +kernel) (show L2.RelV (.ty _) (.type _) from rfl) (by decide +kernel) (by decide +kernel)) fun σ H Q ⟨ι, E, σE, R, rs, k⟩ => k.ok.now R rfl
/-! ### defs of the module -/
/-- a def's promise: it comes to what the act tells -/
def spOf (M : Md) (c : List W → Hh → Option (Rz W)) : Sp := fun vs H Q Ex => ∃ ι E ws, Rel M ι E H ∧ RelWs M H ι ws vs ∧
  ((∃ w E', c ws E = some (.ok w E') ∧ Fin M ι H w E' Q) ∨ ∃ x E', c ws E = some (.ex x E') ∧ ∀ ι' H', Ext M ι H ι' H' → Rel M ι' E' H' → ∃ C, M.mg x = some (.ref C) ∧ Ex (.ref C) none H')
/-- the defs that can be called here -/
structure Has (M : Md) (P : Pg) (X : Cx) : Prop where
  fn : ∀ x, P.has x = true → ∃ k f fd ps, FnOk X.prog X.w X.K X.mg X.base (L2N.CX X.prog X.w) k f fd ps (spOf M (P.call x)) ∧ Room k X.A ∧ X.mg x = some (.ref f) ∧ PySem.W.keepIn X.K (.ref f) = true ∧ Binds X.K fd ps [] ∧ (x == ("__debug__" : Str)) = false
def wCall (P : Pg) (x : Str) (ca : Act (List W)) : Act W := fun σ E => if P.has x = true then andThen (ca σ E) fun ws E1 => P.call x ws E1 else none
theorem pe_callG {P : Pg} {x : Str} {p pos : Pos} {e : Expr} {es : List Expr} {ca : Act (List W)} (tk : L2N.Takes X W') (hs : Has M P X) (hg : Gl X x) (hp : (e :: es).all plainArg = true) (ha : PA X (e :: es) (SA M W' ca)) :
    PE X (.Call (.Name x p) (e :: es) [] pos) (SE M W' (wCall P x ca)) := by
  rw [List.all_cons, Bool.and_eq_true] at hp
  by_cases hx : P.has x = true
  · obtain ⟨k, f, fd, ps, F, hr, hm, hk, hb, hd⟩ := hs.fn x hx
    refine PE.imp (pe_callS F hr hg hm hk hb (fun σ => L2N.passAt tk σ) ha hd (starEach_cons hp.1) (starEach_plain hp.2)) fun σ H Q ⟨ι, E, σE, R, rs, k⟩ => ?_
    unfold wCall at k
    rw [if_pos hx] at k
    refine ⟨ι, E, σE, R, rs, (Rs.bind k).imp fun ws E1 h1 => fun ι1 H1 vs x1 R1 rws => ⟨ι1, E1, ws, R1, rws, ?_⟩⟩
    rcases h1 with ⟨w, E', e, g⟩ | ⟨y, E', e, g⟩
    · exact .inl ⟨w, E', e, fun ι2 H2 u x2 => g ι2 H2 u (x1.trans x2)⟩
    · exact .inr ⟨y, E', e, fun ι2 H2 x2 => g ι2 H2 (x1.trans x2)⟩
  · exact pe_no fun σ E => by unfold wCall; rw [if_neg hx]
end G

set_option Elab.async false
set_option linter.all false
set_option maxRecDepth 100000
set_option maxHeartbeats 4000000
namespace G
open PySem L2 PySem.Spec PyProof.Rows
variable {M : Md} {H H' H1 H2 : Hp} {ι ι' ι1 ι2 : List Addr} {X : Cx} {W' : WX}

/-! ### statements -/
/-- how a block ends -/
inductive Fl where
  | nx (σ : Sg) | rt (w : W) | bk (σ : Sg) | ct (σ : Sg)
  deriving Inhabited
abbrev ActS := Sg → Hh → Option (Rz Fl)
def Good (M : Md) (D : Ends) (ι : List Addr) (H : Hp) (f : Fl) (E' : Hh) : Prop := ∀ ι' H', Ext M ι H ι' H' → Rel M ι' E' H' → match f with
  | .nx σ1 => ∀ σ', RelS M H' ι' σ1 σ' → D.nx σ' H'
  | .rt w => ∀ v, RelW M H' ι' w v → D.rt v H'
  | .bk σ1 => ∀ σ', RelS M H' ι' σ1 σ' → D.bk σ' H'
  | .ct σ1 => ∀ σ', RelS M H' ι' σ1 σ' → D.ct σ' H'
theorem Good.ext {D : Ends} {f : Fl} {E' : Hh} (h : Good M D ι H f E') (x : Ext M ι H ι1 H1) : Good M D ι1 H1 f E' := fun ι' H' x' R => h ι' H' (x.trans x') R
def SS (M : Md) (W' : WX) (c : ActS) : TS := fun D σ H => ∃ ι E σE, Rel M ι E H ∧ RelS M H ι σE σ ∧ Rs M W' ι σ H (c σE E) fun f E' => Good M D ι H f E'
theorem PS.imp {st : Stmt} {t t' : TS} (h : PS X st t) (i : ∀ D σ H, t' D σ H → t D σ H) : PS X st t' := ⟨fun pins s σ H D I q => h.run pins s σ H D I (i D σ H q)⟩
theorem PSs.imp {st : List Stmt} {t t' : TS} (h : PSs X st t) (i : ∀ D σ H, t' D σ H → t D σ H) : PSs X st t' := ⟨fun pins s σ H D I q => h.run pins s σ H D I (i D σ H q)⟩
theorem PG.imp {e : Expr} {t t' : TG} (h : PG X e t) (i : ∀ v σ H Q, t' v σ H Q → t v σ H Q) : PG X e t' := ⟨fun pins s σ H v u Q I r q => h.run pins s σ H v u Q I r (i v σ H Q q)⟩
theorem PGs.imp {e : List Expr} {t t' : TGs} (h : PGs X e t) (i : ∀ v σ H Q, t' v σ H Q → t v σ H Q) : PGs X e t' := ⟨fun pins s σ H v u Q I r q => h.run pins s σ H v u Q I r (i v σ H Q q)⟩
theorem ps_no {st : Stmt} {c : ActS} (h : ∀ σ E, c σ E = none) : PS X st (SS M W' c) := ⟨fun pins s σ H Q I ⟨ι, E, σE, _, _, q⟩ => by
  rw [h] at q
  exact q.none.elim⟩
theorem pss_no {st : List Stmt} {c : ActS} (h : ∀ σ E, c σ E = none) : PSs X st (SS M W' c) := ⟨fun pins s σ H Q I ⟨ι, E, σE, _, _, q⟩ => by
  rw [h] at q
  exact q.none.elim⟩
/-- what is wanted of an error does not hang on the slots -/
def Wind (W' : WX) : Prop := ∀ c d σ σ' H, W' c d σ H → W' c d σ' H
theorem Exd.slots {σ σ' : L2.St} {x : Str} {E' : Hh} (hW : Wind W') (h : Exd M W' ι σ H x E') : Exd M W' ι σ' H x E' := fun ι' H' x' R => by
  obtain ⟨C, e, w⟩ := h ι' H' x' R
  exact ⟨C, e, hW _ _ _ _ _ w⟩
theorem Rs.slots {α : Type} {σ σ' : L2.St} {o : Option (Rz α)} {G : α → Hh → Prop} (hW : Wind W') (h : Rs M W' ι σ H o G) : Rs M W' ι σ' H o G := by
  rcases h with h | ⟨x, E', e, g⟩
  · exact .inl h
  · exact .inr ⟨x, E', e, g.slots hW⟩
/-- one statement, then others -/
def seqS (c d : ActS) : ActS := fun σ E => andThen (c σ E) fun f E1 => match f with
  | .nx σ1 => d σ1 E1
  | f => some (.ok f E1)
theorem pss_consG {st : Stmt} {rest : List Stmt} {c d : ActS} (hW : Wind W') (h1 : PS X st (SS M W' c)) (h2 : PSs X rest (SS M W' d)) : PSs X (st :: rest) (SS M W' (seqS c d)) :=
  PSs.imp (pss_cons h1 h2) fun D σ H ⟨ι, E, σE, R, rs, k⟩ => ⟨ι, E, σE, R, rs, (Rs.bind k).imp fun f E1 h1 => fun ι1 H1 x1 R1 => by
    cases f with
    | nx σ1 => exact fun σ' rs1 => ⟨ι1, E1, σ1, R1, rs1, ((h1.ext x1).slots hW).imp fun f E2 g => g.ext x1⟩
    | rt w => exact h1.ok ι1 H1 x1 R1
    | bk σ1 => exact h1.ok ι1 H1 x1 R1
    | ct σ1 => exact h1.ok ι1 H1 x1 R1⟩
def nilS : ActS := fun σ E => some (.ok (.nx σ) E)
theorem pss_nilG : PSs X [] (SS M W' nilS) := PSs.imp pss_nil fun D σ H ⟨ι, E, σE, R, rs, k⟩ => k.ok ι H (Ext.refl _ _) R σ rs
theorem ps_passG {pos : Pos} : PS X (.Pass pos) (SS M W' nilS) := PS.imp ps_pass fun D σ H ⟨ι, E, σE, R, rs, k⟩ => k.ok ι H (Ext.refl _ _) R σ rs
theorem ps_breakG {pos : Pos} : PS X (.Break pos) (SS M W' fun σ E => some (.ok (.bk σ) E)) := PS.imp ps_break fun D σ H ⟨ι, E, σE, R, rs, k⟩ => k.ok ι H (Ext.refl _ _) R σ rs
theorem ps_contG {pos : Pos} : PS X (.Continue pos) (SS M W' fun σ E => some (.ok (.ct σ) E)) := PS.imp ps_continue fun D σ H ⟨ι, E, σE, R, rs, k⟩ => k.ok ι H (Ext.refl _ _) R σ rs
def retS (ca : Act W) : ActS := fun σ E => andThen (ca σ E) fun w E1 => some (.ok (.rt w) E1)
theorem ps_retG {e : Expr} {pos : Pos} {ca : Act W} (h : PE X e (SE M W' ca)) : PS X (.Return (some e) pos) (SS M W' (retS ca)) :=
  PS.imp (ps_ret h) fun D σ H ⟨ι, E, σE, R, rs, k⟩ => ⟨ι, E, σE, R, rs, (Rs.bind k).imp fun w E1 h1 => fun ι1 H1 v x1 R1 rv => h1.ok ι1 H1 x1 R1 v rv⟩
theorem ps_retNG {pos : Pos} : PS X (.Return none pos) (SS M W' fun _ E => some (.ok (.rt .non) E)) := PS.imp ps_retN fun D σ H ⟨ι, E, σE, R, rs, k⟩ => k.ok ι H (Ext.refl _ _) R .non rfl
def plainDrop : Expr → Bool
  | .ListComp _ _ _ _ => false
  | .SetComp _ _ _ _ => false
  | .DictComp _ _ _ _ _ => false
  | _ => true
theorem swaps_none {e : Expr} {o : Option Expr} {l : Nat} {env : Env} (h : plainDrop e = true) : swapsWith e o l env = pure false := by
  cases e <;> first | rfl | cases h
def dropS (ca : Act W) : ActS := fun σ E => andThen (ca σ E) fun _ E1 => some (.ok (.nx σ) E1)
theorem ps_exprG {e : Expr} {pos : Pos} {ca : Act W} (hp : plainDrop e = true) (h : PE X e (SE M W' ca)) : PS X (.Expr e pos) (SS M W' (dropS ca)) :=
  PS.imp (ps_expr h (swaps_none hp)) fun D σ H ⟨ι, E, σE, R, rs, k⟩ => ⟨ι, E, σE, R, rs, (Rs.bind k).imp fun w E1 h1 => fun ι1 H1 v x1 R1 rv => h1.ok ι1 H1 x1 R1 σ (rs.ext x1)⟩
def ifS (ct : Act Bool) (c d : ActS) : ActS := fun σ E => andThen (ct σ E) fun b E1 => if b = true then c σ E1 else d σ E1
theorem ps_ifSG {e : Expr} {a b : List Stmt} {pos : Pos} {ct : Act Bool} {c d : ActS} (h : PT X e (ST M W' ct)) (h1 : PSs X a (SS M W' c)) (h2 : PSs X b (SS M W' d)) : PS X (.If e a b pos) (SS M W' (ifS ct c d)) :=
  PS.imp (ps_if h h1 h2) fun D σ H ⟨ι, E, σE, R, rs, k⟩ => ⟨ι, E, σE, R, rs, (Rs.bind k).imp fun b E1 h1 => fun ι1 H1 x1 R1 => by
    cases b with
    | true =>
      rw [if_pos rfl] at h1 ⊢
      exact ⟨ι1, E1, σE, R1, rs.ext x1, (h1.ext x1).imp fun f E2 g => g.ext x1⟩
    | false =>
      rw [if_neg Bool.false_ne_true] at h1 ⊢
      exact ⟨ι1, E1, σE, R1, rs.ext x1, (h1.ext x1).imp fun f E2 g => g.ext x1⟩⟩
/-! ### targets -/
abbrev ActG := W → Sg → Hh → Option (Rz Sg)
abbrev ActGs := List W → Sg → Hh → Option (Rz Sg)
def SG (M : Md) (W' : WX) (c : ActG) : TG := fun v σ H Q => ∃ ι E σE w, Rel M ι E H ∧ RelS M H ι σE σ ∧ RelW M H ι w v ∧ Rs M W' ι σ H (c w σE E) fun σ1 E' => ∀ ι' H' σ', Ext M ι H ι' H' → Rel M ι' E' H' → RelS M H' ι' σ1 σ' → Q σ' H'
def SGs (M : Md) (W' : WX) (c : ActGs) : TGs := fun vs σ H Q => ∃ ι E σE ws, Rel M ι E H ∧ RelS M H ι σE σ ∧ RelWs M H ι ws vs ∧ Rs M W' ι σ H (c ws σE E) fun σ1 E' => ∀ ι' H' σ', Ext M ι H ι' H' → Rel M ι' E' H' → RelS M H' ι' σ1 σ' → Q σ' H'
theorem pg_no {e : Expr} {c : ActG} (h : ∀ w σ E, c w σ E = none) : PG X e (SG M W' c) := ⟨fun pins s σ H v u Q I r ⟨ι, E, σE, w, _, _, _, q⟩ => by
  rw [h] at q
  exact q.none.elim⟩
theorem pgs_no {e : List Expr} {c : ActGs} (h : ∀ w σ E, c w σ E = none) : PGs X e (SGs M W' c) := ⟨fun pins s σ H v u Q I r ⟨ι, E, σE, w, _, _, _, q⟩ => by
  rw [h] at q
  exact q.none.elim⟩
theorem RelS.set {σE : Sg} {σ : L2.St} {i : Nat} {w : W} {v : V} (rs : RelS M H ι σE σ) (r : RelW M H ι w v) : RelS M H ι (σE.set i (some w)) (σ.set i (some v)) := by
  refine ⟨by rw [List.length_set, List.length_set]; exact rs.1, fun j x e => ?_⟩
  by_cases hj : i = j
  · subst hj
    have hl : i < σE.length := by
      have := (List.getElem?_eq_some_iff.mp e).1
      simpa using this
    rw [List.getElem?_set_self hl] at e
    obtain rfl : w = x := by simpa using e
    exact ⟨v, List.getElem?_set_self (by rw [← rs.1]; exact hl), r⟩
  · rw [List.getElem?_set_ne hj] at e
    obtain ⟨u, e1, ru⟩ := rs.2 j x e
    exact ⟨u, by rw [List.getElem?_set_ne hj]; exact e1, ru⟩
def okLoc (Γ : Gm) (x : Str) : Bool := (Γ.names.lookup x == some .local) || (Γ.names.lookup x == some .cell && Γ.cellOk x)
def nameG (Γ : Gm) (x : Str) : ActG := fun w σ E => if okLoc Γ x = true then match ixOf x Γ.N with
  | some i => some (.ok (σ.set i (some w)) E)
  | none => none
  else none
theorem okLoc_ok {Γ : Gm} {x : Str} (a : At M Γ W' X) (h : okLoc Γ x = true) : L2.Loc X.env.scope x ∧ (X.fn x = true ∨ X.env.scope.names.lookup x = some .local) := by
  unfold okLoc at h
  rw [Bool.or_eq_true, Bool.and_eq_true] at h
  unfold L2.Loc
  rw [a.names]
  rcases h with h | ⟨h, h2⟩
  · have h : Γ.names.lookup x = some .local := by simpa using h
    exact ⟨.inl h, .inr h⟩
  · have h : Γ.names.lookup x = some .cell := by simpa using h
    exact ⟨.inr h, .inl (a.fnc x h2)⟩
theorem pg_nameG {Γ : Gm} {x : Str} {pos : Pos} (a : At M Γ W' X) : PG X (.Name x pos) (SG M W' (nameG Γ x)) := by
  by_cases hl : okLoc Γ x = true
  · cases hi : ixOf x Γ.N with
    | none => exact pg_no fun w σ E => by unfold nameG; rw [if_pos hl, hi]
    | some i =>
      obtain ⟨h1, h2⟩ := okLoc_ok a hl
      refine PG.imp (pg_name (i := i) (by rw [a.N]; exact a.nd) (by rw [a.N]; exact ixOf_ok hi) h1 h2) fun v σ H Q ⟨ι, E, σE, w, R, rs, rw', k⟩ => ?_
      unfold nameG at k
      rw [if_pos hl, hi] at k
      exact k.ok ι H _ (Ext.refl _ _) R (rs.set rw')
  · exact pg_no fun w σ E => by unfold nameG; rw [if_neg hl]
def plainTg : Expr → Bool
  | .Starred _ _ => false
  | _ => true
theorem assignEach_cons {e : Expr} {es : List Expr} {env : Env} (h : plainTg e = true) : assignEach (e :: es) env = (false, assign e env) :: assignEach es env := by
  cases e <;> first | rfl | cases h
theorem assignEach_len {env : Env} : ∀ {es : List Expr}, (assignEach es env).length = es.length
  | [] => rfl
  | e :: es => by
    have ih := @assignEach_len env es
    cases e <;> (show (_ :: assignEach es env).length = _; simp [ih])
theorem assignEach_plain {env : Env} : ∀ {es : List Expr}, es.all plainTg = true → (assignEach es env).findIdx? (·.1) = none
  | [], _ => rfl
  | e :: es, h => by
    rw [List.all_cons, Bool.and_eq_true] at h
    rw [assignEach_cons h.1, List.findIdx?_cons]
    simp [assignEach_plain h.2]
def nilG : ActGs := fun ws σ E => match ws with
  | [] => some (.ok σ E)
  | _ => none
def consG (c : ActG) (d : ActGs) : ActGs := fun ws σ E => match ws with
  | w :: r => andThen (c w σ E) fun σ1 E1 => d r σ1 E1
  | [] => none
theorem pgs_nilG : PGs X [] (SGs M W' nilG) := PGs.imp pgs_nil fun vs σ H Q ⟨ι, E, σE, ws, R, rs, rw', k⟩ => by
  cases ws with
  | nil => exact ⟨rw', k.ok ι H σ (Ext.refl _ _) R rs⟩
  | cons w r => exact k.none.elim
theorem pgs_consG {e : Expr} {es : List Expr} {c : ActG} {d : ActGs} (hW : Wind W') (hp : plainTg e = true) (h1 : PG X e (SG M W' c)) (h2 : PGs X es (SGs M W' d)) : PGs X (e :: es) (SGs M W' (consG c d)) :=
  PGs.imp (pgs_cons h1 h2 (by rw [assignEach_cons hp]; rfl)) fun vs σ H Q ⟨ι, E, σE, ws, R, rs, rw', k⟩ => by
    cases ws with
    | nil => exact k.none.elim
    | cons w r =>
      obtain ⟨v, vr, rfl, r1, r2⟩ := rw'
      exact ⟨v, vr, rfl, ι, E, σE, w, R, rs, r1, (Rs.bind k).imp fun σ1 E1 h1 => fun ι1 H1 σ' x1 R1 rs1 => ⟨ι1, E1, σ1, r, R1, rs1, r2.ext x1, ((h1.ext x1).slots hW).imp fun σ2 E2 g => fun ι2 H2 σ'' x2 => g ι2 H2 σ'' (x1.trans x2)⟩⟩
def tupG (n : Nat) (d : ActGs) : ActG := fun w σ E => match w with
  | .tup ws => if ws.length = n then d ws σ E else none
  | _ => none
theorem pg_tupG {es : List Expr} {k : Nat} {pos : Pos} {d : ActGs} (at' : X.K = M.K) (hc : X.calm = true) (hp : es.all plainTg = true) (h : PGs X es (SGs M W' d)) : PG X (.Tuple es k pos) (SG M W' (tupG es.length d)) :=
  PG.imp (pg_tup hc h assignEach_len (assignEach_plain hp)) fun v σ H Q ⟨ι, E, σE, w, R, rs, rw', k⟩ => by
    cases w with
    | tup ws =>
      obtain ⟨a, vs, rfl, ht, rws⟩ := rw'
      have k : Rs M W' ι σ H (if ws.length = es.length then d ws σE E else none) _ := k
      split at k
      · rename_i hl
        exact ⟨a, vs, rfl, by rw [at']; exact ht, by rw [← rws.length]; exact hl, ι, E, σE, ws, R, rs, rws, k⟩
      · exact k.none.elim
    | _ => exact k.none.elim
end G

set_option Elab.async false
set_option linter.all false
set_option maxRecDepth 100000
set_option maxHeartbeats 4000000
namespace G
open PySem L2 PySem.Spec PyProof.Rows
variable {M : Md} {H H' H1 H2 : Hp} {ι ι' ι1 ι2 : List Addr} {X : Cx} {W' : WX}

/-! ### stores -/
def notTup : Expr → Bool
  | .Tuple _ _ _ => false
  | _ => true
theorem swapped_none {tg e : Expr} {env : Env} (h : notTup e = true) : swappedStores [tg] e env = pure none := by
  cases e <;> first | (cases h; done) | (cases tg <;> rfl)
def asgS (ca : Act W) (g : ActG) : ActS := fun σ E => andThen (ca σ E) fun w E1 => andThen (g w σ E1) fun σ1 E2 => some (.ok (.nx σ1) E2)
theorem ps_asgG {tg e : Expr} {pos : Pos} {ca : Act W} {g : ActG} (h1 : plainDrop e = true) (h2 : notTup e = true) (h3 : plainTg tg = true) (he : PE X e (SE M W' ca)) (hg : PG X tg (SG M W' g)) : PS X (.Assign [tg] e pos) (SS M W' (asgS ca g)) :=
  PS.imp (ps_asg he hg (swaps_none h1) (swapped_none h2) (by rw [assignEach_cons h3]; rfl)) fun D σ H ⟨ι, E, σE, R, rs, k⟩ => ⟨ι, E, σE, R, rs, (Rs.bind k).imp fun w E1 h1 => fun ι1 H1 v x1 R1 rv =>
    ⟨ι1, E1, σE, w, R1, rs.ext x1, rv, (h1.bind.ext x1).imp fun σ1 E2 h2 => fun ι2 H2 σ' x2 R2 rs2 => h2.ok ι2 H2 (x1.trans x2) R2 σ' rs2⟩⟩
/-- o[i] = v, by values -/
def ixNW (n : Nat) (i : Int) : Option Nat := ixN n i
def putKW {κ : Type} [DecidableEq κ] (kvs : List (κ × W)) (k : κ) (w : W) : List (κ × W) :=
  if (kvs.any fun kv => decide (kv.1 = k)) = true then kvs.map (fun kv => if kv.1 = k then (kv.1, w) else kv) else kvs ++ [(k, w)]
theorem putKW_ok {κ : Type} [DecidableEq κ] {k : κ} {w : W} {v : V} (rv : RelW M H ι w v) {kvs : List (κ × W)} {vs : List V} (r : RelWs M H ι (kvs.map (·.2)) vs) :
    ∃ us, putK ((kvs.map (·.1)).zip vs) k v = ((putKW kvs k w).map (·.1)).zip us ∧ RelWs M H ι ((putKW kvs k w).map (·.2)) us := by
  have hany : ∀ {kvs : List (κ × W)} {vs : List V}, RelWs M H ι (kvs.map (·.2)) vs → (((kvs.map (·.1)).zip vs).any fun kv => decide (kv.1 = k)) = kvs.any fun kv => decide (kv.1 = k) := by
    intro kvs
    induction kvs with
    | nil => intro vs _; rfl
    | cons p r ih =>
      intro vs h
      obtain ⟨u, rs, rfl, h1, h2⟩ := h
      rw [List.map_cons, List.zip_cons_cons, List.any_cons, List.any_cons, ih h2]
  unfold putK putKW
  rw [hany r]
  by_cases hc : (kvs.any fun kv => decide (kv.1 = k)) = true
  · rw [if_pos hc, if_pos hc]
    have go : ∀ {kvs : List (κ × W)} {vs : List V}, RelWs M H ι (kvs.map (·.2)) vs → ∃ us, (((kvs.map (·.1)).zip vs).map fun kv => if kv.1 = k then (kv.1, v) else kv) = ((kvs.map (fun kv => if kv.1 = k then (kv.1, w) else kv)).map (·.1)).zip us ∧ RelWs M H ι ((kvs.map (fun kv => if kv.1 = k then (kv.1, w) else kv)).map (·.2)) us := by
      intro kvs
      induction kvs with
      | nil => intro vs h; exact ⟨[], rfl, rfl⟩
      | cons p r ih =>
        intro vs h
        obtain ⟨u, rs, rfl, h1, h2⟩ := h
        obtain ⟨us, e, g⟩ := ih h2
        obtain ⟨pk, pw⟩ := p
        by_cases e1 : pk = k
        · refine ⟨v :: us, ?_, v, us, by simp [e1], by simp [e1, rv], g⟩
          simp only [List.map_cons, List.zip_cons_cons, e1, if_true]
          rw [e]
        · refine ⟨u :: us, ?_, u, us, rfl, by simpa [e1] using h1, g⟩
          simp only [List.map_cons, List.zip_cons_cons, e1, if_false]
          rw [e]
    exact go r
  · rw [if_neg hc, if_neg hc]
    refine ⟨vs ++ [v], ?_, ?_⟩
    · rw [List.map_append, List.map_cons, List.map_nil, List.zip_append (by rw [List.length_map, ← r.length, List.length_map])]
      rfl
    · rw [List.map_append]
      exact r.append ⟨v, [], rfl, rv, rfl⟩
/-- a dict gets other pairs -/
theorem Fin.putK {E : Hh} {i : Nat} {a : Addr} {xs ws : List (Key × W)} {us vs : List V} {Q : Hp → Prop} (R : Rel M ι E H) (ha : ι[i]? = some a) (he : (E : List O)[i]? = some (.dK xs)) (hu : H a = some (.dK ((xs.map (·.1)).zip us))) (r : RelWs M H ι (ws.map (·.2)) vs)
    (k : ∀ ι' H', Ext M ι H ι' H' → Rel M ι' ((E : List O).set i (.dK ws)) H' → Q H') : Q (upd H a (.dK ((ws.map (·.1)).zip vs))) := by
  obtain ⟨R', x⟩ := Rel.put (o := .dK ws) (ho := .dK ((ws.map (·.1)).zip vs)) R ha he rfl (fun q hq => by rw [hu] at hq; cases hq; exact ⟨fun _ z => (nomatch z), fun _ _ z => (nomatch z)⟩) rfl fun x => ⟨vs, upd_same, r.ext x⟩
  exact k _ _ x R'
def dKOf (E : Hh) : W → Option (Nat × List (Key × W))
  | .ref i => match (E : List O)[i]? with
    | some (.dK kvs) => some (i, kvs)
    | _ => none
  | _ => none
theorem dK_ok {E : Hh} (R : Rel M ι E H) {w : W} {i : Nat} {ws : List (Key × W)} {v : V} (h : dKOf E w = some (i, ws)) (r : RelW M H ι w v) :
    ∃ a vs, ι[i]? = some a ∧ (E : List O)[i]? = some (.dK ws) ∧ v = .ref a ∧ H a = some (.dK ((ws.map (·.1)).zip vs)) ∧ RelWs M H ι (ws.map (·.2)) vs := by
  cases w with
  | ref j =>
    obtain ⟨a, ha, e⟩ := r
    unfold dKOf at h; dsimp only at h
    cases he : (E : List O)[j]? with
    | none => simp [he] at h
    | some o =>
      have ro := R.at he ha
      rw [he] at h
      cases o with
      | dK xs =>
        obtain ⟨rfl, rfl⟩ : j = i ∧ xs = ws := by simpa using h
        obtain ⟨vs, h1, h2⟩ := ro
        exact ⟨a, vs, ha, he, e, h1, h2⟩
      | slst xs => cases h
      | lst kvs => cases h
      | dN kvs => cases h
      | sdN kvs => cases h
      | sdK kvs => cases h
      | exc b => cases h
      | cup b => cases h
      | txs b => cases h
  | _ => cases h
def wSet (o i w : W) (E : Hh) : Option Hh := match lstOf E o with
  | some (n, ws) => match i with
    | .int k => match ixN ws.length k with
      | some j => some (E.set n (.lst (ws.set j w)))
      | none => none
    | _ => none
  | none => match dKOf E o with
    | some (n, kvs) => match keyOf i with
      | some k => if kvs.length ≤ few then some (E.set n (.dK (putKW kvs k w))) else none
      | none => none
    | none => none
def rSetD : V → V → V → Hp → (Hp → Prop) → Prop := fun o i v H Q => ∃ a H', o = .ref a ∧ DPut H a i v H' ∧ Q H'
theorem set_dict (hu : X.A.units + 1 < cLine) : PSet X rSetD := by
  intro pins s σ H o i v ov iv u Q I ro ri rv h
  obtain ⟨a, H', rfl, g, q⟩ := h
  obtain rfl : ov = Value.ref a := ro
  exact d_setItem hu I g ri rv fun s4 I4 => ⟨H', I4, q⟩
def rSetAll : V → V → V → Hp → (Hp → Prop) → Prop := fun o i v H Q => rSetL o i v H Q ∨ rSetD o i v H Q
theorem set_all (hu : X.A.units + 1 < cLine) : PSet X rSetAll := by
  intro pins s σ H o i v ov iv u Q I ro ri rv h
  rcases h with h | h
  · exact set_list pins s σ H o i v ov iv u Q I ro ri rv h
  · exact set_dict hu pins s σ H o i v ov iv u Q I ro ri rv h
theorem set_ok {E E' : Hh} {o i w : W} {ov iv v : V} {Q : Hp → Prop} (h : wSet o i w E = some E') (R : Rel M ι E H) (ro : RelW M H ι o ov) (ri : RelW M H ι i iv) (rv : RelW M H ι w v)
    (k : ∀ ι' H', Ext M ι H ι' H' → Rel M ι' E' H' → Q H') : rSetAll ov iv v H Q := by
  unfold wSet at h
  cases e1 : lstOf E o with
  | some p =>
    obtain ⟨n, ws⟩ := p
    rw [e1] at h
    dsimp only at h
    obtain ⟨a, vs, _, ha, he, rfl, h1, rws⟩ := lst_ok R e1 ro
    cases i with
    | int j =>
      dsimp only at h
      cases e2 : ixN ws.length j with
      | none => rw [e2] at h; cases h
      | some m =>
        rw [e2] at h
        obtain rfl : E.set n (.lst (ws.set m w)) = E' := Option.some.inj h
        exact .inl ⟨a, vs, j, m, rfl, ri, h1, by rw [← rws.length]; exact e2, Fin.putL R ha he h1 (rws.set m rv) k⟩
    | _ => cases h
  | none =>
    rw [e1] at h
    dsimp only at h
    cases e2 : dKOf E o with
    | none => rw [e2] at h; cases h
    | some p =>
      obtain ⟨n, kvs⟩ := p
      rw [e2] at h
      dsimp only at h
      cases e3 : keyOf i with
      | none => rw [e3] at h; cases h
      | some key =>
        rw [e3] at h
        dsimp only at h
        split at h
        · rename_i hl
          obtain rfl : E.set n (.dK (putKW kvs key w)) = E' := Option.some.inj h
          obtain ⟨a, vs, ha, he, rfl, h1, rws⟩ := dK_ok R e2 ro
          obtain ⟨us, e4, rus⟩ := putKW_ok (k := key) rv rws
          refine .inr ⟨a, _, rfl, .inl ⟨_, key, h1, keyOf_ok e3 ri, ?_, rfl⟩, ?_⟩
          · rw [List.length_zip, List.length_map, ← rws.length, List.length_map, Nat.min_self]
            exact few_lt hl
          · rw [e4]
            exact Fin.putK R ha he h1 rus k
        · cases h
def subG (co ci : Act W) : ActG := fun w σ E => andThen (co σ E) fun o E1 => andThen (ci σ E1) fun i E2 => match wSet o i w E2 with
  | some E3 => some (.ok σ E3)
  | none => none
theorem pg_subG {o i : Expr} {pos : Pos} {co ci : Act W} (hu : X.A.units + 1 < cLine) (hp : plainIx i = true) (ho : PE X o (SE M W' co)) (hi : PE X i (SE M W' ci)) : PG X (.Subscript o i pos) (SG M W' (subG co ci)) := by
  refine PG.imp (pg_sub ho hi (set_all hu) (by cases i <;> first | (intro v; rfl) | cases hp)) fun v σ H Q ⟨ι, E, σE, w, R, rs, rv, k⟩ => ⟨ι, E, σE, R, rs, (Rs.bind k).imp fun o E1 h1 => fun ι1 H1 ov x1 R1 ro => ⟨ι1, E1, σE, R1, rs.ext x1, (h1.bind.ext x1).imp fun i E2 h2 => fun ι2 H2 iv x2 R2 ri => ?_⟩⟩
  cases e : wSet o i w E2 with
  | none => rw [e] at h2; exact h2.none.elim
  | some E3 =>
    rw [e] at h2
    exact set_ok e R2 (ro.ext x2) ri ((rv.ext x1).ext x2) fun ι3 H3 x3 R3 => h2.ok ι3 H3 σ ((x1.trans x2).trans x3) R3 (rs.ext ((x1.trans x2).trans x3))
/-- x op= e, of ints -/
def augOp (op : Operator) (x y : W) : Option W := match op, x, y with
  | .Add, .int i, .int j => some (.int (i + j))
  | .Sub, .int i, .int j => some (.int (i - j))
  | _, _, _ => none
def addSub : Operator → Bool
  | .Add => true
  | .Sub => true
  | _ => false
def augS (Γ : Gm) (x : Str) (op : Operator) (ca : Act W) : ActS := fun σ E => if okLoc Γ x = true ∧ addSub op = true then match ixOf x Γ.N with
  | some i => match (σ : List (Option W))[i]? with
    | some (some w) => andThen (ca σ E) fun y E1 => match augOp op w y with
      | some z => some (.ok (.nx (σ.set i (some z))) E1)
      | none => none
    | _ => none
  | none => none
  else none
theorem ps_augG {Γ : Gm} {x : Str} {e : Expr} {op : Operator} {pos pos' : Pos} {ca : Act W} (a : At M Γ W' X) (he : PE X e (SE M W' ca)) : PS X (.AugAssign (.Name x pos') op e pos) (SS M W' (augS Γ x op ca)) := by
  by_cases hl : okLoc Γ x = true ∧ addSub op = true
  · cases hi : ixOf x Γ.N with
    | none => exact ps_no fun σ E => by unfold augS; rw [if_pos hl, hi]
    | some i =>
      obtain ⟨h1, h2⟩ := okLoc_ok a hl.1
      have go : ∀ {f : Int → Int → Int}, PIp X op (ipI f) → (∀ w y z, augOp op w y = some z → ∃ i j, w = .int i ∧ y = .int j ∧ z = .int (f i j)) → PS X (.AugAssign (.Name x pos') op e pos) (SS M W' (augS Γ x op ca)) := fun {f} ip hop => by
        refine PS.imp (ps_aug (i := i) (by rw [a.N]; exact a.nd) (by rw [a.N]; exact ixOf_ok hi) h1 he ip h2) fun D σ H ⟨ι, E, σE, R, rs, k⟩ => ?_
        unfold augS at k
        rw [if_pos hl, hi] at k
        dsimp only at k
        cases hs : (σE : List (Option W))[i]? with
        | none => rw [hs] at k; exact k.none.elim
        | some o =>
          rw [hs] at k
          cases o with
          | none => exact k.none.elim
          | some w =>
            obtain ⟨v, ev, rv⟩ := rs.2 i w hs
            refine ⟨v, ev, ι, E, σE, R, rs, (Rs.bind k).imp fun y E1 h1 => fun ι1 H1 u x1 R1 ru => ?_⟩
            cases ez : augOp op w y with
            | none => rw [ez] at h1; exact h1.none.elim
            | some z =>
              rw [ez] at h1
              obtain ⟨i1, j1, rfl, rfl, rfl⟩ := hop w y z ez
              exact ⟨i1, j1, rv, ru, h1.ok ι1 H1 x1 R1 _ ((rs.ext x1).set rfl)⟩
      cases op with
      | Add => exact go ip_add fun w y z h => by cases w <;> cases y <;> simp [augOp] at h; exact ⟨_, _, rfl, rfl, h.symm⟩
      | Sub => exact go ip_sub fun w y z h => by cases w <;> cases y <;> simp [augOp] at h; exact ⟨_, _, rfl, rfl, h.symm⟩
      | _ => exact absurd hl.2 Bool.false_ne_true
  · exact ps_no fun σ E => by unfold augS; rw [if_neg hl]
end G

set_option Elab.async false
set_option linter.all false
set_option maxRecDepth 100000
set_option maxHeartbeats 4000000
namespace G
open PySem L2 PySem.Spec PyProof.Rows
variable {M : Md} {H H' H1 H2 : Hp} {ι ι' ι1 ι2 : List Addr} {X : Cx} {W' : WX}

/-! ### while -/
def loopW (ct : Act Bool) (body : ActS) : Nat → ActS
  | 0 => fun _ _ => none
  | k + 1 => fun σ E => andThen (ct σ E) fun b E1 => if b = true then andThen (body σ E1) fun f E2 => match f with
      | .nx σ1 => loopW ct body k σ1 E2
      | .ct σ1 => loopW ct body k σ1 E2
      | .bk σ1 => some (.ok (.nx σ1) E2)
      | .rt w => some (.ok (.rt w) E2)
    else some (.ok (.nx σ) E1)
theorem ps_whileG {e : Expr} {body : List Stmt} {pos : Pos} {ct : Act Bool} {c : ActS} {n : Nat} (hW : Wind W') (own : PassesOwn (model X.prog X.w) X.A X.env X.xe) (he : PT X e (ST M W' ct)) (hb : PSs X body (SS M W' c)) : PS X (.While e body [] pos) (SS M W' (loopW ct c n)) := by
  refine PS.imp (ps_while own he hb) fun D σ H ⟨ι, E, σE, R, rs, k⟩ => ?_
  refine ⟨fun m σ H => ∃ ι E σE, Rel M ι E H ∧ RelS M H ι σE σ ∧ Rs M W' ι σ H (loopW ct c m σE E) fun f E' => Good M D ι H f E', ⟨n, ι, E, σE, R, rs, k⟩, ?_⟩
  rintro m σ H ⟨ι, E, σE, R, rs, k⟩
  cases m with
  | zero => exact k.none.elim
  | succ m =>
    refine ⟨ι, E, σE, R, rs, (Rs.bind k).imp fun b E1 h1 => fun ι1 H1 x1 R1 => ?_⟩
    cases b with
    | true =>
      rw [if_pos rfl] at h1 ⊢
      refine ⟨fun σ' H' => ∃ ι E σE, Rel M ι E H' ∧ RelS M H' ι σE σ' ∧ Rs M W' ι σ' H' (loopW ct c m σE E) fun f E' => Good M D ι H' f E', fun σ' H' q => ⟨m, Nat.lt_succ_self m, q⟩, ι1, E1, σE, R1, rs.ext x1, (h1.bind.ext x1).imp fun f E2 h2 => fun ι2 H2 x2 R2 => ?_⟩
      have xx := x1.trans x2
      cases f with
      | nx σ1 => exact fun σ' rs2 => ⟨ι2, E2, σ1, R2, rs2, ((Rs.ext h2 xx).slots hW).imp fun f E3 g => g.ext xx⟩
      | ct σ1 => exact fun σ' rs2 => ⟨ι2, E2, σ1, R2, rs2, ((Rs.ext h2 xx).slots hW).imp fun f E3 g => g.ext xx⟩
      | bk σ1 => exact fun σ' rs2 => h2.ok ι2 H2 xx R2 σ' rs2
      | rt w => exact fun v rv => h2.ok ι2 H2 xx R2 v rv
    | false =>
      rw [if_neg Bool.false_ne_true] at h1 ⊢
      exact h1.ok ι1 H1 x1 R1 σ (rs.ext x1)

/-! ### what is walked -/
/-- a list that must stay as it is, a dict that is locked -/
inductive Lk where
  | l (i : Nat) (ws : List W) | d (i : Nat) (kvs : List (W × W))
  deriving Inhabited
/-- its items, and the lists that must stay as they are meanwhile -/
structure Src where
  ws : List W
  ls : List Lk
  deriving Inhabited
def same2 : List W → List W → Bool
  | [], [] => true
  | _ :: a, _ :: b => same2 a b
  | _, _ => false
mutual
def wEq : W → W → Bool
  | .non, .non => true
  | .bl a, .bl b => a == b
  | .int a, .int b => a == b
  | .str a, .str b => decide (a = b)
  | .tup a, .tup b => wEqs a b
  | .ref a, .ref b => a == b
  | .fn a, .fn b => decide (a = b)
  | .ty a, .ty b => a == b
  | _, _ => false
def wEqs : List W → List W → Bool
  | [], [] => true
  | x :: a, y :: b => wEq x y && wEqs a b
  | _, _ => false
end
mutual
theorem wEq_ok : ∀ {a b : W}, wEq a b = true → a = b
  | .non, b, h => by cases b <;> first | rfl | (simp [wEq] at h)
  | .bl a, b, h => by cases b <;> simp [wEq] at h; rw [h]
  | .int a, b, h => by cases b <;> simp [wEq] at h; rw [h]
  | .str a, b, h => by cases b <;> simp [wEq] at h; rw [h]
  | .tup a, b, h => by
    cases b <;> simp [wEq] at h
    rw [wEqs_ok h]
  | .ref a, b, h => by cases b <;> simp [wEq] at h; rw [h]
  | .fn a, b, h => by cases b <;> simp [wEq] at h; rw [h]
  | .ty a, b, h => by cases b <;> simp [wEq] at h; rw [h]
theorem wEqs_ok : ∀ {a b : List W}, wEqs a b = true → a = b
  | [], b, h => by cases b <;> first | rfl | (simp [wEqs] at h)
  | x :: a, b, h => by
    cases b with
    | nil => simp [wEqs] at h
    | cons y b =>
      simp [wEqs] at h
      rw [wEq_ok h.1, wEqs_ok h.2]
end
def pEqs : List (W × W) → List (W × W) → Bool
  | [], [] => true
  | p :: a, q :: b => wEq p.1 q.1 && (wEq p.2 q.2 && pEqs a b)
  | _, _ => false
theorem pEqs_ok : ∀ {a b : List (W × W)}, pEqs a b = true → a = b
  | [], b, h => by cases b <;> first | rfl | (simp [pEqs] at h)
  | p :: a, b, h => by
    cases b with
    | nil => simp [pEqs] at h
    | cons q b =>
      simp [pEqs] at h
      obtain ⟨h1, h2, h3⟩ := h
      rw [pEqs_ok h3, show p = q from Prod.ext (wEq_ok h1) (wEq_ok h2)]
def stay1 (E : Hh) : Lk → Bool
  | .l i ws => match seqOf E (.ref i) with
    | some us => wEqs us ws
    | none => false
  | .d i kvs => match (E : List O)[i]? with
    | some (.sdN us) => pEqs us kvs
    | _ => false
/-- the lists are as they were -/
def stay (E : Hh) : List Lk → Bool
  | [] => true
  | l :: r => stay1 E l && stay E r
theorem stay_in {E : Hh} : ∀ {ls : List Lk} {l : Lk}, stay E ls = true → l ∈ ls → stay1 E l = true
  | u :: r, l, h, hm => by
    unfold stay at h
    rw [Bool.and_eq_true] at h
    rcases List.mem_cons.mp hm with e | hm
    · rw [e]; exact h.1
    · exact stay_in h.2 hm
theorem stay_at {E : Hh} {ls : List Lk} {i : Nat} {ws : List W} (h : stay E ls = true) (hm : Lk.l i ws ∈ ls) : seqOf E (.ref i) = some ws := by
  have h1 := stay_in h hm
  unfold stay1 at h1
  dsimp only at h1
  cases e2 : seqOf E (.ref i) with
  | none => rw [e2] at h1; cases h1
  | some vs =>
    rw [e2] at h1
    rw [wEqs_ok h1]
theorem stay_dict {E : Hh} {ls : List Lk} {i : Nat} {kvs : List (W × W)} (h : stay E ls = true) (hm : Lk.d i kvs ∈ ls) : (E : List O)[i]? = some (.sdN kvs) := by
  have h1 := stay_in h hm
  unfold stay1 at h1
  dsimp only at h1
  split at h1
  · rename_i us e
    rw [e, pEqs_ok h1]
  · cases h1
/-- an iterator gives these items, turn by turn -/
structure Walks (M : Md) (J : It) (ι1 : List Addr) (H1 : Hp) (s : Src) : Prop where
  go : ∀ i ι' E' H', i < s.ws.length → Ext M ι1 H1 ι' H' → Rel M ι' E' H' → stay E' s.ls = true → J.go i H'
  stop : ∀ ι' E' H', Ext M ι1 H1 ι' H' → Rel M ι' E' H' → stay E' s.ls = true → J.stop s.ws.length H'
  yld : ∀ i ι' E' H' x H'', i < s.ws.length → Ext M ι1 H1 ι' H' → Rel M ι' E' H' → stay E' s.ls = true → J.yld i H' x H'' → Rel M ι' E' H'' ∧ Ext M ι' H' ι' H'' ∧ ∃ w, s.ws[i]? = some w ∧ RelW M H'' ι' w x
def SI (M : Md) (W' : WX) (c : Act Src) : TI := fun σ H R' => ∃ ι E σE, Rel M ι E H ∧ RelS M H ι σE σ ∧ Rs M W' ι σ H (c σE E) fun s E' => ∀ ι1 H1 J, Ext M ι H ι1 H1 → Rel M ι1 E' H1 → Walks M J ι1 H1 s → R' J H1
theorem PI.imp {tg e : Expr} {t t' : TI} (h : PI X tg e t) (i : ∀ σ H R, t' σ H R → t σ H R) : PI X tg e t' := ⟨fun pins s σ H R I q => h.run pins s σ H R I (i σ H R q)⟩
theorem pi_no {tg e : Expr} {c : Act Src} (h : ∀ σ E, c σ E = none) : PI X tg e (SI M W' c) := ⟨fun pins s σ H Q I ⟨ι, E, σE, _, _, q⟩ => by
  rw [h] at q
  exact q.none.elim⟩
/-! ### for -/
def loopF (ls : List Lk) (g : ActG) (body : ActS) : List W → ActS
  | [] => fun σ E => if stay E ls = true then some (.ok (.nx σ) E) else none
  | w :: r => fun σ E => if stay E ls = true then andThen (g w σ E) fun σ1 E1 => andThen (body σ1 E1) fun f E2 => match f with
      | .nx σ2 => loopF ls g body r σ2 E2
      | .ct σ2 => loopF ls g body r σ2 E2
      | .bk σ2 => some (.ok (.nx σ2) E2)
      | .rt w => some (.ok (.rt w) E2)
    else none
def forS (ci : Act Src) (g : ActG) (body : ActS) : ActS := fun σ E => andThen (ci σ E) fun s E1 => loopF s.ls g body s.ws σ E1
theorem drop_cons {α : Type} {l : List α} {i : Nat} {w : α} (h : l[i]? = some w) : l.drop i = w :: l.drop (i + 1) := by
  obtain ⟨hi, e⟩ := List.getElem?_eq_some_iff.mp h
  rw [List.drop_eq_getElem_cons hi, e]
theorem ps_forG {tg e : Expr} {body : List Stmt} {pos : Pos} {ci : Act Src} {g : ActG} {c : ActS} (hW : Wind W') (own : PassesOwn (model X.prog X.w) X.A X.env X.xe) (hc : X.calm = true) (hi : PI X tg e (SI M W' ci)) (hg : PG X tg (SG M W' g)) (hb : PSs X body (SS M W' c))
    (hs : ∀ x, foldedSetIterable e X.env x = pure x) : PS X (.For tg e body [] pos) (SS M W' (forS ci g c)) := by
  refine PS.imp (ps_for own hc hi hg hb hs) fun D σ H ⟨ι, E, σE, R, rs, k⟩ => ⟨ι, E, σE, R, rs, (Rs.bind k).imp fun s E1 h1 => fun ι1 H1 J x1 R1 wk => ?_⟩
  let Inv' : Nat → L2.St → Hp → Prop := fun i σ H' => ∃ ι' E' σE, Ext M ι1 H1 ι' H' ∧ Rel M ι' E' H' ∧ RelS M H' ι' σE σ ∧ Rs M W' ι' σ H' (loopF s.ls g c (s.ws.drop i) σE E') fun f E2 => Good M D ι' H' f E2
  refine ⟨fun i m σ H' => m = s.ws.length - i ∧ i ≤ s.ws.length ∧ Inv' i σ H', ⟨s.ws.length, by simp, Nat.zero_le _, ι1, E1, σE, Ext.refl _ _, R1, rs.ext x1, by
    rw [List.drop_zero]
    exact (h1.ext x1).imp fun f E2 g => g.ext x1⟩, ?_⟩
  rintro i m σ H' ⟨rfl, hle, ι', E', σE, x', R', rs', k'⟩
  by_cases hlt : i < s.ws.length
  · obtain ⟨w0, hw0⟩ : ∃ w, s.ws[i]? = some w := ⟨_, List.getElem?_eq_getElem hlt⟩
    rw [drop_cons hw0] at k'
    unfold loopF at k'
    by_cases hst : stay E' s.ls = true
    · rw [if_pos hst] at k'
      refine .inr ⟨wk.go i ι' E' H' hlt x' R' hst, fun σ2 H2 => Inv' (i + 1) σ2 H2, fun σ2 H2 q => ⟨s.ws.length - (i + 1), by omega, rfl, hlt, q⟩, fun x H'' y => ?_⟩
      obtain ⟨R'', x'', w, hw, rx⟩ := wk.yld i ι' E' H' x H'' hlt x' R' hst y
      obtain rfl : w0 = w := by rw [hw0] at hw; exact Option.some.inj hw
      refine ⟨ι', E', σE, w0, R'', rs'.ext x'', rx, ((Rs.bind k').ext x'').imp fun σ1 E2 h2 => fun ι2 H2 σ' x2 R2 rs2 => ?_⟩
      have y2 := x''.trans x2
      refine ⟨ι2, E2, σ1, R2, rs2, ((h2.bind.ext y2).slots hW).imp fun f E3 h3 => fun ι3 H3 x3 R3 => ?_⟩
      have y3 := y2.trans x3
      cases f with
      | nx σ2 => exact fun σ'' rs3 => ⟨ι3, E3, σ2, x'.trans y3, R3, rs3, ((Rs.ext h3 y3).slots hW).imp fun f E4 g => g.ext y3⟩
      | ct σ2 => exact fun σ'' rs3 => ⟨ι3, E3, σ2, x'.trans y3, R3, rs3, ((Rs.ext h3 y3).slots hW).imp fun f E4 g => g.ext y3⟩
      | bk σ2 => exact fun σ'' rs3 => h3.ok ι3 H3 y3 R3 σ'' rs3
      | rt w => exact fun v rv => h3.ok ι3 H3 y3 R3 v rv
    · rw [if_neg hst] at k'
      exact k'.none.elim
  · have e : i = s.ws.length := by omega
    subst e
    rw [List.drop_length] at k'
    unfold loopF at k'
    by_cases hst : stay E' s.ls = true
    · rw [if_pos hst] at k'
      exact .inl ⟨wk.stop ι' E' H' x' R' hst, k'.ok ι' H' (Ext.refl _ _) R' σ rs'⟩
    · rw [if_neg hst] at k'
      exact k'.none.elim
end G

set_option Elab.async false
set_option linter.all false
set_option maxRecDepth 100000
set_option maxHeartbeats 4000000
namespace G
open PySem L2 PySem.Spec PyProof.Rows
variable {M : Md} {H H' H1 H2 : Hp} {ι ι' ι1 ι2 : List Addr} {X : Cx} {W' : WX}

/-! ### a list, a tuple, a text -/
def iSeq (K : PySem.W.Frag) (tl : TE) : TI := fun σ H R => tl σ H fun x H1 => (∃ a, x = .ref a ∧ (∃ xs, SqL K H1 a xs) ∧ R (Itl K a) H1) ∨ ((∃ a, x = .ref a ∧ (∃ xs, SqT K H1 a xs) ∧ R (Itt K a) H1) ∨ ∃ z, x = .str z ∧ R (Its z) H1)
theorem pi_seq {tg l : Expr} {tl : TE} (hl : PE X l tl) : PI X tg l (iSeq X.K tl) := by
  refine ⟨fun pins s σ H R I h => ?_⟩
  refine thn (hl.run pins s σ H _ I h) fun v s1 ⟨x, H1, I1, r1, q1⟩ => ?_
  rcases q1 with ⟨a, e, ⟨xs, hq⟩, q⟩ | ⟨a, e, ⟨xs, hq⟩, q⟩ | ⟨z, e, q⟩
  · subst e
    cases r1
    obtain ⟨its, rv, p, hz⟩ := I1.list hq
    refine wpAny_pyIter_list p.isList ?_
    refine ⟨s1.heap.objs.size, [s1.heap.objs.size], _, _, H1, rfl, I1.kept (t' := s1.toks) fun b o e => Heap.get?_push_of_some _ e, turn_list a _, ⟨_, Heap.get?_push_size _ rfl, rfl, rfl⟩, fun b hb => ?_, q⟩
    have e : b = s1.heap.objs.size := by simpa using hb
    subst e
    exact I1.fpOk (Nat.le_refl _) (I1.hok.fresh (Nat.le_refl _))
  · subst e
    cases r1
    obtain ⟨its, rv, p, hz⟩ := I1.tuple hq
    refine wpAny_pyIter_tuple (show s1.heap.IsTuple a its.toArray from p) ?_
    refine ⟨s1.heap.objs.size, [s1.heap.objs.size], _, _, H1, rfl, I1.kept (t' := s1.toks) fun b o e => Heap.get?_push_of_some _ e, turn_tuple a _, ⟨_, Heap.get?_push_size _ rfl, rfl, rfl⟩, fun b hb => ?_, q⟩
    have e : b = s1.heap.objs.size := by simpa using hb
    subst e
    exact I1.fpOk (Nat.le_refl _) (I1.hok.fresh (Nat.le_refl _))
  · subst e
    obtain ⟨t, rfl⟩ := r1
    cases ha : z.cps.all (· < 128)
    · exact wpAny_pyIter_wide ha (pi_one (tk := s1.toks) I1 _ (turn_str _ z t "str_iterator" (.inr rfl)) ⟨_, Heap.get?_push_size _ rfl, rfl, rfl⟩ q)
    · exact wpAny_pyIter_ascii ha (pi_one (tk := s1.toks) I1 _ (turn_str _ z t "str_ascii_iterator" (.inl rfl)) ⟨_, Heap.get?_push_size _ rfl, rfl, rfl⟩ q)
/-- the value's items, and what must stay -/
def srcOf (E : Hh) : W → Option Src
  | .tup ws => some ⟨ws, []⟩
  | .ref i => (seqOf E (.ref i)).map fun ws => ⟨ws, [.l i ws]⟩
  | .str s => some ⟨s.cps.toList.map fun c => .str ⟨#[c]⟩, []⟩
  | _ => none
theorem SqL.one {K : PySem.W.Frag} {a : Addr} {xs ys : List V} (I : ∀ zs, SqL K H a zs → zs = ys) (h : SqL K H a xs) : xs = ys := I xs h
/-- what a list holds is told once, up to the written part: an own list is told by the heap alone -/
theorem at_ref {E : Hh} (R : Rel M ι E H) {i : Nat} {ws : List W} {a : Addr} (h : seqOf E (.ref i) = some ws) (ha : ι[i]? = some a) : ∃ vs, SqL M.K H a vs ∧ RelWs M H ι ws vs := by
  obtain ⟨b, vs, e, hq, r⟩ := seq_ref R h (show RelW M H ι (.ref i) (.ref a) from ⟨a, ha, rfl⟩)
  obtain rfl : a = b := by simpa using e
  exact ⟨vs, hq, r⟩
theorem walks_list {E : Hh} (R : Rel M ι E H) {i : Nat} {ws : List W} {a : Addr} (h : seqOf E (.ref i) = some ws) (ha : ι[i]? = some a) : Walks M (Itl M.K a) ι H ⟨ws, [.l i ws]⟩ where
  go := fun j ι' E' H' hj x R' st => by
    obtain ⟨vs, hq, r⟩ := at_ref R' (stay_at st (List.mem_singleton.mpr rfl)) (pre_get x.pre ha)
    obtain ⟨v, hv, _⟩ := r.get (List.getElem?_eq_getElem hj)
    exact ⟨vs, v, hq, hv⟩
  stop := fun ι' E' H' x R' st => by
    obtain ⟨vs, hq, r⟩ := at_ref R' (stay_at st (List.mem_singleton.mpr rfl)) (pre_get x.pre ha)
    exact ⟨vs, hq, by rw [← r.length]; exact Nat.le_refl _⟩
  yld := fun j ι' E' H' v H'' hj x R' st y => by
    obtain ⟨vs, hq, r⟩ := at_ref R' (stay_at st (List.mem_singleton.mpr rfl)) (pre_get x.pre ha)
    obtain ⟨rfl, y⟩ := y
    obtain ⟨u, hu, ru⟩ := r.get (List.getElem?_eq_getElem hj)
    have e := y vs hq
    rw [hu] at e
    obtain rfl := Option.some.inj e
    exact ⟨R', Ext.refl _ _, ws[j], List.getElem?_eq_getElem hj, ru⟩
theorem walks_tup {ws : List W} {a : Addr} {vs : List V} (hq : SqT M.K H a vs) (r : RelWs M H ι ws vs) : Walks M (Itt M.K a) ι H ⟨ws, []⟩ where
  go := fun j ι' E' H' hj x R' st => by
    obtain ⟨v, hv, _⟩ := r.get (List.getElem?_eq_getElem hj)
    exact ⟨vs, v, x.tup _ _ hq, hv⟩
  stop := fun ι' E' H' x R' st => ⟨vs, x.tup _ _ hq, by rw [← r.length]; exact Nat.le_refl _⟩
  yld := fun j ι' E' H' v H'' hj x R' st y => by
    obtain ⟨rfl, y⟩ := y
    obtain ⟨u, hu, ru⟩ := r.get (List.getElem?_eq_getElem hj)
    have e := y vs (x.tup _ _ hq)
    rw [hu] at e
    obtain rfl := Option.some.inj e
    exact ⟨R', Ext.refl _ _, ws[j], List.getElem?_eq_getElem hj, ru.ext x⟩
theorem walks_str {s : Str} : Walks M (Its s) ι H ⟨s.cps.toList.map fun c => .str ⟨#[c]⟩, []⟩ where
  go := fun j ι' E' H' hj x R' st => by
    have hj : j < (s.cps.toList.map fun c => (.str ⟨#[c]⟩ : W)).length := hj
    rw [List.length_map, Array.length_toList] at hj
    exact hj
  stop := fun ι' E' H' x R' st => by
    show s.cps.size ≤ (s.cps.toList.map fun c => (.str ⟨#[c]⟩ : W)).length
    rw [List.length_map, Array.length_toList]
    exact Nat.le_refl _
  yld := fun j ι' E' H' v H'' hj x R' st y => by
    obtain ⟨rfl, c, hc, rfl⟩ := y
    refine ⟨R', Ext.refl _ _, .str ⟨#[c]⟩, ?_, rfl⟩
    show (s.cps.toList.map fun c => (.str ⟨#[c]⟩ : W))[j]? = _
    rw [List.getElem?_map, Array.getElem?_toList, hc]
    rfl
def seqI (ca : Act W) : Act Src := fun σ E => andThen (ca σ E) fun x E1 => match srcOf E1 x with
  | some s => some (.ok s E1)
  | none => none
theorem pi_seqG {tg l : Expr} {ca : Act W} (at' : X.K = M.K) (hl : PE X l (SE M W' ca)) : PI X tg l (SI M W' (seqI ca)) :=
  PI.imp (pi_seq hl) fun σ H R' ⟨ι, E, σE, R, rs, k⟩ => ⟨ι, E, σE, R, rs, (Rs.bind k).imp fun x E1 h1 => fun ι1 H1 v x1 R1 rx => by
    rw [at']
    cases x with
    | tup ws =>
      obtain ⟨a, vs, rfl, ht, rws⟩ := rx
      exact .inr (.inl ⟨a, rfl, ⟨vs, ht⟩, h1.ok ι1 H1 _ x1 R1 (walks_tup ht rws)⟩)
    | str s => exact .inr (.inr ⟨s, rx, h1.ok ι1 H1 _ x1 R1 walks_str⟩)
    | ref i =>
      obtain ⟨a, ha, rfl⟩ := rx
      cases e : seqOf E1 (.ref i) with
      | none =>
        have h1 : Rs M W' ι σ H (match (seqOf E1 (.ref i)).map fun ws => (⟨ws, [.l i ws]⟩ : Src) with
          | some s => some (.ok s E1)
          | none => none) _ := h1
        rw [e] at h1
        exact h1.none.elim
      | some ws =>
        have h1 : Rs M W' ι σ H (match (seqOf E1 (.ref i)).map fun ws => (⟨ws, [.l i ws]⟩ : Src) with
          | some s => some (.ok s E1)
          | none => none) _ := h1
        rw [e] at h1
        obtain ⟨vs, hq, _⟩ := at_ref R1 e ha
        exact .inl ⟨a, rfl, ⟨vs, hq⟩, h1.ok ι1 H1 _ x1 R1 (walks_list R1 e ha)⟩
    | _ => exact h1.none.elim⟩
/-! ### range -/
def two62 : Int := 4611686018427387904
theorem two62_eq : two62 = 2 ^ 62 := by decide
def rngSrc (lo : Int) (n : Nat) : Src := ⟨(List.range n).map fun (i : Nat) => (.int (lo + (i : Int)) : W), []⟩
theorem walks_rng {lo : Int} {n : Nat} : Walks M (Itr lo n) ι H (rngSrc lo n) where
  go := fun j ι' E' H' hj x R' st => by
    have hj : j < ((List.range n).map fun (i : Nat) => (.int (lo + (i : Int)) : W)).length := hj
    rw [List.length_map, List.length_range] at hj
    exact hj
  stop := fun ι' E' H' x R' st => by
    show n ≤ ((List.range n).map fun (i : Nat) => (.int (lo + (i : Int)) : W)).length
    rw [List.length_map, List.length_range]
    exact Nat.le_refl _
  yld := fun j ι' E' H' v H'' hj x R' st y => by
    have hj : j < ((List.range n).map fun (i : Nat) => (.int (lo + (i : Int)) : W)).length := hj
    rw [List.length_map, List.length_range] at hj
    obtain ⟨rfl, rfl⟩ := y
    refine ⟨R', Ext.refl _ _, .int (lo + j), ?_, rfl⟩
    show ((List.range n).map fun (i : Nat) => (.int (lo + (i : Int)) : W))[j]? = _
    rw [List.getElem?_map, List.getElem?_range hj]
    rfl
theorem Rs.one {α : Type} {σ : L2.St} {G : α → Hh → Prop} {xs : List W} {f : W → Option (Rz α)} (h : Rs M W' ι σ H (match xs with
    | [x] => f x
    | _ => Option.none) G) : ∃ x, xs = [x] ∧ Rs M W' ι σ H (f x) G := by
  match xs, h with
  | [x], h => exact ⟨x, rfl, h⟩
  | [], h => exact h.none.elim
  | _ :: _ :: _, h => exact h.none.elim
def rng1F (E1 : Hh) : W → Option (Rz Src)
  | .int j => if -two62 ≤ j ∧ j < two62 then some (.ok (rngSrc 0 j.toNat) E1) else none
  | _ => none
def rng1I (ca : Act (List W)) : Act Src := fun σ E => andThen (ca σ E) fun xs E1 => match xs with
  | [x] => rng1F E1 x
  | _ => none
theorem pi_rng1G {tg a : Expr} {p pos : Pos} {ca : Act (List W)} (hg : Gl X "range") (hm : X.mg "range" = none) (hp : plainArg a = true) (ha : PA X [a] (SA M W' ca)) : PI X tg (.Call (.Name "range" p) [a] [] pos) (SI M W' (rng1I ca)) :=
  PI.imp (pi_range1 hg hm ha (starEach_cons hp)) fun σ H R' ⟨ι, E, σE, R, rs, k⟩ => ⟨ι, E, σE, R, rs, (Rs.bind k).imp fun xs E1 h1 => fun ι1 H1 vs x1 R1 rws => by
    obtain ⟨x, rfl, h2⟩ := Rs.one h1
    obtain ⟨v, rfl, rv⟩ := one_ok rws
    cases x with
    | int j =>
      unfold rng1F at h2
      dsimp only at h2
      split at h2
      · rename_i hc
        rw [two62_eq] at hc
        exact ⟨j, by rw [show v = .int j from rv], hc.1, hc.2, h2.ok ι1 H1 _ x1 R1 walks_rng⟩
      · exact h2.none.elim
    | _ => exact h2.none.elim⟩
/-! ### enumerate of a list, zip of two lists or of two tuples -/
def enumSrc (s : Src) : Src := ⟨s.ws.mapIdx fun i w => .tup [.int i, w], s.ls⟩
theorem walks_enum {E : Hh} (R : Rel M ι E H) {i : Nat} {ws : List W} {a : Addr} (h : seqOf E (.ref i) = some ws) (ha : ι[i]? = some a) : Walks M (Ite M.K a) ι H (enumSrc ⟨ws, [.l i ws]⟩) where
  go := fun j ι' E' H' hj x R' st => by
    have hj : j < (ws.mapIdx fun i w => (.tup [.int i, w] : W)).length := hj
    rw [List.length_mapIdx] at hj
    obtain ⟨vs, hq, r⟩ := at_ref R' (stay_at st (List.mem_singleton.mpr rfl)) (pre_get x.pre ha)
    obtain ⟨v, hv, _⟩ := r.get (List.getElem?_eq_getElem hj)
    exact ⟨vs, v, hq, hv⟩
  stop := fun ι' E' H' x R' st => by
    obtain ⟨vs, hq, r⟩ := at_ref R' (stay_at st (List.mem_singleton.mpr rfl)) (pre_get x.pre ha)
    refine ⟨vs, hq, ?_⟩
    show vs.length ≤ (ws.mapIdx fun i w => (.tup [.int i, w] : W)).length
    rw [List.length_mapIdx, ← r.length]
    exact Nat.le_refl _
  yld := fun j ι' E' H' v H'' hj x R' st y => by
    have hj : j < (ws.mapIdx fun i w => (.tup [.int i, w] : W)).length := hj
    rw [List.length_mapIdx] at hj
    obtain ⟨vs, hq, r⟩ := at_ref R' (stay_at st (List.mem_singleton.mpr rfl)) (pre_get x.pre ha)
    obtain ⟨T, z, rfl, hT, rfl, y⟩ := y
    obtain ⟨u, hu, ru⟩ := r.get (List.getElem?_eq_getElem hj)
    have e := y vs hq
    rw [hu] at e
    obtain rfl := Option.some.inj e
    obtain ⟨R'', x''⟩ := Rel.newT (ho := .tup [.int (j : Nat), u]) R' hT
    refine ⟨R'', x'', .tup [.int j, ws[j]], ?_, T, [.int j, u], rfl, SqT.of upd_same, .int j, [u], rfl, rfl, u, [], rfl, ru.ext x'', rfl⟩
    show (ws.mapIdx fun i w => (.tup [.int i, w] : W))[j]? = _
    rw [List.getElem?_mapIdx, List.getElem?_eq_getElem hj]
    rfl
def enumI (ca : Act (List W)) : Act Src := fun σ E => andThen (ca σ E) fun xs E1 => match xs with
  | [.ref i] => match seqOf E1 (.ref i) with
    | some ws => some (.ok (enumSrc ⟨ws, [.l i ws]⟩) E1)
    | none => none
  | _ => none
theorem pi_enumG {elts : List Expr} {kk : Nat} {tpos : Pos} {a : Expr} {p pos : Pos} {ca : Act (List W)} (at' : X.K = M.K) (hg : Gl X "enumerate") (hm : X.mg "enumerate" = none) (hp : plainArg a = true) (ha : PA X [a] (SA M W' ca)) :
    PI X (.Tuple elts kk tpos) (.Call (.Name "enumerate" p) [a] [] pos) (SI M W' (enumI ca)) :=
  PI.imp (pi_enum hg hm ha (starEach_cons hp)) fun σ H R' ⟨ι, E, σE, R, rs, k⟩ => ⟨ι, E, σE, R, rs, (Rs.bind k).imp fun xs E1 h1 => fun ι1 H1 vs x1 R1 rws => by
    have key : ∃ i ws, xs = [.ref i] ∧ seqOf E1 (.ref i) = some ws ∧ Rs M W' ι σ H (some (.ok (enumSrc ⟨ws, [.l i ws]⟩) E1)) (fun s E' => ∀ ι1 H1 J, Ext M ι H ι1 H1 → Rel M ι1 E' H1 → Walks M J ι1 H1 s → R' J H1) := by
      match xs, h1 with
      | [.ref i], h1 =>
        cases e : seqOf E1 (.ref i) with
        | none => dsimp only at h1; rw [e] at h1; exact h1.none.elim
        | some ws => dsimp only at h1; rw [e] at h1; exact ⟨i, ws, rfl, e, h1⟩
      | [], h1 => exact h1.none.elim
      | [.non], h1 => exact h1.none.elim
      | [.bl _], h1 => exact h1.none.elim
      | [.str _], h1 => exact h1.none.elim
      | [.tup _], h1 => exact h1.none.elim
      | [.int _], h1 => exact h1.none.elim
      | [.fn _], h1 => exact h1.none.elim
      | [.ty _], h1 => exact h1.none.elim
      | a :: b :: c, h1 => cases a <;> exact h1.none.elim
    obtain ⟨i, ws, rfl, e, h2⟩ := key
    obtain ⟨v, rfl, rv⟩ := one_ok rws
    obtain ⟨a, ha, rfl⟩ := rv
    obtain ⟨us, hq, r⟩ := at_ref R1 e ha
    rw [at']
    exact ⟨a, us, rfl, hq, h2.ok ι1 H1 _ x1 R1 (walks_enum R1 e ha)⟩⟩
end G

set_option Elab.async false
set_option linter.all false
set_option maxRecDepth 100000
set_option maxHeartbeats 4000000
namespace G
open PySem L2 PySem.Spec PyProof.Rows
variable {M : Md} {H H' H1 H2 : Hp} {ι ι' ι1 ι2 : List Addr} {X : Cx} {W' : WX}

/-! ### a list or a tuple (true), as zip and enumerate walk it -/
def SqB (K : PySem.W.Frag) : Bool → Hp → Addr → List V → Prop
  | true => SqT K
  | false => SqL K
def IsB : Bool → Heap → Addr → Array Value → Prop
  | true => fun h a its => h.IsTuple a its
  | false => fun h a its => h.IsList a its
def ItB : Bool → Heap → Addr → Addr → Nat → Prop
  | true => fun h it a i => h.IsTupleIter it a i
  | false => fun h it a i => h.IsListIter it a i
def obB : Bool → Addr → Obj
  | true => fun a => { cls := .type "tuple_iterator", data := .fields #[.ref a, .int 0 0] }
  | false => fun a => { cls := .type "list_iterator", data := .fields #[.ref a, .int 0 0] }
theorem seqB_of {pins : List (Addr × Obj)} {σ : L2.St} {s : Shared} {k : Bool} {a : Addr} {xs : List V} (I : Inv X pins σ H s) (h : SqB X.K k H a xs) : ∃ its, Vals xs its ∧ IsB k s.heap a its.toArray := by
  cases k with
  | true => obtain ⟨its, rv, p, _⟩ := I.tuple h; exact ⟨its, rv, p⟩
  | false => obtain ⟨its, rv, p, _⟩ := I.list h; exact ⟨its, rv, p.isList⟩
theorem seqB_one {pins : List (Addr × Obj)} {σ : L2.St} {s : Shared} {k : Bool} {a : Addr} {xs ys : List V} (I : Inv X pins σ H s) (h : SqB X.K k H a xs) (g : SqB X.K k H a ys) : xs = ys := by
  cases k with
  | true => exact I.tuple_inj h g
  | false => exact I.list_inj h g
theorem drawsB {P : Program} {w : World} {A : Around} (hh : A.handled = none) (k : Bool) (it a : Addr) (hne : a ≠ it) (its : Array Value) :
    Draws P w A it [it, a] its.size (fun i v => its[i]? = some v) (fun i h => ItB k h it a i ∧ IsB k h a its) := by
  cases k with
  | true => exact Draws.tuple hh it a hne its
  | false => exact Draws.list hh it a hne its
theorem beginsB (k : Bool) (a : Addr) (its : Array Value) : Begins (.ref a) (obB k a) fun h => IsB k h a its := by
  cases k with
  | true => exact begins_tuple a its
  | false => exact begins_list a its
theorem itB_new {k : Bool} {h : Heap} {it a : Addr} (e : h.get? it = some (obB k a)) : ItB k h it a 0 := by
  cases k with
  | true => exact ⟨_, e, rfl, rfl⟩
  | false => exact ⟨_, e, rfl, rfl⟩
theorem itB_keep {k : Bool} {h h' : Heap} {it a : Addr} {i : Nat} (st : ItB k h it a i) (q : ∀ o, h.get? it = some o → h'.get? it = some o) : ItB k h' it a i := by
  cases k with
  | true => exact Heap.IsTupleIter.at st q
  | false => exact Heap.IsListIter.at st q
theorem itB_obj {k : Bool} {h : Heap} {it a : Addr} {i : Nat} (st : ItB k h it a i) : ∃ o, h.get? it = some o ∧ ∀ v, o.data ≠ .cell v := by
  cases k with
  | true => obtain ⟨o, e, _, d⟩ := st; exact ⟨o, e, fun v q => by rw [d] at q; cases q⟩
  | false => obtain ⟨o, e, _, d⟩ := st; exact ⟨o, e, fun v q => by rw [d] at q; cases q⟩
theorem isB_lt {k : Bool} {h : Heap} {a : Addr} {its : Array Value} (st : IsB k h a its) : a < h.objs.size := by
  cases k with
  | true => obtain ⟨o, e, _⟩ := st; exact Heap.lt_size e
  | false => obtain ⟨o, e, _⟩ := st; exact Heap.lt_size e
/-! ### zip -/
def ItzB (K : PySem.W.Frag) (k1 k2 : Bool) (a b : Addr) : It where
  go i H := ∃ (xs ys : List V) (x y : V), SqB K k1 H a xs ∧ SqB K k2 H b ys ∧ xs[i]? = some x ∧ ys[i]? = some y
  yld i H v H' := ∃ T x y, v = .ref T ∧ H T = none ∧ H' = upd H T (.tup [x, y]) ∧ (∀ xs, SqB K k1 H a xs → xs[i]? = some x) ∧ ∀ ys, SqB K k2 H b ys → ys[i]? = some y
  stop i H := ∃ (xs ys : List V), SqB K k1 H a xs ∧ SqB K k2 H b ys ∧ i ≤ xs.length ∧ i ≤ ys.length ∧ (i = xs.length ∨ i = ys.length)
theorem turn_zipB {P : Program} {w : World} {K : PySem.W.Frag} {elts : List Expr} {kk : Nat} {tpos : Pos} {k1 k2 : Bool} {a b z TI TO i1 i2 : Addr} (D : ZipSep2 z TI TO i1 i2 [i1, a] [i2, b]) (na : a ≠ i1) (nb : b ≠ i2) :
    Turn P w K (.Tuple elts kk tpos) (ItzB K k1 k2 a b) [z, TI, TO, i1, i2] z (fun i h => IsZip h z TI TO .none ∧ IsTupOf2 h TI (.ref i1) (.ref i2) ∧ (∃ x y, IsTupOf2 h TO x y) ∧ ItB k1 h i1 a i ∧ ItB k2 h i2 b i) where
  mem := List.mem_cons_self ..
  obj := fun i h ⟨hz, hI, ⟨x, y, hO⟩, h1, h2⟩ c hc => by
    simp only [List.mem_cons, List.not_mem_nil, or_false] at hc
    rcases hc with rfl | rfl | rfl | rfl | rfl
    · exact ⟨_, hz, fun v q => nomatch q⟩
    · exact ⟨_, hI, fun v q => nomatch q⟩
    · exact ⟨_, hO, fun v q => nomatch q⟩
    · exact itB_obj h1
    · exact itB_obj h2
  keep := fun i h h' ⟨hz, hI, ⟨x, y, hO⟩, h1, h2⟩ k => ⟨k z (by simp) _ hz, k TI (by simp) _ hI, ⟨x, y, k TO (by simp) _ hO⟩, itB_keep h1 fun o q => k i1 (by simp) o q, itB_keep h2 fun o q => k i2 (by simp) o q⟩
  item := by
    rintro X rfl rfl rfl hc i pins s σ H E I hf ⟨hz, hI, ⟨x0, y0, hO⟩, h1, h2⟩ ⟨xs, ys, x, y, qx, qy, hx, hy⟩
    obtain ⟨ux, rv, p⟩ := seqB_of I qx
    obtain ⟨uy, rv2, p2⟩ := seqB_of I qy
    obtain ⟨u, hu, ru⟩ := rv.get hx
    obtain ⟨u2, hu2, ru2⟩ := rv2.get hy
    have hh : X.A.in1.handled = none := I.ok.hd hc
    have lz : z < s.heap.objs.size := Heap.lt_size hz
    have l1 : i < ux.toArray.size := by simpa using (List.getElem?_eq_some_iff.mp hu).1
    have l2 : i < uy.toArray.size := by simpa using (List.getElem?_eq_some_iff.mp hu2).1
    refine wpAny_pyNext_zipD2_item D (drawsB hh k1 i1 a na _) (drawsB hh k2 i2 b nb _) hz hI hO ⟨h1, p⟩ ⟨h2, p2⟩ l1 l2 fun v1 v2 h' tk e1 e2 z' O' s1 s2 hT hsz hk => ?_
    have e1 : u = v1 := Option.some.inj (by rw [← hu, ← e1]; simp)
    have e2 : u2 = v2 := Option.some.inj (by rw [← hu2, ← e2]; simp)
    subst e1 e2
    refine ⟨_, rfl, wpAny_letOwnedTupleGo_zip (s := { s with heap := h', toks := tk }) z' fun h'' z'' sb => ?_⟩
    have hT2 : h''.get? s.heap.objs.size = some { cls := .type "tuple", data := .seq #[u, u2] } := (sb.2 _ (Nat.ne_of_gt lz)).trans hT
    have new : ObjOk X.prog X.w (upd H s.heap.objs.size (.tup [x, y])) h'' s.heap.objs.size (.tup [x, y]) := ⟨(by decide : (2 : Nat) ≤ sizeLine), _, .cons ru (.cons ru2 .nil), _, hT2, rfl, _, rfl⟩
    have ks : ∀ c o, c ∉ [z, TI, TO, i1, i2] → s.heap.get? c = some o → h''.get? c = some o := fun c o hc q => by
      simp only [List.mem_cons, List.not_mem_nil, or_false, not_or] at hc
      exact (sb.2 c hc.1).trans (hk c o hc.1 hc.2.2.1 hc.2.2.2.1 hc.2.2.2.2 q)
    have I1 : Inv X pins σ (upd H s.heap.objs.size (.tup [x, y])) { s with heap := h'', toks := tk } := I.turnedNew ks hf (Nat.le_refl _) new
    refine ⟨.ref s.heap.objs.size, _, I1, rfl, ⟨_, x, y, rfl, I.hok.fresh (Nat.le_refl _), rfl, fun l hl => by rw [seqB_one I hl qx]; exact hx, fun l hl => by rw [seqB_one I hl qy]; exact hy⟩, ⟨z'', (sb.2 _ D.TIz).trans (hk _ _ D.TIz D.TITO D.TIi1 D.TIi2 hI), ⟨u, u2, (sb.2 _ D.TOz).trans O'⟩, itB_keep s1.1 fun o q => (sb.2 _ (Ne.symm D.zi1)).trans q, itB_keep s2.1 fun o q => (sb.2 _ (Ne.symm D.zi2)).trans q⟩, fun c hcm => ?_⟩
    have lt : c < s.heap.objs.size := by
      simp only [List.mem_cons, List.not_mem_nil, or_false] at hcm
      rcases hcm with rfl | rfl | rfl | rfl | rfl
      · exact lz
      · exact Heap.lt_size hI
      · exact Heap.lt_size hO
      · obtain ⟨_, e, _⟩ := itB_obj h1; exact Heap.lt_size e
      · obtain ⟨_, e, _⟩ := itB_obj h2; exact Heap.lt_size e
    rw [upd_ne (Nat.ne_of_lt lt)]
    exact (hf c hcm).1
  done := by
    rintro X rfl rfl rfl hc i pins s σ H E I hf ⟨hz, hI, ⟨x0, y0, hO⟩, h1, h2⟩ ⟨xs, ys, qx, qy, b1, b2, b3⟩
    obtain ⟨ux, rv, p⟩ := seqB_of I qx
    obtain ⟨uy, rv2, p2⟩ := seqB_of I qy
    have hh : X.A.in1.handled = none := I.ok.hd hc
    have e1 : ux.toArray.size = xs.length := by rw [rv.length]; simp
    have e2 : uy.toArray.size = ys.length := by rw [rv2.length]; simp
    refine wpAny_pyNext_zipD2_end D (drawsB hh k1 i1 a na _) (drawsB hh k2 i2 b nb _) hz hI hO ⟨h1, p⟩ ⟨h2, p2⟩ (by rw [e1]; exact b1) (by rw [e2]; exact b2) (by rw [e1, e2]; exact b3) fun h' tk hk => ⟨rfl, I.turnedL (fun c o hc q => ?_) hf⟩
    simp only [List.mem_cons, List.not_mem_nil, or_false, not_or] at hc
    exact hk c o hc.1 hc.2.2.1 hc.2.2.2.1 hc.2.2.2.2 q
  self := fun A i s Q E st h => wpAny_pyIter_zip st.1 h
theorem fresh_fp {pins : List (Addr × Obj)} {σ : L2.St} {s : Shared} {c : Addr} (I : Inv X pins σ H s) (h : s.heap.objs.size ≤ c) : FpOk X pins H c := I.fpOk h (I.hok.fresh h)
def iZipB (K : PySem.W.Frag) (ta : TA) : TI := fun σ H R => ta σ H fun vs H1 => ∃ k1 k2 a b xs ys, vs = [.ref a, .ref b] ∧ SqB K k1 H1 a xs ∧ SqB K k2 H1 b ys ∧ R (ItzB K k1 k2 a b) H1
theorem pi_zipB {e e2 : Expr} {ta : TA} {p pos tpos : Pos} {elts : List Expr} {kk : Nat} (hg : Gl X "zip") (hm : X.mg "zip" = none) (hp : [e, e2].all plainArg = true) (ha : PA X [e, e2] ta) :
    PI X (.Tuple elts kk tpos) (.Call (.Name "zip" p) [e, e2] [] pos) (iZipB X.K ta) := ⟨fun pins s σ H R I h => by
  rw [List.all_cons, Bool.and_eq_true] at hp
  refine Call_ (ld_blt I hg hm PyProof.Rows.boot_zip (PyProof.Rows.callWith_type1 (thn (ha.run pos pins s σ H _ I h) fun us s1 hr => ?_) (starEach_cons hp.1) (starEach_plain hp.2)))
  obtain ⟨vs, H1, I1, r1, k1, k2, a, b, xs, ys, rfl, qx, qy, q⟩ := hr
  obtain ⟨v, v2, rfl, ra, rb⟩ : ∃ v v2, us = [v, v2] ∧ RelV (.ref a) v ∧ RelV (.ref b) v2 := by
    cases r1 with
    | cons r rr => cases rr with
      | cons r' rr => cases rr; exact ⟨_, _, rfl, r, r'⟩
  cases ra
  cases rb
  obtain ⟨ux, rv, px⟩ := seqB_of I1 qx
  obtain ⟨uy, rv2, py⟩ := seqB_of I1 qy
  have l1 := isB_lt px
  have l2 := isB_lt py
  refine zip_begins2 (beginsB k1 a _) (beginsB k2 b _) px py fun h' z' I' O' j1 j2 hsz hk => wpAny_pyIter_zip z' ?_
  have I2 : Inv X pins σ H1 { s1 with heap := h' } := I1.kept (t' := s1.toks) hk
  refine ⟨_, _, _, _, H1, rfl, I2, turn_zipB (i1 := s1.heap.objs.size) (i2 := s1.heap.objs.size + 1) (zip_sep2 (N := s1.heap.objs.size) (fun c hc => by rw [List.mem_singleton.mp hc]; exact l1) (fun c hc => by rw [List.mem_singleton.mp hc]; exact l2)) (Nat.ne_of_lt l1) (Nat.ne_of_lt (Nat.lt_succ_of_lt l2)), ⟨z', I', ⟨_, _, O'⟩, itB_new j1, itB_new j2⟩, fun c hc => fresh_fp I1 ?_, q⟩
  simp only [List.mem_cons, List.not_mem_nil, or_false] at hc
  rcases hc with rfl | rfl | rfl | rfl | rfl
  · exact Nat.le_add_right _ _
  · exact Nat.le_add_right _ _
  · exact Nat.le_add_right _ _
  · exact Nat.le_refl _
  · exact Nat.le_add_right _ _⟩
/-! ### enumerate -/
theorem meets_enumB {v : Value} {o : Obj} {G : Heap → Prop} (B : Begins v o G) :
    Meets (Builtin.«enumerate.__new__» ⟨[.type "enumerate", v], []⟩) (fun _ R s => G s.heap ∧ R (.ok (.ret (.ref (s.heap.push o).objs.size))) { s with heap := (s.heap.push o).push { cls := .type "enumerate", data := .fields #[.none, .bool false, .ref s.heap.objs.size, rawInt 0, .none, .none] } }) :=
  .of_wp fun P w A R ⟨hp, g, d, tk, os⟩ ⟨h1, h⟩ => by
    have hsub := sub_enumerate
    have bg : ∀ {B' : Around} {E Q : Value → Shared → Prop}, Q (.ref hp.objs.size) ⟨hp.push o, g, d, tk, os⟩ → wpAny (model P w) B' (pyIter v) Q E ⟨hp, g, d, tk, os⟩ := fun q => B.iter P w _ _ ⟨hp, g, d, tk, os⟩ _ h1 q
    wp_walk using bg
    refine wpAny_stack_any fun st => wpAny_pure ?_
    split
    · rename_i c _ _ _ _ _
      cases (c == Value.type "enumerate") <;> (wp_walk using bg; exact ⟨_, rfl, h⟩)
    · wp_walk using bg
      exact ⟨_, rfl, h⟩
theorem enum_beginsB {P : Program} {w : World} {A : Around} {E : Value → Shared → Prop} {s : Shared} {v : Value} {o : Obj} {G : Heap → Prop} {Q : Value → Shared → Prop} (B : Begins v o G) (h1 : G s.heap)
    (h : ∀ h', IsEnum h' (s.heap.objs.size + 1) s.heap.objs.size 0 .none → h'.get? s.heap.objs.size = some o → (∀ b q, s.heap.get? b = some q → h'.get? b = some q) → Q (.ref (s.heap.objs.size + 1)) { s with heap := h' }) :
    wpAny (model P w) A (call (.type "enumerate") [v]) Q E s := by
  refine callType_new F.called_enumerate (by decide) (F.typeCall_enumerate_1 _) (F.newCall_enumerate_1 _) (fun x => F.args_object_init_2 x _) F.entry_enumerate_new (meets_enumB B) ⟨h1, ?_⟩
  have hz : (s.heap.push o).objs.size = s.heap.objs.size + 1 := Heap.size_push ..
  let ob : Obj := { cls := .type "enumerate", data := .fields #[.none, .bool false, .ref s.heap.objs.size, rawInt 0, .none, .none] }
  have he : IsEnum ((s.heap.push o).push ob) (s.heap.objs.size + 1) s.heap.objs.size 0 .none := by
    have q := Heap.get?_push_size (s.heap.push o) (o := ob) rfl
    rw [hz] at q
    exact q
  show _ ∧ _
  rw [hz]
  exact ⟨⟨_, he, rfl⟩, h _ he (Heap.get?_push_of_some _ (Heap.get?_push_size _ B.free)) fun b q x => Heap.get?_push_of_some _ (Heap.get?_push_of_some _ x)⟩
def IteB (K : PySem.W.Frag) (k : Bool) (a : Addr) : It where
  go i H := ∃ (xs : List V) (x : V), SqB K k H a xs ∧ xs[i]? = some x
  yld i H v H' := ∃ T x, v = .ref T ∧ H T = none ∧ H' = upd H T (.tup [.int (i : Nat), x]) ∧ ∀ xs, SqB K k H a xs → xs[i]? = some x
  stop i H := ∃ xs : List V, SqB K k H a xs ∧ xs.length = i
theorem turn_enumB {P : Program} {w : World} {K : PySem.W.Frag} {elts : List Expr} {kk : Nat} {tpos : Pos} {k : Bool} {a e it : Addr} (ne : e ≠ it) (na : a ≠ it) (nea : e ≠ a) :
    Turn P w K (.Tuple elts kk tpos) (IteB K k a) [e, it] e (fun i h => (∃ old, IsEnum h e it (i : Int) old) ∧ ItB k h it a i) where
  mem := List.mem_cons_self ..
  obj := fun i h ⟨⟨old, he⟩, h1⟩ c hc => by
    simp only [List.mem_cons, List.not_mem_nil, or_false] at hc
    rcases hc with rfl | rfl
    · exact ⟨_, he, fun v q => nomatch q⟩
    · exact itB_obj h1
  keep := fun i h h' ⟨⟨old, he⟩, h1⟩ k => ⟨⟨old, k e (by simp) _ he⟩, itB_keep h1 fun o q => k it (by simp) o q⟩
  item := by
    rintro X rfl rfl rfl hc i pins s σ H E I hf ⟨⟨old, he⟩, h1⟩ ⟨xs, x, qx, hx⟩
    obtain ⟨ux, rv, p⟩ := seqB_of I qx
    obtain ⟨u, hu, ru⟩ := rv.get hx
    have hh : X.A.in1.handled = none := I.ok.hd hc
    have le : e < s.heap.objs.size := Heap.lt_size he
    have l1 : i < ux.toArray.size := by simpa using (List.getElem?_eq_some_iff.mp hu).1
    refine wpAny_pyNext_enum_itemC (drawsB hh k it a na _) he ⟨h1, p⟩ l1 ne (by simp [ne, nea]) fun v1 h' tk e1 ho s1 hT hsz hk => ?_
    have e1 : u = v1 := Option.some.inj (by rw [← hu, ← e1]; simp)
    subst e1
    refine ⟨_, rfl, wpAny_letOwnedTupleGo_enum (s := { s with heap := h', toks := tk + 1 }) ho fun h'' he' sb => ?_⟩
    have hT2 : h''.get? s.heap.objs.size = some { cls := .type "tuple", data := .seq #[.int i tk, u] } := (sb.2 _ (Nat.ne_of_gt le)).trans hT
    have new : ObjOk X.prog X.w (upd H s.heap.objs.size (.tup [.int (i : Nat), x])) h'' s.heap.objs.size (.tup [.int (i : Nat), x]) := ⟨(by decide : (2 : Nat) ≤ sizeLine), _, .cons ⟨_, rfl⟩ (.cons ru .nil), _, hT2, rfl, _, rfl⟩
    have ks : ∀ c o, c ∉ [e, it] → s.heap.get? c = some o → h''.get? c = some o := fun c o hc q => by
      simp only [List.mem_cons, List.not_mem_nil, or_false, not_or] at hc
      exact (sb.2 c hc.1).trans (hk c o hc.1 hc.2 q)
    have I1 : Inv X pins σ (upd H s.heap.objs.size (.tup [.int (i : Nat), x])) { s with heap := h'', toks := tk + 1 } := I.turnedNew ks hf (Nat.le_refl _) new
    refine ⟨.ref s.heap.objs.size, _, I1, rfl, ⟨_, x, rfl, I.hok.fresh (Nat.le_refl _), rfl, fun l hl => by rw [seqB_one I hl qx]; exact hx⟩, ⟨⟨u, ?_⟩, itB_keep s1.1 fun o q => (sb.2 _ (Ne.symm ne)).trans q⟩, fun c hcm => ?_⟩
    · rw [show ((i + 1 : Nat) : Int) = (i : Int) + 1 by omega]
      exact he'
    have lt : c < s.heap.objs.size := by
      simp only [List.mem_cons, List.not_mem_nil, or_false] at hcm
      rcases hcm with rfl | rfl
      · exact le
      · obtain ⟨_, e, _⟩ := itB_obj h1; exact Heap.lt_size e
    rw [upd_ne (Nat.ne_of_lt lt)]
    exact (hf c hcm).1
  done := by
    rintro X rfl rfl rfl hc i pins s σ H E I hf ⟨⟨old, he⟩, h1⟩ ⟨xs, qx, e1⟩
    obtain ⟨ux, rv, p⟩ := seqB_of I qx
    have hh : X.A.in1.handled = none := I.ok.hd hc
    have e2 : ux.toArray.size = i := by rw [← e1, rv.length]; simp
    refine wpAny_pyNext_enum_endD (drawsB hh k it a na ux.toArray) he (by rw [e2]; exact ⟨h1, p⟩) fun h' hk => ⟨rfl, I.turnedL (t' := s.toks) (fun c o hc q => ?_) hf⟩
    simp only [List.mem_cons, List.not_mem_nil, or_false, not_or] at hc
    exact hk c o hc.2 q
  self := fun A i s Q E st h => by
    obtain ⟨⟨_, he⟩, _⟩ := st
    exact wpAny_pyIter_enum he h
def iEnumB (K : PySem.W.Frag) (ta : TA) : TI := fun σ H R => ta σ H fun vs H1 => ∃ k a xs, vs = [.ref a] ∧ SqB K k H1 a xs ∧ R (IteB K k a) H1
theorem pi_enumB {e : Expr} {ta : TA} {p pos tpos : Pos} {elts : List Expr} {kk : Nat} (hg : Gl X "enumerate") (hm : X.mg "enumerate" = none) (hp : plainArg e = true) (ha : PA X [e] ta) :
    PI X (.Tuple elts kk tpos) (.Call (.Name "enumerate" p) [e] [] pos) (iEnumB X.K ta) := ⟨fun pins s σ H R I h => by
  refine Call_ (ld_blt I hg hm PyProof.Rows.boot_enumerate (PyProof.Rows.callWith_type1 (thn (ha.run pos pins s σ H _ I h) fun us s1 hr => ?_) (starEach_cons hp) rfl))
  obtain ⟨vs, H1, I1, r1, k, a, xs, rfl, qx, q⟩ := hr
  obtain ⟨v, rfl, ra⟩ : ∃ v, us = [v] ∧ RelV (.ref a) v := by
    cases r1 with
    | cons r rr => cases rr; exact ⟨_, rfl, r⟩
  cases ra
  obtain ⟨ux, rv, px⟩ := seqB_of I1 qx
  have l1 := isB_lt px
  refine enum_beginsB (beginsB k a _) px fun h' z' j1 hk => wpAny_pyIter_enum z' ?_
  have I2 : Inv X pins σ H1 { s1 with heap := h' } := I1.kept (t' := s1.toks) hk
  refine ⟨_, _, _, _, H1, rfl, I2, turn_enumB (it := s1.heap.objs.size) (Nat.succ_ne_self _) (Nat.ne_of_lt l1) (Nat.ne_of_gt (Nat.lt_succ_of_lt l1)), ⟨⟨.none, z'⟩, itB_new j1⟩, fun c hc => fresh_fp I1 ?_, q⟩
  simp only [List.mem_cons, List.not_mem_nil, or_false] at hc
  rcases hc with rfl | rfl
  · exact Nat.le_add_right _ _
  · exact Nat.le_refl _⟩
/-! ### what they give -/
/-- the sequence at a gives these items, as long as its lists stay -/
def Stands (M : Md) (ι1 : List Addr) (H1 : Hp) (k : Bool) (a : Addr) (s : Src) : Prop := ∀ ι' E' H', Ext M ι1 H1 ι' H' → Rel M ι' E' H' → stay E' s.ls = true → ∃ vs, SqB M.K k H' a vs ∧ RelWs M H' ι' s.ws vs
def srcSq (E : Hh) : W → Option Src
  | .tup ws => some ⟨ws, []⟩
  | .ref i => match seqOf E (.ref i) with
    | some ws => some ⟨ws, [.l i ws]⟩
    | none => none
  | _ => none
theorem wEq_refl : ∀ w : W, wEq w w = true := by
  intro w
  induction w using W.rec (motive_2 := fun ws => wEqs ws ws = true) with
  | non => rfl
  | bl b => simp [wEq]
  | int b => simp [wEq]
  | str b => simp [wEq]
  | tup ws ih => simpa [wEq] using ih
  | ref i => simp [wEq]
  | fn x => simp [wEq]
  | ty n => simp [wEq]
  | nil => rfl
  | cons a b iha ihb => simp [wEqs, iha, ihb]
theorem wEqs_refl : ∀ ws : List W, wEqs ws ws = true
  | [] => rfl
  | w :: ws => by simp [wEqs, wEq_refl w, wEqs_refl ws]
theorem srcSq_ok {E : Hh} {x : W} {s : Src} {v : V} (R : Rel M ι E H) (rx : RelW M H ι x v) (e : srcSq E x = some s) : ∃ k a xs, v = .ref a ∧ SqB M.K k H a xs ∧ Stands M ι H k a s := by
  cases x with
  | tup ws =>
    obtain rfl := Option.some.inj e
    obtain ⟨a, vs, rfl, hq, r⟩ := rx
    exact ⟨true, a, vs, rfl, hq, fun ι' E' H' y R' _ => ⟨vs, y.tup _ _ hq, r.ext y⟩⟩
  | ref i =>
    unfold srcSq at e
    dsimp only at e
    cases eq : seqOf E (.ref i) with
    | none => rw [eq] at e; cases e
    | some ws =>
      rw [eq] at e
      obtain rfl := Option.some.inj e
      obtain ⟨a, ha, rfl⟩ := rx
      obtain ⟨vs, hq, _⟩ := at_ref R eq ha
      exact ⟨false, a, vs, rfl, hq, fun ι' E' H' y R' st => at_ref R' (stay_at st (List.mem_singleton.mpr rfl)) (pre_get y.pre ha)⟩
  | _ => cases e
theorem stay_append {E : Hh} {l1 l2 : List Lk} : stay E (l1 ++ l2) = (stay E l1 && stay E l2) := by
  induction l1 with
  | nil => rfl
  | cons p r ih => rw [List.cons_append, stay, stay, ih, Bool.and_assoc]
def zipSrc (s t : Src) : Src := ⟨List.zipWith (fun x y => .tup [x, y]) s.ws t.ws, s.ls ++ t.ls⟩
theorem walks_zipB {k1 k2 : Bool} {a b : Addr} {s t : Src} (h1 : Stands M ι H k1 a s) (h2 : Stands M ι H k2 b t) : Walks M (ItzB M.K k1 k2 a b) ι H (zipSrc s t) := by
  have two : ∀ {ι' E' H'}, Ext M ι H ι' H' → Rel M ι' E' H' → stay E' (s.ls ++ t.ls) = true → ∃ vs us, SqB M.K k1 H' a vs ∧ RelWs M H' ι' s.ws vs ∧ SqB M.K k2 H' b us ∧ RelWs M H' ι' t.ws us := fun {ι' E' H'} x R st => by
    rw [stay_append, Bool.and_eq_true] at st
    obtain ⟨vs, q1, r1⟩ := h1 ι' E' H' x R st.1
    obtain ⟨us, q2, r2⟩ := h2 ι' E' H' x R st.2
    exact ⟨vs, us, q1, r1, q2, r2⟩
  have len : (zipSrc s t).ws.length = min s.ws.length t.ws.length := List.length_zipWith
  refine ⟨fun j ι' E' H' hj x R st => ?_, fun ι' E' H' x R st => ?_, fun j ι' E' H' v H'' hj x R st y => ?_⟩
  · obtain ⟨vs, us, q1, r1, q2, r2⟩ := two x R st
    rw [len] at hj
    obtain ⟨v, hv, _⟩ := r1.get (List.getElem?_eq_getElem (Nat.lt_of_lt_of_le hj (Nat.min_le_left _ _)))
    obtain ⟨u, hu, _⟩ := r2.get (List.getElem?_eq_getElem (Nat.lt_of_lt_of_le hj (Nat.min_le_right _ _)))
    exact ⟨vs, us, v, u, q1, q2, hv, hu⟩
  · obtain ⟨vs, us, q1, r1, q2, r2⟩ := two x R st
    have e1 := r1.length
    have e2 := r2.length
    rw [len]
    exact ⟨vs, us, q1, q2, by omega, by omega, by omega⟩
  · obtain ⟨vs, us, q1, r1, q2, r2⟩ := two x R st
    rw [len] at hj
    have g1 : s.ws[j]? = some s.ws[j] := List.getElem?_eq_getElem (Nat.lt_of_lt_of_le hj (Nat.min_le_left _ _))
    have g2 : t.ws[j]? = some t.ws[j] := List.getElem?_eq_getElem (Nat.lt_of_lt_of_le hj (Nat.min_le_right _ _))
    obtain ⟨T, v1, v2, rfl, hT, rfl, f1, f2⟩ := y
    obtain ⟨u1, hu1, ru1⟩ := r1.get g1
    obtain ⟨u2, hu2, ru2⟩ := r2.get g2
    obtain rfl : u1 = v1 := Option.some.inj (hu1.symm.trans (f1 vs q1))
    obtain rfl : u2 = v2 := Option.some.inj (hu2.symm.trans (f2 us q2))
    obtain ⟨R'', x''⟩ := Rel.newT (ho := .tup [u1, u2]) R hT
    refine ⟨R'', x'', .tup [s.ws[j], t.ws[j]], ?_, T, [u1, u2], rfl, SqT.of upd_same, u1, [u2], rfl, ru1.ext x'', u2, [], rfl, ru2.ext x'', rfl⟩
    show (List.zipWith _ s.ws t.ws)[j]? = _
    rw [List.getElem?_zipWith, g1, g2]
theorem walks_enumB {k : Bool} {a : Addr} {s : Src} (h1 : Stands M ι H k a s) : Walks M (IteB M.K k a) ι H (enumSrc s) := by
  have len : (enumSrc s).ws.length = s.ws.length := List.length_mapIdx
  refine ⟨fun j ι' E' H' hj x R st => ?_, fun ι' E' H' x R st => ?_, fun j ι' E' H' v H'' hj x R st y => ?_⟩
  · obtain ⟨vs, q1, r1⟩ := h1 ι' E' H' x R st
    rw [len] at hj
    obtain ⟨v, hv, _⟩ := r1.get (List.getElem?_eq_getElem hj)
    exact ⟨vs, v, q1, hv⟩
  · obtain ⟨vs, q1, r1⟩ := h1 ι' E' H' x R st
    exact ⟨vs, q1, by rw [len, r1.length]⟩
  · obtain ⟨vs, q1, r1⟩ := h1 ι' E' H' x R st
    rw [len] at hj
    obtain ⟨T, v1, rfl, hT, rfl, f1⟩ := y
    obtain ⟨u1, hu1, ru1⟩ := r1.get (List.getElem?_eq_getElem hj)
    obtain rfl : u1 = v1 := Option.some.inj (hu1.symm.trans (f1 vs q1))
    obtain ⟨R'', x''⟩ := Rel.newT (ho := .tup [.int (j : Nat), u1]) R hT
    refine ⟨R'', x'', .tup [.int j, s.ws[j]], ?_, T, [.int j, u1], rfl, SqT.of upd_same, .int j, [u1], rfl, rfl, u1, [], rfl, ru1.ext x'', rfl⟩
    show (s.ws.mapIdx _)[j]? = _
    rw [List.getElem?_mapIdx, List.getElem?_eq_getElem hj]
    rfl
def zipF (E : Hh) (xs : List W) : Option Src := match xs with
  | [x, y] => match srcSq E x, srcSq E y with
    | some s, some t => some (zipSrc s t)
    | _, _ => none
  | _ => none
def enumF (E : Hh) (xs : List W) : Option Src := match xs with
  | [x] => match srcSq E x with
    | some s => some (enumSrc s)
    | none => none
  | _ => none
def optR {α : Type} (o : Option α) (E : Hh) : Option (Rz α) := match o with
  | some s => some (.ok s E)
  | none => none
def srcI (f : Hh → List W → Option Src) (ca : Act (List W)) : Act Src := fun σ E => andThen (ca σ E) fun xs E1 => optR (f E1 xs) E1
theorem Rs.opt {α : Type} {σ : L2.St} {G : α → Hh → Prop} {o : Option α} {E : Hh} (h : Rs M W' ι σ H (optR o E) G) : ∃ s, o = some s ∧ G s E := by
  cases o with
  | none => exact h.none.elim
  | some s => exact ⟨s, rfl, h.ok⟩
theorem pi_zipG {elts : List Expr} {kk : Nat} {tpos p pos : Pos} {e e2 : Expr} {ca : Act (List W)} (at' : X.K = M.K) (hg : Gl X "zip") (hm : X.mg "zip" = none) (hp : [e, e2].all plainArg = true) (ha : PA X [e, e2] (SA M W' ca)) :
    PI X (.Tuple elts kk tpos) (.Call (.Name "zip" p) [e, e2] [] pos) (SI M W' (srcI zipF ca)) :=
  PI.imp (pi_zipB hg hm hp ha) fun σ H R' ⟨ι, E, σE, R, rs, k⟩ => ⟨ι, E, σE, R, rs, (Rs.bind k).imp fun xs E1 h1 => fun ι1 H1 vs x1 R1 rws => by
    obtain ⟨s, e, h2⟩ := h1.opt
    unfold zipF at e
    split at e
    · rename_i x y
      split at e
      · rename_i s1 t1 e1 e2
        obtain rfl := Option.some.inj e
        obtain ⟨v, u, rfl, rx, ry⟩ := two_ok rws
        obtain ⟨k1, a, l1, rfl, q1, z1⟩ := srcSq_ok R1 rx e1
        obtain ⟨k2, b, l2, rfl, q2, z2⟩ := srcSq_ok R1 ry e2
        rw [at']
        exact ⟨k1, k2, a, b, l1, l2, rfl, q1, q2, h2 ι1 H1 _ x1 R1 (walks_zipB z1 z2)⟩
      · cases e
    · cases e⟩
theorem pi_enuG {elts : List Expr} {kk : Nat} {tpos p pos : Pos} {e : Expr} {ca : Act (List W)} (at' : X.K = M.K) (hg : Gl X "enumerate") (hm : X.mg "enumerate" = none) (hp : plainArg e = true) (ha : PA X [e] (SA M W' ca)) :
    PI X (.Tuple elts kk tpos) (.Call (.Name "enumerate" p) [e] [] pos) (SI M W' (srcI enumF ca)) :=
  PI.imp (pi_enumB hg hm hp ha) fun σ H R' ⟨ι, E, σE, R, rs, k⟩ => ⟨ι, E, σE, R, rs, (Rs.bind k).imp fun xs E1 h1 => fun ι1 H1 vs x1 R1 rws => by
    obtain ⟨s, e, h2⟩ := h1.opt
    unfold enumF at e
    split at e
    · rename_i x
      split at e
      · rename_i s1 e1
        obtain rfl := Option.some.inj e
        obtain ⟨v, rfl, rx⟩ := one_ok rws
        obtain ⟨k1, a, l1, rfl, q1, z1⟩ := srcSq_ok R1 rx e1
        rw [at']
        exact ⟨k1, a, l1, rfl, q1, h2 ι1 H1 _ x1 R1 (walks_enumB z1)⟩
      · cases e
    · cases e⟩
end G

set_option Elab.async false
set_option linter.all false
set_option maxRecDepth 100000
set_option maxHeartbeats 4000000
namespace G
open PySem L2 PySem.Spec PyProof.Rows
variable {M : Md} {H H' H1 H2 : Hp} {ι ι' ι1 ι2 : List Addr} {X : Cx} {W' : WX}

/-! ### the block of a comprehension -/
/-- no error is wanted -/
def noW : WX := fun _ _ _ _ => False
theorem takesNo : L2N.Takes X noW := fun _ _ x => by
  obtain ⟨_, _, _, _, _, _, _, _, _, _, _, _, _, _, _, _, z⟩ := x
  exact z.elim
theorem wind_no : Wind noW := fun _ _ _ _ _ h => h
theorem Rs.sure {α : Type} {σ : L2.St} {o : Option (Rz α)} {G : α → Hh → Prop} (h : Rs M noW ι σ H o G) (R : ∃ ι' H', Ext M ι H ι' H' ∧ ∀ x E', o = some (.ex x E') → Rel M ι' E' H') : ∃ a E', o = some (.ok a E') ∧ G a E' := by
  rcases h with h | ⟨x, E', e, g⟩
  · exact h
  · obtain ⟨ι', H', y, R'⟩ := R
    obtain ⟨_, _, z⟩ := g ι' H' y (R' x E' e)
    exact z.elim
theorem Rs.give {α : Type} {σ : L2.St} {o : Option (Rz α)} {G : α → Hh → Prop} {a : α} {E' : Hh} (e : o = some (.ok a E')) (g : G a E') : Rs M W' ι σ H o G := .inl ⟨a, E', e, g⟩
def wipeE (σ : Sg) : List Nat → Sg
  | [] => σ
  | v :: vs => (wipeE σ vs).set v none
theorem RelS.wipe {σE : Sg} {σ : L2.St} (rs : RelS M H ι σE σ) : ∀ vs, RelS M H ι (wipeE σE vs) (L2.wipe σ vs)
  | [] => rs
  | v :: vs => by
    have ih := RelS.wipe rs vs
    refine ⟨by show ((wipeE σE vs).set v none).length = ((L2.wipe σ vs).set v none).length; rw [List.length_set, List.length_set]; exact ih.1, fun j w e => ?_⟩
    have e : ((wipeE σE vs).set v none)[j]? = some (some w) := e
    by_cases hj : v = j
    · subst hj
      by_cases hl : v < (wipeE σE vs).length
      · rw [List.getElem?_set_self hl] at e; cases e
      · rw [List.getElem?_eq_none (by simpa using hl)] at e; cases e
    · rw [List.getElem?_set_ne hj] at e
      obtain ⟨u, e1, ru⟩ := ih.2 j w e
      exact ⟨u, by show ((L2.wipe σ vs).set v none)[j]? = _; rw [List.getElem?_set_ne hj]; exact e1, ru⟩
theorem wipe_at {σ : L2.St} {j : Nat} : ∀ vs : List Nat, (L2.wipe σ vs)[j]? = if j ∈ vs then (if j < σ.length then some none else none) else σ[j]?
  | [] => by simp [L2.wipe]
  | v :: vs => by
    show ((L2.wipe σ vs).set v none)[j]? = _
    by_cases hj : v = j
    · subst hj
      by_cases hl : v < σ.length
      · rw [List.getElem?_set_self (by rw [L2.wipe_length]; exact hl), if_pos (by simp), if_pos hl]
      · rw [List.getElem?_eq_none (by rw [List.length_set, L2.wipe_length]; exact Nat.le_of_not_lt hl), if_pos (by simp), if_neg hl]
    · rw [List.getElem?_set_ne hj, wipe_at vs]
      have : j ∈ v :: vs ↔ j ∈ vs := by simp [Ne.symm hj]
      simp only [this]
theorem wipe_wipe {σ : L2.St} {vs : List Nat} : L2.wipe (L2.wipe σ vs) vs = L2.wipe σ vs := List.ext_getElem? fun j => by
  rw [wipe_at, L2.wipe_length, wipe_at]
  split <;> rfl
theorem wipe_set {σ : L2.St} {vs : List Nat} {i : Nat} {v : Option V} (h : i ∈ vs) : L2.wipe (σ.set i v) vs = L2.wipe σ vs := List.ext_getElem? fun j => by
  rw [wipe_at, wipe_at, List.length_set]
  by_cases hj : j ∈ vs
  · rw [if_pos hj, if_pos hj]
  · rw [if_neg hj, if_neg hj, List.getElem?_set_ne (fun e => hj (by rw [← e]; exact h))]
def relN (sn names : List (Str × NameKind)) : List (Str × NameKind) := sn.map fun (n, k) => if (k == .free && (names.lookup n == some .cell)) then (n, .cell) else (n, k)
def blkG (Γ : Gm) (scope : Scope) : Gm := ⟨Γ.N, relN scope.names Γ.names, fun x => scope.names.lookup x == some .cell, fun _ => none⟩
theorem at_blk {Γ : Gm} {scope : Scope} {s : Shared} {cl : List (Str × Addr)} {C : Addr} {fp : List Addr} (a : At M Γ W' X) (hk : scope.kind = .function) : At M (blkG Γ scope) noW (X.blk s H scope (compEnvC scope cl C X.env) fp) where
  P := a.P
  w := a.w
  K := a.K
  mg := a.mg
  N := a.N
  nd := a.nd
  names := by
    show (scope.names.map fun (n, k) => if (k == .free && X.env.scope.kind == .function && X.env.scope.names.lookup n == some .cell) then (n, NameKind.cell) else (n, k)) = relN scope.names Γ.names
    rw [a.kind, a.names]
    unfold relN
    simp
  kind := hk
  calm := a.calm
  units := a.units
  tk := takesNo
  own := PassesOwn.never
  fnc := fun x h => h
theorem has_blk {P : Pg} {scope : Scope} {s : Shared} {cenv : Env} {fp : List Addr} (h : Has M P X) : Has M P (X.blk s H scope cenv fp) := ⟨h.fn⟩
/-! ### its targets -/
def SGv (M : Md) (vs : List Nat) (c : ActG) : TG := fun v σ H Q => ∃ ι E σE w, Rel M ι E H ∧ RelS M H ι σE σ ∧ RelW M H ι w v ∧ ∃ σ1 E', c w σE E = some (.ok σ1 E') ∧ ∀ ι' H' σ', Ext M ι H ι' H' → Rel M ι' E' H' → RelS M H' ι' σ1 σ' → L2.wipe σ' vs = L2.wipe σ vs → Q σ' H'
def SGsv (M : Md) (vs : List Nat) (c : ActGs) : TGs := fun us σ H Q => ∃ ι E σE ws, Rel M ι E H ∧ RelS M H ι σE σ ∧ RelWs M H ι ws us ∧ ∃ σ1 E', c ws σE E = some (.ok σ1 E') ∧ ∀ ι' H' σ', Ext M ι H ι' H' → Rel M ι' E' H' → RelS M H' ι' σ1 σ' → L2.wipe σ' vs = L2.wipe σ vs → Q σ' H'
theorem pg_noV {e : Expr} {vs : List Nat} {c : ActG} (h : ∀ w σ E, c w σ E = none) : PG X e (SGv M vs c) := ⟨fun pins s σ H v u Q I r ⟨ι, E, σE, w, _, _, _, σ1, E', q, _⟩ => by
  rw [h] at q
  cases q⟩
theorem pgs_noV {e : List Expr} {vs : List Nat} {c : ActGs} (h : ∀ w σ E, c w σ E = none) : PGs X e (SGsv M vs c) := ⟨fun pins s σ H v u Q I r ⟨ι, E, σE, w, _, _, _, σ1, E', q, _⟩ => by
  rw [h] at q
  cases q⟩
def nameV (Γ : Gm) (vs : List Nat) (x : Str) : ActG := fun w σ E => if okLoc Γ x = true then match ixOf x Γ.N with
  | some i => if vs.contains i = true then some (.ok (σ.set i (some w)) E) else none
  | none => none
  else none
theorem pg_nameV {Γ : Gm} {vs : List Nat} {x : Str} {pos : Pos} (a : At M Γ W' X) : PG X (.Name x pos) (SGv M vs (nameV Γ vs x)) := by
  by_cases hl : okLoc Γ x = true
  · cases hi : ixOf x Γ.N with
    | none => exact pg_noV fun w σ E => by unfold nameV; rw [if_pos hl, hi]
    | some i =>
      by_cases hv : vs.contains i = true
      · obtain ⟨h1, h2⟩ := okLoc_ok a hl
        refine PG.imp (pg_name (i := i) (by rw [a.N]; exact a.nd) (by rw [a.N]; exact ixOf_ok hi) h1 h2) fun v σ H Q ⟨ι, E, σE, w, R, rs, rw', σ1, E', e, k⟩ => ?_
        unfold nameV at e
        rw [if_pos hl, hi] at e
        dsimp only at e
        rw [if_pos hv] at e
        cases e
        exact k ι H _ (Ext.refl _ _) R (rs.set rw') (wipe_set (by simpa using hv))
      · exact pg_noV fun w σ E => by unfold nameV; rw [if_pos hl, hi]; dsimp only; rw [if_neg hv]
  · exact pg_noV fun w σ E => by unfold nameV; rw [if_neg hl]
theorem pgs_nilV {vs : List Nat} : PGs X [] (SGsv M vs nilG) := PGs.imp pgs_nil fun us σ H Q ⟨ι, E, σE, ws, R, rs, rw', σ1, E', e, k⟩ => by
  cases ws with
  | nil => cases e; exact ⟨rw', k ι H σ (Ext.refl _ _) R rs rfl⟩
  | cons w r => cases e
theorem pgs_consV {e : Expr} {es : List Expr} {vs : List Nat} {c : ActG} {d : ActGs} (hp : plainTg e = true) (h1 : PG X e (SGv M vs c)) (h2 : PGs X es (SGsv M vs d)) : PGs X (e :: es) (SGsv M vs (consG c d)) :=
  PGs.imp (pgs_cons h1 h2 (by rw [assignEach_cons hp]; rfl)) fun us σ H Q ⟨ι, E, σE, ws, R, rs, rw', σ1, E', e, k⟩ => by
    cases ws with
    | nil => cases e
    | cons w r =>
      obtain ⟨v, vr, rfl, r1, r2⟩ := rw'
      have e : andThen (c w σE E) (fun σ1 E1 => d r σ1 E1) = some (.ok σ1 E') := e
      cases e1 : c w σE E with
      | none => rw [e1] at e; cases e
      | some z =>
        cases z with
        | ex x E1 => rw [e1] at e; cases e
        | ok σ2 E1 =>
          rw [e1] at e
          exact ⟨v, vr, rfl, ι, E, σE, w, R, rs, r1, σ2, E1, e1, fun ι1 H1 σ' x1 R1 rs1 hw => ⟨ι1, E1, σ2, r, R1, rs1, r2.ext x1, σ1, E', e, fun ι2 H2 σ'' x2 R2 rs2 hw2 => k ι2 H2 σ'' (x1.trans x2) R2 rs2 (hw2.trans hw)⟩⟩
theorem pg_tupV {es : List Expr} {k : Nat} {pos : Pos} {vs : List Nat} {d : ActGs} (at' : X.K = M.K) (hc : X.calm = true) (hp : es.all plainTg = true) (h : PGs X es (SGsv M vs d)) : PG X (.Tuple es k pos) (SGv M vs (tupG es.length d)) :=
  PG.imp (pg_tup hc h assignEach_len (assignEach_plain hp)) fun v σ H Q ⟨ι, E, σE, w, R, rs, rw', σ1, E', e, k⟩ => by
    cases w with
    | tup ws =>
      obtain ⟨a, us, rfl, ht, rws⟩ := rw'
      have e : (if ws.length = es.length then d ws σE E else none) = some (.ok σ1 E') := e
      split at e
      · rename_i hl
        exact ⟨a, us, rfl, by rw [at']; exact ht, by rw [← rws.length]; exact hl, ι, E, σE, ws, R, rs, rws, σ1, E', e, k⟩
      · cases e
    | _ => cases e
/-- a comprehension's target: names, and tuples of these -/
def tgV (Γ : Gm) (vs : List Nat) : Nat → Expr → ActG
  | 0, _ => fun _ _ _ => none
  | n + 1, .Name x _ => nameV Γ vs x
  | n + 1, .Tuple es _ _ => if es.all plainTg = true then tupG es.length (es.foldr (fun e d => consG (tgV Γ vs n e) d) nilG) else fun _ _ _ => none
  | n + 1, _ => fun _ _ _ => none
theorem pg_tgV {Γ : Gm} {vs : List Nat} (a : At M Γ W' X) : ∀ (n : Nat) (e : Expr), PG X e (SGv M vs (tgV Γ vs n e))
  | 0, e => pg_noV fun _ _ _ => rfl
  | n + 1, e => by
    cases e with
    | Name x pos => exact pg_nameV a
    | Tuple es k pos =>
      unfold tgV
      by_cases hp : es.all plainTg = true
      · rw [if_pos hp]
        refine pg_tupV a.K a.calm hp ?_
        induction es with
        | nil => exact pgs_nilV
        | cons e es ih =>
          rw [List.all_cons, Bool.and_eq_true] at hp
          exact pgs_consV hp.1 (pg_tgV a n e) (ih hp.2)
      · rw [if_neg hp]
        exact pg_noV fun _ _ _ => rfl
    | _ => exact pg_noV fun _ _ _ => rfl
/-! ### its loops -/
abbrev ActH := Sg → Hh → Option Hh
/-- a clause: sources in their turn, a test, and what is done then -/
def loopC (ls : List Lk) (g : ActG) (ct : Act Bool) (body : ActH) (σ0 : Sg) : List W → Hh → Option Hh
  | [], E => if stay E ls = true then some E else none
  | w :: r, E => if stay E ls = true then match g w σ0 E with
    | some (.ok σ1 E1) => match ct σ1 E1 with
      | some (.ok true E2) => match body σ1 E2 with
        | some E3 => loopC ls g ct body σ0 r E3
        | none => none
      | some (.ok false E2) => loopC ls g ct body σ0 r E2
      | _ => none
    | _ => none
    else none
/-- the item comes behind the list with this number -/
def pushC (n : Nat) (ce : Act W) : ActH := fun σ E => match ce σ E with
  | some (.ok y E3) => match (E3 : List O)[n]? with
    | some (.lst acc) => if acc.length ≤ few then some (E3.set n (.lst (acc ++ [y]))) else none
    | _ => none
  | _ => none
def lcA (ci : Act Src) (vs : List Nat) (g : ActG) (ct : Act Bool) (ce : Act W) : Act W := fun σ E => andThen (ci σ E) fun s E1 => match loopC s.ls g ct (pushC E1.length ce) (wipeE σ vs) s.ws (E1 ++ [.lst []]) with
  | some E' => some (.ok (.ref E1.length) E')
  | none => none
/-- a clause within a clause -/
def nestC (ci : Act Src) (vs : List Nat) (g : ActG) (ct : Act Bool) (body : ActH) : ActH := fun σ E => match ci σ E with
  | some (.ok s E1) => loopC s.ls g ct body (wipeE σ vs) s.ws E1
  | _ => none
def lcA2 (ci : Act Src) (vs : List Nat) (g : ActG) (ct : Act Bool) (ci1 : Act Src) (vs1 : List Nat) (g1 : ActG) (ct1 : Act Bool) (ce : Act W) : Act W := fun σ E => andThen (ci σ E) fun s E1 =>
  match loopC s.ls g ct (nestC ci1 vs1 g1 ct1 (pushC E1.length ce)) (wipeE σ vs) s.ws (E1 ++ [.lst []]) with
  | some E' => some (.ok (.ref E1.length) E')
  | none => none
/-- the list at D has the number n -/
def Holds (ι : List Addr) (n : Nat) (D : Addr) : Prop := ι[n]? = some D
theorem push_ok {n : Nat} {D : Addr} {ce : Act W} {σE : Sg} {σ : L2.St} {E E' : Hh} {Nx : Hp → Prop} (hD : ι[n]? = some D) (R : Rel M ι E H) (rs : RelS M H ι σE σ) (h : pushC n ce σE E = some E')
    (k : ∀ ι' H', Ext M ι H ι' H' → Rel M ι' E' H' → Nx H') : SE M noW ce σ H fun y H4 => ∃ acc, H4 D = some (.lst acc) ∧ acc.length < sizeLine ∧ Nx (upd H4 D (.lst (acc ++ [y]))) := by
  unfold pushC at h
  cases e : ce σE E with
  | none => rw [e] at h; cases h
  | some r =>
    cases r with
    | ex x E1 => rw [e] at h; cases h
    | ok y E3 =>
      rw [e] at h
      dsimp only at h
      cases e2 : (E3 : List O)[n]? with
      | none => rw [e2] at h; cases h
      | some o =>
        rw [e2] at h
        cases o with
        | lst acc =>
          dsimp only at h
          split at h
          · rename_i hl
            obtain rfl := Option.some.inj h
            refine ⟨ι, E, σE, R, rs, .give e fun ι3 H3 v x3 R3 rv => ?_⟩
            have hD3 := pre_get x3.pre hD
            obtain ⟨us, hu, ru⟩ := R3.at e2 hD3
            exact ⟨us, hu, by rw [← ru.length]; exact few_lt hl, Fin.putL R3 hD3 e2 hu (ru.append (show RelWs M H3 ι3 [y] [v] from ⟨v, [], rfl, rv, rfl⟩)) fun ι4 H4 x4 R4 => k ι4 H4 (x3.trans x4) R4⟩
          · cases h
        | _ => cases h
/-- what holds at a clause's turn -/
def Turns (M : Md) (ι1 : List Addr) (H1 : Hp) (ls : List Lk) (g : ActG) (ct : Act Bool) (body : ActH) (σ0 : Sg) (r : List W) (Ef : Hh) (H : Hp) : Prop := ∃ ι E, Ext M ι1 H1 ι H ∧ Rel M ι E H ∧ loopC ls g ct body σ0 r E = some Ef
theorem clause_ok {J : It} {s : Src} {vs : List Nat} {g : ActG} {ct : Act Bool} {body : ActH} {σ0 : Sg} {σ : L2.St} {Ef E0 : Hh} {ιS ι0 : List Addr} {HS H0 : Hp} {tb : L2.St → Hp → (Hp → Prop) → Prop} {Out : Hp → Prop} (wk : Walks M J ιS HS s) (xS : Ext M ιS HS ι0 H0) (R0 : Rel M ι0 E0 H0) (rs : RelS M H0 ι0 σ0 (L2.wipe σ vs))
    (h : loopC s.ls g ct body σ0 s.ws E0 = some Ef) (hout : ∀ ι' H', Ext M ι0 H0 ι' H' → Rel M ι' Ef H' → Out H')
    (hb : ∀ ι E H σ1 σ2 E' Nx, Ext M ι0 H0 ι H → Rel M ι E H → RelS M H ι σ1 σ2 → L2.wipe σ2 vs = L2.wipe σ vs → body σ1 E = some E' → (∀ ι' H', Ext M ι H ι' H' → Rel M ι' E' H' → Nx H') → tb σ2 H Nx) :
    ∃ Wm : Nat → Nat → Hp → Prop, (∃ m, Wm 0 m H0) ∧ ∀ i m H, Wm i m H → (J.stop i H ∧ Out H) ∨ (J.go i H ∧ ∃ Nx : Hp → Prop, (∀ H', Nx H' → ∃ m', m' < m ∧ Wm (i + 1) m' H') ∧
      ∀ x H', J.yld i H x H' → SGv M vs g x (L2.wipe σ vs) H' fun σ2 H2 => L2.wipe σ2 vs = L2.wipe σ vs ∧ ST M noW ct σ2 H2 fun b H3 => if b = true then tb σ2 H3 Nx else Nx H3) := by
  refine ⟨fun i m H => m = s.ws.length - i ∧ i ≤ s.ws.length ∧ Turns M ι0 H0 s.ls g ct body σ0 (s.ws.drop i) Ef H, ⟨s.ws.length, by simp, Nat.zero_le _, ι0, E0, Ext.refl _ _, R0, by rw [List.drop_zero]; exact h⟩, ?_⟩
  rintro i m H ⟨rfl, hle, ι, E, x, R, k⟩
  by_cases hlt : i < s.ws.length
  · obtain ⟨w0, hw0⟩ : ∃ w, s.ws[i]? = some w := ⟨_, List.getElem?_eq_getElem hlt⟩
    rw [drop_cons hw0] at k
    unfold loopC at k
    by_cases hst : stay E s.ls = true
    · rw [if_pos hst] at k
      refine .inr ⟨wk.go i ι E H hlt (xS.trans x) R hst, fun H' => Turns M ι0 H0 s.ls g ct body σ0 (s.ws.drop (i + 1)) Ef H', fun H' q => ⟨s.ws.length - (i + 1), by omega, rfl, hlt, q⟩, fun v H' y => ?_⟩
      obtain ⟨R', x', w, hw, rv⟩ := wk.yld i ι E H v H' hlt (xS.trans x) R hst y
      obtain rfl : w0 = w := by rw [hw0] at hw; exact Option.some.inj hw
      have xx := x.trans x'
      cases e1 : g w0 σ0 E with
      | none => rw [e1] at k; cases k
      | some r1 =>
        cases r1 with
        | ex _ _ => rw [e1] at k; cases k
        | ok σ1 E1 =>
          rw [e1] at k
          dsimp only at k
          refine ⟨ι, E, σ0, w0, R', rs.ext xx, rv, σ1, E1, e1, fun ι2 H2 σ2 x2 R2 rs2 hw2 => ⟨hw2.trans wipe_wipe, ?_⟩⟩
          have hw3 := hw2.trans wipe_wipe
          cases e2 : ct σ1 E1 with
          | none => rw [e2] at k; cases k
          | some r2 =>
            cases r2 with
            | ex _ _ => rw [e2] at k; cases k
            | ok b E2 =>
              rw [e2] at k
              refine ⟨ι2, E1, σ1, R2, rs2, .give e2 fun ι3 H3 x3 R3 => ?_⟩
              have x03 := (xx.trans x2).trans x3
              cases b with
              | false =>
                show if false = true then _ else _
                rw [if_neg Bool.false_ne_true]
                exact ⟨ι3, E2, x03, R3, k⟩
              | true =>
                show if true = true then _ else _
                rw [if_pos rfl]
                dsimp only at k
                cases e3 : body σ1 E2 with
                | none => rw [e3] at k; cases k
                | some E3 =>
                  rw [e3] at k
                  exact hb ι3 E2 H3 σ1 σ2 E3 _ x03 R3 (rs2.ext x3) hw3 e3 fun ι4 H4 x4 R4 => ⟨ι4, E3, x03.trans x4, R4, k⟩
    · rw [if_neg hst] at k
      cases k
  · have e : i = s.ws.length := by omega
    subst e
    rw [List.drop_length] at k
    unfold loopC at k
    split at k
    · rename_i hst
      obtain rfl := Option.some.inj k
      exact .inl ⟨wk.stop ι E H (xS.trans x) R hst, hout ι H x R⟩
    · cases k
theorem optE {o : Option Hh} {w : W} {σ : L2.St} {G : W → Hh → Prop} (h : Rs M W' ι σ H (match o with
    | some E' => some (Rz.ok w E')
    | none => none) G) : ∃ E', o = some E' ∧ G w E' := by
  cases o with
  | none => exact h.none.elim
  | some E' => exact ⟨E', rfl, h.ok⟩
theorem tests_mono {ifs : List Expr} {t t' : TT} (h : PTs X ifs t) (i : ∀ σ H Q, t' σ H Q → t σ H Q) : PTs X ifs t' := ⟨fun pins s σ H Q I q => h.run pins s σ H Q I (i σ H Q q)⟩
def yesT : Act Bool := fun _ E => some (.ok true E)
/-- the tests of a clause: none, or one -/
def testsA (t : Expr → Act Bool) : List Expr → Act Bool
  | [] => yesT
  | [c] => t c
  | _ => fun _ _ => none
theorem pts_G {W' : WX} {ifs : List Expr} {t : Expr → Act Bool} (h : ∀ e, PT X e (ST M W' (t e))) : PTs X ifs (ST M W' (testsA t ifs)) := by
  match ifs with
  | [] => exact tests_mono pts_nil fun σ H Q ⟨ι, E, σE, R, rs, k⟩ => k.ok ι H (Ext.refl _ _) R
  | [c] => exact pts_one (h c)
  | _ :: _ :: _ => exact ⟨fun pins s σ H Q I ⟨ι, E, σE, _, _, q⟩ => q.none.elim⟩
/-- a comprehension of one clause -/
theorem lc_ok {ci : Act Src} {vs : List Nat} {g : ActG} {ct : Act Bool} {ce : Act W} : ∀ (σ : L2.St) (H : Hp) (Q : VK), SE M W' (lcA ci vs g ct ce) σ H Q → tLc (SI M W' ci) (SGv M vs g) (ST M noW ct) (SE M noW ce) vs σ H Q := fun σ H Q ⟨ι, E, σE, R, rs, h⟩ =>
  ⟨ι, E, σE, R, rs, (Rs.bind h).imp fun s E1 h1 => fun ι1 H1 J x1 R1 wk D hD => by
    obtain ⟨Ef, hl, k⟩ := optE h1
    obtain ⟨R2, x2⟩ := Rel.new (ho := .lst []) (o := .lst []) R1 hD fun _ => ⟨[], upd_same, rfl⟩
    have xx := x1.trans x2
    have hn : (ι1 ++ [D])[E1.length]? = some D := by rw [← R1.len]; simp
    exact clause_ok (tb := fun σ2 H3 Nx => SE M noW ce σ2 H3 fun y H4 => ∃ acc, H4 D = some (.lst acc) ∧ acc.length < sizeLine ∧ Nx (upd H4 D (.lst (acc ++ [y])))) wk x2 R2 ((rs.ext xx).wipe vs) hl
      (fun ι' H' x' R' => k ι' H' _ (xx.trans x') R' ⟨D, pre_get x'.pre hn, rfl⟩) fun ι' E' H' σ1 σ2 E'' Nx x' R' rs' _ e nx => push_ok (pre_get x'.pre hn) R' rs' e nx⟩
end G

set_option Elab.async false
set_option linter.all false
set_option maxRecDepth 100000
set_option maxHeartbeats 4000000
namespace G
open PySem L2 PySem.Spec PyProof.Rows
variable {M : Md} {H H' H1 H2 : Hp} {ι ι' ι1 ι2 : List Addr} {X : Cx} {W' : WX}

/-! ### comprehensions as values, and given a name -/
def scN (names : List (Str × NameKind)) : Scope := ⟨.function, names, false, false, []⟩
theorem blkOk_names {N : List Str} {sc sc' scope : Scope} {own : List (Str × Nat)} (h : BlkOk N sc scope own) (e : sc.names = sc'.names) : BlkOk N sc' scope own := ⟨h.kind, h.uniq, h.ix, fun y hy z => by rw [← e]; exact h.free y hy z, h.own⟩
def ownIx (N : List Str) (scope : Scope) : List (Str × Nat) := scope.names.filterMap fun (n, k) => if (k == .local || k == .cell) = true then (ixOf n N).map fun i => (n, i) else none
def blkB (Γ : Gm) (scope : Scope) : Bool := blkC Γ.N (scN Γ.names) scope (ownIx Γ.N scope)
theorem blkB_ok {Γ : Gm} {scope : Scope} (a : At M Γ W' X) (h : blkB Γ scope = true) : BlkOk X.N X.env.scope scope (ownIx Γ.N scope) := by
  rw [a.N]
  exact blkOk_names (blkOk_by h) a.names.symm
def plainSrc : Expr → Bool
  | .Set _ _ _ => false
  | _ => true
theorem plainSrc_ok {e : Expr} (h : plainSrc e = true) : ∀ env x, foldedSetIterable e env x = pure x := fun env x => by
  cases e <;> first | rfl | cases h
/-- where a block's parts stand -/
abbrev Blks (X : Cx) (scope : Scope) (R : Cx → Prop) : Prop := ∀ (s : Shared) (H : Hp) (C : Addr) (cl : List (Str × Addr)) (fp : List Addr), R (X.blk s H scope (compEnvC scope cl C X.env) fp)
def lcE (Γ : Gm) (scope : Scope) (tg : Expr) (ci : Act Src) (ct : Act Bool) (ce : Act W) : Act W := fun σ E => if blkB Γ scope = true then lcA ci ((ownIx Γ.N scope).map (·.2)) (tgV (blkG Γ scope) ((ownIx Γ.N scope).map (·.2)) 9 tg) ct ce σ E else none
section
variable {Γ : Gm} {scope : Scope} {tg iter elt : Expr} {ifs : List Expr} {pos spos py : Pos} {y : Str} {ci : Act Src} {ct : Act Bool} {ce : Act W}
theorem pe_lcG (a : At M Γ W' X) (hp : plainSrc iter = true) (hi : PI X tg iter (SI M W' ci)) (ht : Blks X scope fun Y => PTs Y ifs (ST M noW ct)) (he : Blks X scope fun Y => PE Y elt (SE M noW ce)) :
    PE X (.ListComp elt [⟨tg, iter, ifs, 0⟩] scope pos) (SE M W' (lcE Γ scope tg ci ct ce)) := by
  by_cases hb : blkB Γ scope = true
  · have ok := blkB_ok a hb
    refine PE.imp (pe_lc a.calm (by rw [a.N]; exact a.nd) hi ok (fun s H C cl fp => pg_tgV (vs := (ownIx Γ.N scope).map (·.2)) (at_blk a ok.kind) 9 tg) ht he (plainSrc_ok hp X.env)) fun σ H Q q => lc_ok σ H Q ?_
    obtain ⟨ι, E, σE, R, rs, h⟩ := q
    unfold lcE at h
    rw [if_pos hb] at h
    exact ⟨ι, E, σE, R, rs, h⟩
  · exact pe_no fun σ E => by unfold lcE; rw [if_neg hb]
/-- a comprehension's value goes into its name at once -/
def swB (Γ : Gm) (y : Str) (py pos : Pos) (scope : Scope) : Bool := (Γ.names.lookup y == some .local) && (py.line == pos.line) && !(scope.names.any fun (n, k) => n == y && (k == .local || k == .cell))
theorem sw_lc (a : At M Γ W' X) {gs : List Comprehension} {l : Nat} : swapsWith (.ListComp elt gs scope pos) (some (.Name y py)) l X.env = pure (swB Γ y py pos scope) := by
  have hb : X.env.blockKind = .function := by unfold Env.blockKind; rw [a.kind]; rfl
  unfold swapsWith swB Env.kindOf
  simp only [hb, a.names, Expr.pos]
  rfl
theorem sw_dc (a : At M Γ W' X) {kx vx : Expr} {gs : List Comprehension} {l : Nat} : swapsWith (.DictComp kx vx gs scope pos) (some (.Name y py)) l X.env = pure (swB Γ y py pos scope) := by
  have hb : X.env.blockKind = .function := by unfold Env.blockKind; rw [a.kind]; rfl
  unfold swapsWith swB Env.kindOf
  simp only [hb, a.names, Expr.pos]
  rfl
/-- a name takes it -/
def nameS (Γ : Gm) (y : Str) (ca : Act W) : ActS := fun σ E => if okLoc Γ y = true ∧ (ixOf y Γ.N).isSome = true then asgS ca (nameG Γ y) σ E else none
theorem nameS_key {ca : Act W} {D : Ends} {σ : L2.St} {H : Hp} (q : SS M W' (nameS Γ y ca) D σ H) : ∃ i, okLoc Γ y = true ∧ ixOf y Γ.N = some i ∧ SE M W' ca σ H (fun v H1 => SG M W' (nameG Γ y) v σ H1 D.nx) ∧ SE M W' ca σ H (fun v H1 => gName i v σ H1 D.nx) := by
  obtain ⟨ι, E, σE, R, rs, k⟩ := q
  unfold nameS at k
  split at k
  · rename_i hc
    obtain ⟨hl, hi⟩ := hc
    obtain ⟨i, hi⟩ := Option.isSome_iff_exists.mp hi
    refine ⟨i, hl, hi, ⟨ι, E, σE, R, rs, (Rs.bind k).imp fun w E1 h1 => fun ι1 H1 v x1 R1 rv => ⟨ι1, E1, σE, w, R1, rs.ext x1, rv, (h1.bind.ext x1).imp fun σ1 E2 h2 => fun ι2 H2 σ' x2 R2 rs2 => h2.ok ι2 H2 (x1.trans x2) R2 σ' rs2⟩⟩,
      ⟨ι, E, σE, R, rs, (Rs.bind k).imp fun w E1 h1 => fun ι1 H1 v x1 R1 rv => ?_⟩⟩
    unfold nameG at h1
    rw [if_pos hl, hi] at h1
    exact h1.ok ι1 H1 x1 R1 _ ((rs.ext x1).set rv)
  · exact k.none.elim
/-- x = [..] -/
theorem ps_lcG (a : At M Γ W' X) (hp : plainSrc iter = true) (hi : PI X tg iter (SI M W' ci)) (ht : Blks X scope fun Y => PTs Y ifs (ST M noW ct)) (he : Blks X scope fun Y => PE Y elt (SE M noW ce)) :
    PS X (.Assign [.Name y py] (.ListComp elt [⟨tg, iter, ifs, 0⟩] scope pos) spos) (SS M W' (nameS Γ y (lcE Γ scope tg ci ct ce))) := by
  cases hs : swB Γ y py pos scope with
  | false =>
    exact PS.imp (ps_asg (pe_lcG a hp hi ht he) (pg_nameG a) ((sw_lc (elt := elt) (pos := pos) (py := py) (scope := scope) (l := spos.line) a).trans (by rw [hs])) (by rfl)) fun D σ H q => by
      obtain ⟨i, _, _, k, _⟩ := nameS_key q
      exact k
  | true =>
    have hyl : X.env.scope.names.lookup y = some .local := by
      unfold swB at hs
      rw [Bool.and_eq_true, Bool.and_eq_true] at hs
      rw [a.names]
      simpa using hs.1.1
    by_cases hl : ∃ i, ixOf y Γ.N = some i
    · obtain ⟨i, hix⟩ := hl
      by_cases hb : blkB Γ scope = true
      · have ok := blkB_ok a hb
        refine PS.imp (ps_setLc (i := i) a.calm (by rw [a.N]; exact a.nd) (by rw [a.N]; exact ixOf_ok hix) hyl (by rw [sw_lc a, hs]) hi ok (fun s H C cl fp => pg_tgV (vs := (ownIx Γ.N scope).map (·.2)) (at_blk a ok.kind) 9 tg) ht he (plainSrc_ok hp X.env)) fun D σ H q => ?_
        obtain ⟨j, _, hj, _, k⟩ := nameS_key q
        obtain rfl : i = j := Option.some.inj (hix.symm.trans hj)
        obtain ⟨ι, E, σE, R, rs, h⟩ := k
        unfold lcE at h
        rw [if_pos hb] at h
        exact lc_ok σ H _ ⟨ι, E, σE, R, rs, h⟩
      · exact ps_no fun σ E => by
          unfold nameS asgS lcE
          split
          · first | rfl | (rw [if_neg hb]; rfl)
          · rfl
    · exact ps_no fun σ E => by
        unfold nameS
        rw [if_neg fun h => hl (Option.isSome_iff_exists.mp h.2)]
end
/-! ### two clauses -/
theorem lc2_ok {ci ci1 : Act Src} {vs vs1 : List Nat} {g g1 : ActG} {ct ct1 : Act Bool} {ce : Act W} : ∀ (σ : L2.St) (H : Hp) (Q : VK), SE M W' (lcA2 ci vs g ct ci1 vs1 g1 ct1 ce) σ H Q → tLc2 (SI M W' ci) (SGv M vs g) (ST M noW ct) (SI M noW ci1) (SGv M vs1 g1) (ST M noW ct1) (SE M noW ce) vs vs1 σ H Q := fun σ H Q ⟨ι, E, σE, R, rs, h⟩ =>
  ⟨ι, E, σE, R, rs, (Rs.bind h).imp fun s E1 h1 => fun ι1 H1 J x1 R1 wk D hD => by
    obtain ⟨Ef, hl, k⟩ := optE h1
    obtain ⟨R2, x2⟩ := Rel.new (ho := .lst []) (o := .lst []) R1 hD fun _ => ⟨[], upd_same, rfl⟩
    have xx := x1.trans x2
    have hn : (ι1 ++ [D])[E1.length]? = some D := by rw [← R1.len]; simp
    refine clause_ok (tb := fun σ2 H3 Nx => SI M noW ci1 σ2 H3 fun J1 H4 => ∃ W1 : Nat → Nat → Hp → Prop, (∃ m, W1 0 m H4) ∧ ∀ j k H, W1 j k H → (J1.stop j H ∧ Nx H) ∨ (J1.go j H ∧ ∃ Nx1 : Hp → Prop, (∀ H', Nx1 H' → ∃ k', k' < k ∧ W1 (j + 1) k' H') ∧
        ∀ x H', J1.yld j H x H' → SGv M vs1 g1 x (L2.wipe σ2 vs1) H' fun σ3 H5 => L2.wipe σ3 vs1 = L2.wipe σ2 vs1 ∧ ST M noW ct1 σ3 H5 fun b H6 => if b = true then SE M noW ce σ3 H6 fun y H7 => ∃ acc, H7 D = some (.lst acc) ∧ acc.length < sizeLine ∧ Nx1 (upd H7 D (.lst (acc ++ [y]))) else Nx1 H6)) wk x2 R2 ((rs.ext xx).wipe vs) hl
      (fun ι' H' x' R' => k ι' H' _ (xx.trans x') R' ⟨D, pre_get x'.pre hn, rfl⟩) fun ι' E' H' σ1 σ2 E'' Nx x' R' rs' hw e nx => ?_
    unfold nestC at e
    cases e1 : ci1 σ1 E' with
    | none => rw [e1] at e; cases e
    | some r =>
      cases r with
      | ex _ _ => rw [e1] at e; cases e
      | ok s1 E3 =>
        rw [e1] at e
        dsimp only at e
        refine ⟨ι', E', σ1, R', rs', .give e1 fun ι3 H3 J1 x3 R3 wk1 => ?_⟩
        exact clause_ok (tb := fun σ2 H3 Nx => SE M noW ce σ2 H3 fun y H4 => ∃ acc, H4 D = some (.lst acc) ∧ acc.length < sizeLine ∧ Nx (upd H4 D (.lst (acc ++ [y])))) wk1 (Ext.refl _ _) R3 ((rs'.ext x3).wipe vs1) e
          (fun ι4 H4 x4 R4 => nx ι4 H4 (x3.trans x4) R4) fun ι4 E4 H4 σ3 σ4 E5 Nx1 x4 R4 rs4 _ e4 nx4 => push_ok (pre_get ((x'.trans x3).trans x4).pre hn) R4 rs4 e4 nx4⟩
/-- the slots of a target's names -/
def tgIx (N : List Str) : Nat → Expr → List Nat
  | 0, _ => []
  | n + 1, .Name x _ => (ixOf x N).toList
  | n + 1, .Tuple es _ _ => es.flatMap (tgIx N n)
  | n + 1, _ => []
def lcE2 (Γ : Gm) (scope : Scope) (tg tg1 : Expr) (ci : Act Src) (ct : Act Bool) (ci1 : Act Src) (ct1 : Act Bool) (ce : Act W) : Act W := fun σ E =>
  if blkB Γ scope = true ∧ ((tgIx Γ.N 9 tg1).all fun i => ((ownIx Γ.N scope).map (·.2)).contains i) = true then lcA2 ci ((ownIx Γ.N scope).map (·.2)) (tgV (blkG Γ scope) ((ownIx Γ.N scope).map (·.2)) 9 tg) ct ci1 (tgIx Γ.N 9 tg1) (tgV (blkG Γ scope) (tgIx Γ.N 9 tg1) 9 tg1) ct1 ce σ E else none
section
variable {Γ : Gm} {scope : Scope} {tg iter tg1 iter1 elt : Expr} {ifs ifs1 : List Expr} {pos spos py : Pos} {y : Str} {ci ci1 : Act Src} {ct ct1 : Act Bool} {ce : Act W}
theorem pe_lcG2 (a : At M Γ W' X) (hp : plainSrc iter = true) (hp1 : plainSrc iter1 = true) (hi : PI X tg iter (SI M W' ci)) (ht : Blks X scope fun Y => PTs Y ifs (ST M noW ct)) (hi1 : Blks X scope fun Y => PI Y tg1 iter1 (SI M noW ci1)) (ht1 : Blks X scope fun Y => PTs Y ifs1 (ST M noW ct1)) (he : Blks X scope fun Y => PE Y elt (SE M noW ce)) :
    PE X (.ListComp elt [⟨tg, iter, ifs, 0⟩, ⟨tg1, iter1, ifs1, 0⟩] scope pos) (SE M W' (lcE2 Γ scope tg tg1 ci ct ci1 ct1 ce)) := by
  by_cases hb : blkB Γ scope = true ∧ ((tgIx Γ.N 9 tg1).all fun i => ((ownIx Γ.N scope).map (·.2)).contains i) = true
  · have ok := blkB_ok a hb.1
    have hv : ∀ i ∈ tgIx Γ.N 9 tg1, i ∈ (ownIx Γ.N scope).map (·.2) := fun i hi => by
      have z := List.all_eq_true.mp hb.2 i hi
      simpa using z
    refine PE.imp (pe_lc2 a.calm (by rw [a.N]; exact a.nd) hi ok hv (fun s H C cl fp => pg_tgV (vs := (ownIx Γ.N scope).map (·.2)) (at_blk a ok.kind) 9 tg) ht hi1 (fun s H C cl fp => pg_tgV (vs := tgIx Γ.N 9 tg1) (at_blk a ok.kind) 9 tg1) ht1 he (plainSrc_ok hp X.env) (plainSrc_ok hp1)) fun σ H Q q => lc2_ok σ H Q ?_
    obtain ⟨ι, E, σE, R, rs, h⟩ := q
    unfold lcE2 at h
    rw [if_pos hb] at h
    exact ⟨ι, E, σE, R, rs, h⟩
  · exact pe_no fun σ E => by unfold lcE2; rw [if_neg hb]
theorem ps_lcG2 (a : At M Γ W' X) (hp : plainSrc iter = true) (hp1 : plainSrc iter1 = true) (hi : PI X tg iter (SI M W' ci)) (ht : Blks X scope fun Y => PTs Y ifs (ST M noW ct)) (hi1 : Blks X scope fun Y => PI Y tg1 iter1 (SI M noW ci1)) (ht1 : Blks X scope fun Y => PTs Y ifs1 (ST M noW ct1)) (he : Blks X scope fun Y => PE Y elt (SE M noW ce)) :
    PS X (.Assign [.Name y py] (.ListComp elt [⟨tg, iter, ifs, 0⟩, ⟨tg1, iter1, ifs1, 0⟩] scope pos) spos) (SS M W' (nameS Γ y (lcE2 Γ scope tg tg1 ci ct ci1 ct1 ce))) := by
  cases hs : swB Γ y py pos scope with
  | false =>
    exact PS.imp (ps_asg (pe_lcG2 a hp hp1 hi ht hi1 ht1 he) (pg_nameG a) ((sw_lc (elt := elt) (pos := pos) (py := py) (scope := scope) (l := spos.line) a).trans (by rw [hs])) (by rfl)) fun D σ H q => by
      obtain ⟨i, _, _, k, _⟩ := nameS_key q
      exact k
  | true =>
    have hyl : X.env.scope.names.lookup y = some .local := by
      unfold swB at hs
      rw [Bool.and_eq_true, Bool.and_eq_true] at hs
      rw [a.names]
      simpa using hs.1.1
    by_cases hl : ∃ i, ixOf y Γ.N = some i
    · obtain ⟨i, hix⟩ := hl
      by_cases hb : blkB Γ scope = true ∧ ((tgIx Γ.N 9 tg1).all fun i => ((ownIx Γ.N scope).map (·.2)).contains i) = true
      · have ok := blkB_ok a hb.1
        have hv : ∀ i ∈ tgIx Γ.N 9 tg1, i ∈ (ownIx Γ.N scope).map (·.2) := fun i hi => by
          have z := List.all_eq_true.mp hb.2 i hi
          simpa using z
        refine PS.imp (ps_setLc2 (i := i) a.calm (by rw [a.N]; exact a.nd) (by rw [a.N]; exact ixOf_ok hix) hyl (by rw [sw_lc a, hs]) hi ok hv (fun s H C cl fp => pg_tgV (vs := (ownIx Γ.N scope).map (·.2)) (at_blk a ok.kind) 9 tg) ht hi1 (fun s H C cl fp => pg_tgV (vs := tgIx Γ.N 9 tg1) (at_blk a ok.kind) 9 tg1) ht1 he (plainSrc_ok hp X.env) (plainSrc_ok hp1)) fun D σ H q => ?_
        obtain ⟨j, _, hj, _, k⟩ := nameS_key q
        obtain rfl : i = j := Option.some.inj (hix.symm.trans hj)
        obtain ⟨ι, E, σE, R, rs, h⟩ := k
        unfold lcE2 at h
        rw [if_pos hb] at h
        exact lc2_ok σ H _ ⟨ι, E, σE, R, rs, h⟩
      · exact ps_no fun σ E => by
          unfold nameS asgS lcE2
          split
          · first | rfl | (rw [if_neg hb]; rfl)
          · rfl
    · exact ps_no fun σ E => by
        unfold nameS
        rw [if_neg fun h => hl (Option.isSome_iff_exists.mp h.2)]
end
end G

set_option Elab.async false
set_option linter.all false
set_option maxRecDepth 100000
set_option maxHeartbeats 4000000
namespace G
open PySem L2 PySem.Spec PyProof.Rows
variable {M : Md} {H H' H1 H2 : Hp} {ι ι' ι1 ι2 : List Addr} {X : Cx} {W' : WX}

/-! ### dicts by tuples -/
section
variable {pins : List (Addr × Obj)} {σ : L2.St} {s : Shared}
mutual
theorem nest_ok (I : Inv X pins σ H s) (aK : X.K = M.K) : ∀ {w : W} {v : V} {u : Value}, kOk w = true → RelW M H ι w v → RelV v u → NestedIs s.heap (nk w) u
  | .non, v, u, _, r, q => by
    rw [show v = .non from r] at q
    obtain rfl : u = Value.none := q
    exact .none
  | .bl b, v, u, _, r, q => by
    rw [show v = .bl b from r] at q
    obtain rfl : u = Value.bool b := q
    exact .bool rfl
  | .int i, v, u, _, r, q => by
    rw [show v = .int i from r] at q
    obtain ⟨t, rfl⟩ : ∃ t, u = Value.int i t := q
    exact .int i t
  | .str x, v, u, _, r, q => by
    rw [show v = .str x from r] at q
    obtain ⟨t, rfl⟩ : ∃ t, u = Value.str x t := q
    exact .text x t
  | .tup ws, v, u, h, r, q => by
    obtain ⟨a, vs, rfl, ht, rs⟩ := r
    obtain rfl : u = Value.ref a := q
    obtain ⟨its, rv, ⟨o, h1, h2, n, h3⟩, _⟩ := I.tuple (by rw [aK]; exact ht)
    exact .tup h1 h2 h3 (by simpa using nest_oks I aK (by simpa [kOk] using h) rs rv)
  | .ref _, _, _, h, _, _ => by simp [kOk] at h
  | .fn _, _, _, h, _, _ => by simp [kOk] at h
  | .ty _, _, _, h, _, _ => by simp [kOk] at h
theorem nest_oks (I : Inv X pins σ H s) (aK : X.K = M.K) : ∀ {ws : List W} {vs : List V} {us : List Value}, kOks ws = true → RelWs M H ι ws vs → Vals vs us → NestedAll s.heap (nks ws) us
  | [], vs, us, _, r, q => by
    rw [show vs = [] from r] at q
    cases q
    exact .nil
  | w :: ws, vs, us, h, r, q => by
    obtain ⟨v, rs, rfl, r1, r2⟩ := r
    simp only [kOks, Bool.and_eq_true] at h
    cases q with
    | cons q1 q2 => exact .cons (nest_ok I aK h.1 r1 q1) (nest_oks I aK h.2 r2 q2)
end
end
/-- a dict by tuples, or an empty one -/
def dnOf (E : Hh) : W → Option (Nat × List (W × W))
  | .ref i => match (E : List O)[i]? with
    | some (.dN kvs) => some (i, kvs)
    | some (.dK []) => some (i, [])
    | _ => none
  | _ => none
/-- a tuple that may be a key -/
def tkOk : W → Bool
  | .tup ws => kOks ws && decide ((nk (.tup ws)).depth ≤ 8)
  | _ => false
abbrev EntR (M : Md) (H : Hp) (ι : List Addr) : W × W → Addr × V × Value → Prop := fun p q => (RelW M H ι p.1 (.ref q.1) ∧ kOk p.1 = true ∧ (nk p.1).depth ≤ 8) ∧ RelW M H ι p.2 q.2.1 ∧ RelV q.2.1 q.2.2
/-- what is known of one -/
structure DnAt (M : Md) (H : Hp) (ι : List Addr) (E : Hh) (h : Heap) (i : Nat) (a : Addr) (kvs : List (W × W)) (xs : List (Addr × V × Value)) : Prop where
  at' : ι[i]? = some a
  len : kvs.length ≤ sizeLine
  low : (a == sysModules) = false
  ent : Paired (EntR M H ι) kvs xs
  dict : h.DictOfH (nestedKind M.P M.w) a (ents kvs xs)
  mu : Mut (H a)
  obj : ∃ o, (E : List O)[i]? = some o ∧ Mt o = true
  nt : ∀ q, H a = some q → (∀ ys, q ≠ .tup ys) ∧ ∀ b ys, q ≠ .frz b ys
theorem ents_keys : ∀ {kvs : List (W × W)} {xs : List (Addr × V × Value)}, kvs.length = xs.length → (ents kvs xs).map (·.1) = kvs.map fun p => nk p.1
  | [], [], _ => rfl
  | p :: kvs, q :: xs, h => by
    show nk p.1 :: (ents kvs xs).map (·.1) = _
    rw [ents_keys (by simpa using h)]
    rfl
  | [], _ :: _, h => by simp at h
  | _ :: _, [], h => by simp at h
theorem ents_len : ∀ {kvs : List (W × W)} {xs : List (Addr × V × Value)}, kvs.length = xs.length → (ents kvs xs).length = kvs.length := fun {kvs xs} h => by
  unfold ents
  rw [List.length_zipWith, ← h, Nat.min_self]
theorem dn_ok {pins : List (Addr × Obj)} {σ : L2.St} {s : Shared} {E : Hh} {w : W} {i : Nat} {kvs : List (W × W)} {v : V} (I : Inv X pins σ H s) (aK : X.K = M.K) (R : Rel M ι E H) (h : dnOf E w = some (i, kvs)) (r : RelW M H ι w v) :
    ∃ a xs, w = .ref i ∧ v = .ref a ∧ DnAt M H ι E s.heap i a kvs xs := by
  cases w with
  | ref j =>
    obtain ⟨a, ha, rfl⟩ := r
    unfold dnOf at h
    dsimp only at h
    cases he : (E : List O)[j]? with
    | none => rw [he] at h; cases h
    | some o =>
      have ro := R.at he ha
      rw [he] at h
      cases o with
      | dN ks =>
        obtain ⟨rfl, rfl⟩ : j = i ∧ ks = kvs := by simpa using h
        obtain ⟨xs, h1, h2, h3, h4, h5⟩ := ro
        have hl := Paired.length h5
        refine ⟨a, xs, rfl, rfl, ha, h2, h3, h5, ?_, by rw [h1]; exact True.intro, ⟨_, he, rfl⟩, fun q hq => by rw [h1] at hq; cases hq; exact ⟨fun _ z => (nomatch z), fun _ _ z => (nomatch z)⟩⟩
        obtain ⟨⟨o, es, ep, g1, g2, g3, g4⟩, _⟩ := I.hok a _ h1
        refine ⟨o, es, ep, g1, g2, g3, g4, ?_, by rw [ents_keys hl]; exact h4⟩
        have go : ∀ {ks : List (W × W)} {xs : List (Addr × V × Value)}, Paired (EntR M H ι) ks xs → ∀ x ∈ ents ks xs, (nestedKind M.P M.w).is s.heap x.1 x.2.1 := by
          intro ks xs p
          induction p with
          | nil => intro x hx; cases hx
          | cons hp _ ih =>
            intro x hx
            rcases List.mem_cons.mp hx with e | hx
            · subst e
              obtain ⟨⟨a1, a2, a3⟩, _⟩ := hp
              exact ⟨nest_ok I aK a2 a1 rfl, a3⟩
            · exact ih x hx
        exact go h5
      | dK ks =>
        cases ks with
        | nil =>
          obtain ⟨rfl, rfl⟩ : j = i ∧ [] = kvs := by simpa using h
          obtain ⟨vs, h1, h2⟩ := ro
          have h1 : H a = some (.dK []) := h1
          obtain ⟨_, h3, us, rel, o, es, ep, g1, g2, g3, _, g5, _⟩ := dk_of I.hok h1
          cases rel
          refine ⟨a, [], rfl, rfl, ha, Nat.zero_le _, h3, .nil, ⟨o, es, ep, g1, g2, g3, ?_, (by intro x hx; simp [ents] at hx), List.nodup_nil⟩, by rw [h1]; exact True.intro, ⟨_, he, rfl⟩, fun q hq => by rw [h1] at hq; cases hq; exact ⟨fun _ z => (nomatch z), fun _ _ z => (nomatch z)⟩⟩
          cases hl : es.toList with
          | nil => rfl
          | cons x r => rw [hl] at g5; cases g5
        | cons p r => cases h
      | lst ks => cases h
      | slst ks => cases h
      | sdN ks => cases h
      | sdK ks => cases h
      | exc b => cases h
      | cup b => cases h
      | txs b => cases h
  | _ => cases h
/-- the value at a key -/
def lkN (kvs : List (W × W)) (k : NestedKey) : Option W := match kvs with
  | [] => none
  | p :: r => if NestedKey.beq (nk p.1) k = true then some p.2 else lkN r k
theorem beq_dec {a b : NestedKey} : (NestedKey.beq a b = true) ↔ a = b := ⟨NestedKey.eq_of_beq a b, fun e => by rw [e]; exact NestedKey.beq_self b⟩
theorem lkN_ok {k : NestedKey} {kvs : List (W × W)} {xs : List (Addr × V × Value)} (h : Paired (EntR M H ι) kvs xs) : (∀ w, lkN kvs k = some w → ∃ q v, atKey (ents kvs xs) k = some q ∧ RelW M H ι w v ∧ RelV v q.2) ∧ (lkN kvs k = none → atKey (ents kvs xs) k = none) := by
  induction h with
  | nil => exact ⟨fun w h => (nomatch h), fun _ => rfl⟩
  | @cons p q ps qs hp _ ih =>
    have e0 : ents (p :: ps) (q :: qs) = (nk p.1, q.1, q.2.2) :: ents ps qs := rfl
    by_cases e : nk p.1 = k
    · have h1 : lkN (p :: ps) k = some p.2 := by unfold lkN; rw [if_pos (beq_dec.mpr e)]
      have h2 : atKey (ents (p :: ps) (q :: qs)) k = some (q.1, q.2.2) := by rw [e0]; simp [atKey, List.find?_cons, e]
      rw [h1, h2]
      refine ⟨fun w hw => ?_, fun h => (nomatch h)⟩
      obtain rfl := Option.some.inj hw
      exact ⟨_, _, rfl, hp.2.1, hp.2.2⟩
    · have h1 : lkN (p :: ps) k = lkN ps k := by conv => lhs; unfold lkN
                                                 rw [if_neg (fun z => e (beq_dec.mp z))]
      have h2 : atKey (ents (p :: ps) (q :: qs)) k = atKey (ents ps qs) k := by rw [e0]; simp [atKey, List.find?_cons, e]
      rw [h1, h2]
      exact ih
theorem tk_ok {pins : List (Addr × Obj)} {σ : L2.St} {s : Shared} {w : W} {v : V} {u : Value} (I : Inv X pins σ H s) (aK : X.K = M.K) (h : tkOk w = true) (r : RelW M H ι w v) (q : RelV v u) : ∃ b, v = .ref b ∧ u = .ref b ∧ (nestedKind M.P M.w).is s.heap (nk w) b := by
  cases w with
  | tup ws =>
    simp only [tkOk, Bool.and_eq_true, decide_eq_true_eq] at h
    have z := nest_ok I aK (w := .tup ws) (by simpa [kOk] using h.1) r q
    obtain ⟨a, vs, rfl, ht, rs⟩ := r
    obtain rfl : u = Value.ref a := q
    exact ⟨a, rfl, rfl, z, h.2⟩
  | _ => cases h
theorem room_n {A : Around} (h : A.units + 65 < cLine) : (nestedKind M.P M.w).room A.in1 := by
  show A.units + 1 + 8 < cLine
  omega
/-! ### in -/
def lkDn (E : Hh) (d y : W) : Option (Option W) := match dnOf E d with
  | some (_, kvs) => if tkOk y = true then some (lkN kvs (nk y)) else none
  | none => none
def rInN (M : Md) (neg : Bool) : R2 := fun x y H Q => ∃ ι E wx wy o, Rel M ι E H ∧ RelW M H ι wx x ∧ RelW M H ι wy y ∧ lkDn E wy wx = some o ∧ Q (.bl (if neg then !o.isSome else o.isSome)) H
theorem lkDn_ok {pins : List (Addr × Obj)} {σ : L2.St} {s : Shared} {E : Hh} {wx wy : W} {x y : V} {u : Value} {o : Option W} (I : Inv X pins σ H s) (aK : X.K = M.K) (R : Rel M ι E H) (rx : RelW M H ι wx x) (ry : RelW M H ι wy y) (ru : RelV x u) (h : lkDn E wy wx = some o) :
    ∃ a b i kvs xs, y = .ref a ∧ u = .ref b ∧ DnAt M H ι E s.heap i a kvs xs ∧ (nestedKind M.P M.w).is s.heap (nk wx) b ∧ o = lkN kvs (nk wx) := by
  unfold lkDn at h
  cases e : dnOf E wy with
  | none => rw [e] at h; cases h
  | some p =>
    obtain ⟨i, kvs⟩ := p
    rw [e] at h
    dsimp only at h
    split at h
    · rename_i ht
      obtain ⟨a, xs, _, rfl, d⟩ := dn_ok I aK R e ry
      obtain ⟨b, _, rfl, z⟩ := tk_ok I aK ht rx ru
      exact ⟨a, b, i, kvs, xs, rfl, rfl, d, z, (Option.some.inj h).symm⟩
    · cases h
theorem some_eq {kvs : List (W × W)} {xs : List (Addr × V × Value)} {k : NestedKey} (h : Paired (EntR M H ι) kvs xs) : (atKey (ents kvs xs) k).isSome = (lkN kvs k).isSome := by
  cases e : lkN kvs k with
  | none => rw [(lkN_ok h).2 e]; rfl
  | some w => obtain ⟨q, v, e2, _⟩ := (lkN_ok h).1 w e; rw [e2]; rfl
theorem op_inN (aP : X.prog = M.P) (aw : X.w = M.w) (aK : X.K = M.K) (hu : X.A.units + 65 < cLine) : OpR X (compareOp .In) (rInN M false) := by
  intro pins s σ H x y v u Q I rx ry h
  obtain ⟨ι, E, wx, wy, o, R, rwx, rwy, e, q⟩ := h
  obtain ⟨a, b, i, kvs, xs, rfl, rfl, d, kb, rfl⟩ := lkDn_ok I aK R rwx rwy rx e
  obtain rfl : u = Value.ref a := ry
  rw [aP, aw]
  refine wpAny_in_heap (room_n hu) kb d.low d.dict ?_
  rw [some_eq d.ent]
  exact ⟨.bl _, H, I.tok (s.toks + (nestedKind M.P M.w).draws (nk wx)), rfl, q⟩
theorem op_notInN (aP : X.prog = M.P) (aw : X.w = M.w) (aK : X.K = M.K) (hu : X.A.units + 65 < cLine) : OpR X (compareOp .NotIn) (rInN M true) := by
  intro pins s σ H x y v u Q I rx ry h
  obtain ⟨ι, E, wx, wy, o, R, rwx, rwy, e, q⟩ := h
  obtain ⟨a, b, i, kvs, xs, rfl, rfl, d, kb, rfl⟩ := lkDn_ok I aK R rwx rwy rx e
  obtain rfl : u = Value.ref a := ry
  rw [aP, aw]
  refine wpAny_notIn_heap (room_n hu) kb d.low d.dict ?_
  rw [some_eq d.ent]
  exact ⟨.bl _, H, I.tok (s.toks + (nestedKind M.P M.w).draws (nk wx)), rfl, q⟩
end G

set_option Elab.async false
set_option linter.all false
set_option maxRecDepth 100000
set_option maxHeartbeats 4000000
namespace G
open PySem L2 PySem.Spec PyProof.Rows
variable {M : Md} {H H' H1 H2 : Hp} {ι ι' ι1 ι2 : List Addr} {X : Cx} {W' : WX}

/-! ### d[k] -/
def rIxN (M : Md) : R2 := fun x y H Q => ∃ ι E wx wy w, Rel M ι E H ∧ RelW M H ι wx x ∧ RelW M H ι wy y ∧ lkDn E wx wy = some (some w) ∧ Fin M ι H w E Q
theorem ix_N (aP : X.prog = M.P) (aw : X.w = M.w) (aK : X.K = M.K) (hu : X.A.units + 65 < cLine) : IxR X (rIxN M) := by
  intro value slice pins s σ H x y v u Q I rx ry h hs
  obtain ⟨ι, E, wx, wy, w, R, rwx, rwy, e, k⟩ := h
  obtain ⟨a, b, i, kvs, xs, rfl, rfl, d, kb, e2⟩ := lkDn_ok I aK R rwy rwx ry e
  obtain rfl : v = Value.ref a := rx
  obtain ⟨p, vv, hp, rw1, rv1⟩ := (lkN_ok d.ent).1 w e2.symm
  refine tail_any d.dict.typeIs PySem.F.slot_dict_getitem.lookup ?_ hs
  rw [aP, aw]
  exact wpAny_getItem_heap (room_n hu) kb d.dict hp ⟨vv, H, I.tok (s.toks + (nestedKind M.P M.w).draws (nk wy)), rv1, k.now R rw1⟩
/-! ### d[k] = v -/
def putN (kvs : List (W × W)) (kw w : W) : List (W × W) := if (lkN kvs (nk kw)).isSome = true then kvs.map (fun p => if NestedKey.beq (nk p.1) (nk kw) = true then (p.1, w) else p) else kvs ++ [(kw, w)]
theorem put_ok {kvs : List (W × W)} {xs : List (Addr × V × Value)} {kw w : W} {b : Addr} {v : V} {u : Value} (h : Paired (EntR M H ι) kvs xs) (rk : RelW M H ι kw (.ref b)) (ko : kOk kw = true) (kd : (nk kw).depth ≤ 8) (rw' : RelW M H ι w v) (rv : RelV v u) :
    ∃ xs', ents (putN kvs kw w) xs' = storedH (ents kvs xs) (nk kw) b u ∧ Paired (EntR M H ι) (putN kvs kw w) xs' := by
  unfold putN storedH
  rw [some_eq h]
  by_cases e : (lkN kvs (nk kw)).isSome = true
  · rw [if_pos e, if_pos e]
    clear e
    induction h with
    | nil => exact ⟨[], rfl, .nil⟩
    | @cons p q ps qs hp _ ih =>
      obtain ⟨xs', e1, p1⟩ := ih
      by_cases e : nk p.1 = nk kw
      · refine ⟨(q.1, v, u) :: xs', ?_, ?_⟩
        · rw [List.map_cons, if_pos (beq_dec.mpr e)]
          show (nk p.1, q.1, u) :: ents _ xs' = putAt (nk kw) u (nk p.1, q.1, q.2.2) :: (ents ps qs).map (putAt (nk kw) u)
          rw [e1]
          simp [putAt, e]
        · rw [List.map_cons, if_pos (beq_dec.mpr e)]
          exact .cons ⟨hp.1, rw', rv⟩ p1
      · refine ⟨q :: xs', ?_, ?_⟩
        · rw [List.map_cons, if_neg (fun z => e (beq_dec.mp z))]
          show (nk p.1, q.1, q.2.2) :: ents _ xs' = putAt (nk kw) u (nk p.1, q.1, q.2.2) :: (ents ps qs).map (putAt (nk kw) u)
          rw [e1]
          simp [putAt, e]
        · rw [List.map_cons, if_neg (fun z => e (beq_dec.mp z))]
          exact .cons hp p1
  · rw [if_neg e, if_neg e]
    refine ⟨xs ++ [(b, v, u)], ?_, Paired.snoc h ⟨⟨rk, ko, kd⟩, rw', rv⟩⟩
    show List.zipWith _ (kvs ++ [(kw, w)]) (xs ++ [(b, v, u)]) = _
    rw [List.zipWith_append (Paired.length h)]
    rfl
theorem putN_len {kvs : List (W × W)} {kw w : W} : (putN kvs kw w).length ≤ kvs.length + 1 := by
  unfold putN
  split
  · rw [List.length_map]; omega
  · rw [List.length_append]; exact Nat.le_refl _
def wSetN (o i w : W) (E : Hh) : Option Hh := match dnOf E o with
  | some (n, kvs) => if tkOk i = true ∧ kvs.length ≤ few then some (E.set n (.dN (putN kvs i w))) else none
  | none => none
def rSetN (M : Md) : V → V → V → Hp → (Hp → Prop) → Prop := fun o i v H Q => ∃ ι E wo wi w E', Rel M ι E H ∧ RelW M H ι wo o ∧ RelW M H ι wi i ∧ RelW M H ι w v ∧ wSetN wo wi w E = some E' ∧ ∀ ι' H', Ext M ι H ι' H' → Rel M ι' E' H' → Q H'
theorem ext_new {P : Program} {wd : World} {H' : Hp} {h' : Heap} {a : Addr} {xs : List (NestedKey × Addr × Value)} (d : h'.DictOfH (nestedKind P wd) a xs) : ObjOk P wd H' h' a (DkAt P wd a xs) := by
  obtain ⟨o, es, ep, g1, g2, g3, g4, _⟩ := d
  exact ⟨⟨o, es, ep, g1, g2, g3, g4⟩, ⟨o, g1⟩, fun h1 h2 ⟨o, es, ep, g1, g⟩ k => ⟨o, es, ep, k o g1, g⟩⟩
/-- the store itself -/
theorem setN_ok {pins : List (Addr × Obj)} {σ : L2.St} {s : Shared} {E E' : Hh} {wo wi w : W} {o i v : V} {ov iv u : Value} {Q : Hp → Prop} (aP : X.prog = M.P) (aw : X.w = M.w) (aK : X.K = M.K) (hu : X.A.units + 65 < cLine) (I : Inv X pins σ H s) (ro : RelV o ov) (ri : RelV i iv) (rv : RelV v u)
    (R : Rel M ι E H) (rwo : RelW M H ι wo o) (rwi : RelW M H ι wi i) (rww : RelW M H ι w v) (e : wSetN wo wi w E = some E') (k : ∀ ι' H', Ext M ι H ι' H' → Rel M ι' E' H' → Q H') :
    wpAny (model X.prog X.w) X.A (setItem ov iv u) (fun _ s' => ∃ H', Inv X pins σ H' s' ∧ Q H') X.xe s := by
  unfold wSetN at e
  cases e1 : dnOf E wo with
  | none => rw [e1] at e; cases e
  | some p =>
    obtain ⟨n, kvs⟩ := p
    rw [e1] at e
    dsimp only at e
    split at e
    · rename_i hc
      obtain rfl := Option.some.inj e
      obtain ⟨a, xs, rfl, rfl, d⟩ := dn_ok I aK R e1 rwo
      obtain ⟨b, rfl, rfl, kb⟩ := tk_ok I aK hc.1 rwi ri
      obtain rfl : ov = Value.ref a := ro
      have hl := Paired.length d.ent
      have ko : kOk wi = true ∧ (nk wi).depth ≤ 8 := by
        cases wi with
        | tup ws => have z := hc.1; simp only [tkOk, Bool.and_eq_true, decide_eq_true_eq] at z; exact ⟨by simpa [kOk] using z.1, z.2⟩
        | _ => cases hc.1
      obtain ⟨xs', ex, pe⟩ := put_ok d.ent rwi ko.1 ko.2 rww rv
      obtain ⟨ob, hob, hm⟩ := d.obj
      rw [aP, aw]
      refine wpAny_setItem_heap (hsz := by rw [ents_len hl]; exact d.len) (room_n hu) kb d.dict fun h' dd hs => ?_
      have dd2 := dd
      rw [← ex] at dd2
      have nd : ((putN kvs wi w).map fun p => nk p.1).Nodup := by
        rw [← ents_keys (Paired.length pe)]
        exact dd2.nodup
      have len2 : (putN kvs wi w).length ≤ sizeLine := Nat.le_trans putN_len (few_lt hc.2)
      have new : ObjOk X.prog X.w (upd H a (DkAt M.P M.w a (ents (putN kvs wi w) xs'))) h' a (DkAt M.P M.w a (ents (putN kvs wi w) xs')) := by
        rw [aP, aw]
        exact ext_new dd2
      have I2 : Inv X pins σ (upd H a (DkAt M.P M.w a (ents (putN kvs wi w) xs'))) { s with heap := h', toks := s.toks + (nestedKind M.P M.w).draws (nk wi) } :=
        d_write I d.mu hs (by obtain ⟨o, _, _, g1, _⟩ := dd2; exact ⟨o, g1⟩) new
      obtain ⟨R2, x2⟩ := Rel.put (o := .dN (putN kvs wi w)) (ho := DkAt M.P M.w a (ents (putN kvs wi w) xs')) R d.at' hob hm d.nt rfl fun x =>
        ⟨xs', upd_same, len2, d.low, nd, Paired.mapP pe fun p q ⟨⟨a1, a2⟩, a3, a4⟩ => ⟨⟨a1.ext x, a2⟩, a3.ext x, a4⟩⟩
      exact ⟨_, I2, k _ _ x2 R2⟩
    · cases e
theorem set_N (aP : X.prog = M.P) (aw : X.w = M.w) (aK : X.K = M.K) (hu : X.A.units + 65 < cLine) : PSet X (rSetN M) := by
  intro pins s σ H o i v ov iv u Q I ro ri rv ⟨ι, E, wo, wi, w, E', R, rwo, rwi, rww, e, k⟩
  exact setN_ok aP aw aK hu I ro ri rv R rwo rwi rww e k
/-! ### its truth, its length -/
theorem raw_len {P : Program} {wd : World} {A : Around} {E : Value → Shared → Prop} {s : Shared} {d : Addr} {es : Array DictEntry} {ep : Nat} {Q : Value → Shared → Prop} (hd : (d == sysModules) = false) (hm : s.heap.DictRaw d es ep) (hfit : (es.size : Int) < 2 ^ 63)
    (h : ∀ t s', s'.heap = s.heap → { s with toks := s'.toks } = s' → Q (.int es.size t) s') : wpAny (model P wd) A (Builtin.«len» ⟨[.ref d], []⟩) (fun fin s' => ∃ r, fin = .done (.ret r) ∧ Q r s') E s := by
  unfold Builtin.«len»
  refine wpAny_bind (m := oneArg "len" _) (wpAny_pure ?_)
  refine wpAny_bind (m := callSpecial? (.ref d) (Str.ofString "__len__")) (wpAny_callSpecial?_slot (name := Str.ofString "__len__") hm.typeIs PySem.F.slot_dict_len (call_len_raw hd hm ?_))
  refine wpAny_bind (wpAny_holding (wpAny_pure ?_))
  refine wpAny_bind (wpAny_letGo ?_)
  show wpAny _ _ (if ((es.size : Nat) : Int) < 0 then _ else _) _ _ _
  rw [if_neg (by omega)]
  show wpAny _ _ (if ((es.size : Nat) : Int) ≥ 2 ^ 63 then _ else _) _ _ _
  rw [if_neg (by omega)]
  exact wpAny_bind (wpAny_mkInt (wpAny_pure ⟨_, rfl, h _ _ rfl rfl⟩))
theorem raw_truth {P : Program} {wd : World} {A : Around} {E : Value → Shared → Prop} {s : Shared} {d : Addr} {es : Array DictEntry} {ep : Nat} {Q : Bool → Shared → Prop} (hd : (d == sysModules) = false) (hm : s.heap.DictRaw d es ep) (hfit : (es.size : Int) < 2 ^ 63)
    (h : ∀ s', s'.heap = s.heap → { s with toks := s'.toks } = s' → Q ((es.size : Int) != 0) s') : wpAny (model P wd) A (truthy (.ref d)) Q E s := by
  have ln : wpAny (model P wd) A (runValue (.builtin "len" ⟨[.ref d], []⟩)) (fun r s' => (∃ t, r = .int es.size t) ∧ s'.heap = s.heap ∧ { s with toks := s'.toks } = s') E s := by
    refine wpAny_runValue (codeAny_builtin entry_len ?_)
    rw [Around.under_plainId plain_len _]
    exact wpAny_mono (raw_len (Q := fun r s' => (∃ t, r = .int es.size t) ∧ s'.heap = s.heap ∧ { s with toks := s'.toks } = s') hd hm hfit fun t s' a b => ⟨⟨t, rfl⟩, a, b⟩) (fun fin s' ⟨r, e, q⟩ => by subst e; exact q) fun _ _ e => e
  unfold truthy
  first
    | refine wpAny_bind (wpAny_callSpecial?_none (name := Str.ofString "__bool__") hm.typeIs noBool_dict ?_)
    | refine wpAny_bind (wpAny_pure (wpAny_bind (wpAny_callSpecial?_none (name := Str.ofString "__bool__") hm.typeIs noBool_dict ?_)))
  first
    | refine wpAny_bind (wpAny_specialOf (name := Str.ofString "__len__") hm.typeIs PySem.F.slot_dict_len.lookup ?_)
    | refine wpAny_bind (wpAny_pure (wpAny_bind (wpAny_specialOf (name := Str.ofString "__len__") hm.typeIs PySem.F.slot_dict_len.lookup ?_)))
  have fin : wpAny (model P wd) A (runValue (.builtin "len" ⟨[.ref d], []⟩)) (fun r s' => wpAny (model P wd) A (match r with
      | .int n _ => pure (n != 0)
      | _ => unsupported "internal:truth.len") Q E s') E s := wpAny_mono ln (fun r s' ⟨⟨t, e⟩, a, b⟩ => by subst e; exact wpAny_pure (h s' a b)) fun _ _ e => e
  first
    | exact wpAny_bind fin
    | exact wpAny_bind (wpAny_pure (wpAny_bind fin))
def rTruN (M : Md) : V → Hp → (Bool → Hp → Prop) → Prop := fun x H Q => ∃ ι E wx n kvs, Rel M ι E H ∧ RelW M H ι wx x ∧ dnOf E wx = some (n, kvs) ∧ Q (!kvs.isEmpty) H
theorem dn_raw {E : Hh} {h : Heap} {i : Nat} {a : Addr} {kvs : List (W × W)} {xs : List (Addr × V × Value)} (d : DnAt M H ι E h i a kvs xs) : ∃ es ep, h.DictRaw a es ep ∧ es.size = kvs.length := by
  obtain ⟨es, ep, hr, hs, _⟩ := d.dict.raw
  exact ⟨es, ep, hr, by rw [hs, ents_len (Paired.length d.ent)]⟩
theorem tru_N (aK : X.K = M.K) : TruR X (rTruN M) := by
  intro pins s σ H x v Q I rx ⟨ι, E, wx, n, kvs, R, rwx, e, q⟩
  obtain ⟨a, xs, rfl, rfl, d⟩ := dn_ok I aK R e rwx
  obtain rfl : v = Value.ref a := rx
  obtain ⟨es, ep, hr, hs⟩ := dn_raw d
  have hb : ((es.size : Int) != 0) = !kvs.isEmpty := by
    rw [hs]
    cases kvs <;> simp <;> omega
  refine raw_truth d.low hr (by rw [hs]; have := d.len; rw [sizeLine_eq] at this; omega) fun s' a b => ?_
  rw [← b, hb]
  exact ⟨H, I.tok _, q⟩
def rLenN (M : Md) : List V → Hp → VK → Prop := fun xs H Q => ∃ ι E x wx n kvs, xs = [x] ∧ Rel M ι E H ∧ RelW M H ι wx x ∧ dnOf E wx = some (n, kvs) ∧ Q (.int kvs.length) H
theorem cr_lenN (aK : X.K = M.K) : CallR X (.builtin "len") (rLenN M) := by
  intro pins s σ H xs us Q I rx ⟨ι, E, x, wx, n, kvs, e0, R, rwx, e, q⟩
  subst e0
  obtain ⟨u, rfl, ru⟩ := vals1 rx
  obtain ⟨a, xs, rfl, rfl, d⟩ := dn_ok I aK R e rwx
  obtain rfl : u = Value.ref a := ru
  obtain ⟨es, ep, hr, hs⟩ := dn_raw d
  refine Calls.call_function_entry kind_len plain_len entry_len (args_len1 _) (raw_len d.low hr (by rw [hs]; have := d.len; rw [sizeLine_eq] at this; omega) fun t s' a b => ?_)
  rw [← b, hs]
  exact ⟨.int kvs.length, H, I.tok _, ⟨_, rfl⟩, q⟩
end G

set_option Elab.async false
set_option linter.all false
set_option maxRecDepth 100000
set_option maxHeartbeats 4000000
namespace G
open PySem L2 PySem.Spec PyProof.Rows
variable {M : Md} {H H' H1 H2 : Hp} {ι ι' ι1 ι2 : List Addr} {X : Cx} {W' : WX}

theorem PI.or2 {tg e : Expr} {t1 t2 : TI} (h1 : PI X tg e t1) (h2 : PI X tg e t2) : PI X tg e (fun σ H R => t1 σ H R ∨ t2 σ H R) := ⟨fun pins s σ H R I q => q.elim (h1.run pins s σ H R I) (h2.run pins s σ H R I)⟩
theorem PE.or2 {e : Expr} {t1 t2 : TE} (h1 : PE X e t1) (h2 : PE X e t2) : PE X e (fun σ H Q => t1 σ H Q ∨ t2 σ H Q) := ⟨fun pins s σ H R I q => q.elim (h1.run pins s σ H R I) (h2.run pins s σ H R I)⟩
/-! ### a dict that is walked is locked -/
def lockO : O → Option O
  | .dN kvs => some (.sdN kvs)
  | .dK kvs => some (.sdK kvs)
  | _ => none
def freeO : O → Option O
  | .sdN kvs => some (.dN kvs)
  | .sdK kvs => some (.dK kvs)
  | _ => none
theorem RelO.nofrz {a : Addr} {o : O} (h : RelO M H ι a o) (m : Mt o = true) : ∀ od u, H a ≠ some (.frz od u) := fun od u z => by
  cases o with
  | lst ws => obtain ⟨_, h1, _⟩ := h; rw [z] at h1; cases h1
  | dK ws => obtain ⟨_, h1, _⟩ := h; rw [z] at h1; cases h1
  | dN ws => obtain ⟨_, h1, _⟩ := h; rw [z] at h1; cases h1
  | slst ws => cases m
  | sdN ws => cases m
  | sdK ws => cases m
  | exc b => cases m
  | cup j => rw [show H a = _ from h] at z; cases z
  | txs xs => rw [show H a = _ from h] at z; cases z
/-- what may be locked -/
def Dic (u : HO) : Prop := (∃ kvs, u = .dK kvs) ∨ ∃ φ, u = .ext φ
theorem Dic.mut {u : HO} (h : Dic u) : Mut (some u) := by
  rcases h with ⟨_, rfl⟩ | ⟨_, rfl⟩ <;> exact True.intro
theorem Dic.nt {u : HO} (h : Dic u) : (∀ xs, u ≠ .tup xs) ∧ (∀ b xs, u ≠ .frz b xs) ∧ ∀ xs, u ≠ .lst xs := by
  rcases h with ⟨_, rfl⟩ | ⟨_, rfl⟩ <;> exact ⟨fun _ z => (nomatch z), fun _ _ z => (nomatch z), fun _ z => (nomatch z)⟩
theorem lock_rel {E : Hh} {i : Nat} {a : Addr} {o o' : O} (R : Rel M ι E H) (ha : ι[i]? = some a) (he : (E : List O)[i]? = some o) (hl : lockO o = some o') :
    ∃ u, H a = some u ∧ Dic u ∧ ∀ od, Rel M ι (E.set i o') (upd H a (.frz od u)) ∧ Ext M ι H ι (upd H a (.frz od u)) := by
  have ro := R.at he ha
  have mo : Mt o = true := by cases o <;> first | rfl | cases hl
  obtain ⟨u, hu, du, new⟩ : ∃ u, H a = some u ∧ Dic u ∧ ∀ od, Ext M ι H ι (upd H a (.frz od u)) → RelO M (upd H a (.frz od u)) ι a o' := by
    cases o with
    | dN kvs =>
      obtain rfl := Option.some.inj hl
      obtain ⟨xs, h1, h2, h3, h4, h5⟩ := ro
      exact ⟨_, h1, .inr ⟨_, rfl⟩, fun od x => ⟨xs, od, upd_same, h2, h3, h4, Paired.mapP h5 fun p q ⟨⟨a1, a2⟩, a3, a4⟩ => ⟨⟨a1.ext x, a2⟩, a3.ext x, a4⟩⟩⟩
    | dK kvs =>
      obtain rfl := Option.some.inj hl
      obtain ⟨vs, h1, h2⟩ := ro
      exact ⟨_, h1, .inl ⟨_, rfl⟩, fun od x => ⟨vs, od, upd_same, h2.ext x⟩⟩
    | _ => cases hl
  refine ⟨u, hu, du, fun od => ?_⟩
  obtain ⟨n1, n2, n3⟩ := du.nt
  have nf : ∀ b q v, H b = some (.frz q v) → b ≠ a := fun b q v h z => by rw [z, hu] at h; exact n2 _ _ (Option.some.inj h)
  have x : Ext M ι H ι (upd H a (.frz od u)) := by
    refine ⟨List.prefix_refl _, fun b xs h => ?_, fun b q v h => by rw [upd_ne (nf b q v h)]; exact h⟩
    rcases h with (h | ⟨ob, h⟩) | h
    · exact .inl (.inl (by rw [upd_ne (fun z => by rw [z, hu] at h; exact n1 xs (Option.some.inj h))]; exact h))
    · exact .inl (.inr ⟨ob, by rw [upd_ne (nf _ _ _ h)]; exact h⟩)
    · exact .inr h
  have hi : i < E.length := (List.getElem?_eq_some_iff.mp he).1
  have set_at : ∀ (j : Nat) (v : O), (E.set i o')[j]? = some v → j = i ∧ v = o' ∨ j ≠ i ∧ E[j]? = some v := fun j v e => by
    by_cases hj : j = i
    · subst hj
      rw [List.getElem?_set_self hi] at e
      exact .inl ⟨rfl, (Option.some.inj e).symm⟩
    · rw [List.getElem?_set_ne (Ne.symm hj)] at e
      exact .inr ⟨hj, e⟩
  refine ⟨⟨by rw [List.length_set]; exact R.len, fun j k b v1 v2 h1 h2 e1 e2 m1 m2 => ?_, fun j v e => ?_, Tabs.putN R.tabs hu (ro.noCode mo hu)⟩, x⟩
  · rcases set_at j v1 e1 with ⟨l1, g1⟩ | ⟨l1, g1⟩ <;> rcases set_at k v2 e2 with ⟨l2, g2⟩ | ⟨l2, g2⟩
    · rw [l1, l2]
    · rw [l1] at h1 ⊢
      exact R.inj i k b o v2 h1 h2 he g2 (Mt.ow mo) m2
    · rw [l2] at h2 ⊢
      exact R.inj j i b v1 o h1 h2 g1 he m1 (Mt.ow mo)
    · exact R.inj j k b v1 v2 h1 h2 g1 g2 m1 m2
  · rcases set_at j v e with ⟨l1, g1⟩ | ⟨l1, g1⟩
    · subst l1
      subst g1
      exact ⟨a, ha, new od x⟩
    · obtain ⟨b, eb, rb⟩ := R.obj j v g1
      refine ⟨b, eb, rb.other x (fun c xs h => ?_) (fun c q w h => by rw [upd_ne (nf c q w h)]; exact h) fun m z => ?_⟩
      · rcases h with ⟨ob, h⟩ | h
        · exact .inl ⟨ob, by rw [upd_ne (nf _ _ _ h)]; exact h⟩
        · exact .inr h
      · subst z
        exact l1 (R.inj j i b v o eb ha g1 he m (Mt.ow mo))
mutual
theorem RelW.tps (t : ∀ b xs, SqT M.K H b xs → SqT M.K H' b xs) : ∀ {w : W} {v : V}, RelW M H ι w v → RelW M H' ι w v
  | .non, _, h => h
  | .bl _, _, h => h
  | .int _, _, h => h
  | .str _, _, h => h
  | .tup ws, v, h => by
    obtain ⟨a, vs, e, ht, hw⟩ := h
    exact ⟨a, vs, e, t _ _ ht, RelWs.tps t hw⟩
  | .ref i, v, h => h
  | .fn _, _, h => h
  | .ty _, _, h => h
theorem RelWs.tps (t : ∀ b xs, SqT M.K H b xs → SqT M.K H' b xs) : ∀ {ws : List W} {vs : List V}, RelWs M H ι ws vs → RelWs M H' ι ws vs
  | [], _, h => h
  | w :: ws, vs, h => by
    obtain ⟨v, r, e, h1, h2⟩ := h
    exact ⟨v, r, e, RelW.tps t h1, RelWs.tps t h2⟩
end
theorem free_rel {E : Hh} {i : Nat} {a : Addr} {od : Obj} {u : HO} {o o' : O} (R : Rel M ι' E H') (ha : ι'[i]? = some a) (he : (E : List O)[i]? = some o) (hl : freeO o = some o') (hf : H' a = some (.frz od u)) (du : Dic u)
    (x : Ext M ι H ι' H') (h0 : ∀ q w, H a ≠ some (.frz q w)) : Rel M ι' (E.set i o') (upd H' a u) ∧ Ext M ι H ι' (upd H' a u) := by
  have ro := R.at he ha
  obtain ⟨n1, n2, n3⟩ := du.nt
  have nf : ∀ b v, H' b = some v → (∀ q w, v ≠ .frz q w) → b ≠ a := fun b v h n z => by rw [z, hf] at h; cases h; exact n _ _ rfl
  have tp : ∀ b xs, SqT M.K H' b xs → SqT M.K (upd H' a u) b xs := fun b xs h => by
    rcases h with (h | ⟨ob, h⟩) | h
    · exact .inl (.inl (by rw [upd_ne (nf b _ h (fun _ _ z => nomatch z))]; exact h))
    · exact .inl (.inr ⟨ob, by rw [upd_ne (fun z => by rw [z, hf] at h; cases h; exact n1 _ rfl)]; exact h⟩)
    · exact .inr h
  have st : ∀ b xs, StL M.K H' b xs → StL M.K (upd H' a u) b xs := fun b xs h => by
    rcases h with ⟨ob, h⟩ | h
    · exact .inl ⟨ob, by rw [upd_ne (fun z => by rw [z, hf] at h; cases h; exact n3 _ rfl)]; exact h⟩
    · exact .inr h
  have r1 : ∀ {w v}, RelW M H' ι' w v → RelW M (upd H' a u) ι' w v := fun h => RelW.tps tp h
  have rs : ∀ {w v}, RelWs M H' ι' w v → RelWs M (upd H' a u) ι' w v := fun h => RelWs.tps tp h
  have hi : i < E.length := (List.getElem?_eq_some_iff.mp he).1
  have set_at : ∀ (j : Nat) (v : O), (E.set i o')[j]? = some v → j = i ∧ v = o' ∨ j ≠ i ∧ E[j]? = some v := fun j v e => by
    by_cases hj : j = i
    · subst hj
      rw [List.getElem?_set_self hi] at e
      exact .inl ⟨rfl, (Option.some.inj e).symm⟩
    · rw [List.getElem?_set_ne (Ne.symm hj)] at e
      exact .inr ⟨hj, e⟩
  have oo : Ow o = true := by cases o <;> first | rfl | cases hl
  have away : ∀ (j : Nat) (v : O), j ≠ i → ι'[j]? = some a → (E : List O)[j]? = some v → Ow v = true → False := fun j v n h1 h2 m => n (R.inj j i a v o h1 ha h2 he m oo)
  refine ⟨⟨by rw [List.length_set]; exact R.len, fun j k b v1 v2 h1 h2 e1 e2 m1 m2 => ?_, fun j v e => ?_, Tabs.putN R.tabs hf ⟨fun _ z => (nomatch z), fun _ z => (by unfold LamX.CodeO at z; cases z)⟩⟩, ⟨x.pre, fun b xs h => tp b xs (x.tup b xs h), fun b q w h => ?_⟩⟩
  · rcases set_at j v1 e1 with ⟨l1, g1⟩ | ⟨l1, g1⟩ <;> rcases set_at k v2 e2 with ⟨l2, g2⟩ | ⟨l2, g2⟩
    · rw [l1, l2]
    · rw [l1, ha] at h1
      cases h1
      exact (away k v2 l2 h2 g2 m2).elim
    · rw [l2, ha] at h2
      cases h2
      exact (away j v1 l1 h1 g1 m1).elim
    · exact R.inj j k b v1 v2 h1 h2 g1 g2 m1 m2
  · rcases set_at j v e with ⟨l1, g1⟩ | ⟨l1, g1⟩
    · subst l1
      subst g1
      refine ⟨a, ha, ?_⟩
      cases o with
      | sdN kvs =>
        obtain rfl := Option.some.inj hl
        obtain ⟨xs, od', h1, h2, h3, h4, h5⟩ := ro
        rw [hf] at h1
        cases h1
        exact ⟨xs, upd_same, h2, h3, h4, Paired.mapP h5 fun p q ⟨⟨a1, a2⟩, a3, a4⟩ => ⟨⟨r1 a1, a2⟩, r1 a3, a4⟩⟩
      | sdK kvs =>
        obtain rfl := Option.some.inj hl
        obtain ⟨vs, od', h1, h2⟩ := ro
        rw [hf] at h1
        cases h1
        exact ⟨vs, upd_same, rs h2⟩
      | _ => cases hl
    · obtain ⟨b, eb, rb⟩ := R.obj j v g1
      refine ⟨b, eb, ?_⟩
      by_cases hb : b = a
      · subst hb
        cases v with
        | slst ws =>
          obtain ⟨vs, h1, h2⟩ := rb
          exact ⟨vs, st _ _ h1, rs h2⟩
        | exc b => exact rb
        | _ => exact (away j _ l1 eb g1 rfl).elim
      · cases v with
        | slst ws => obtain ⟨vs, h1, h2⟩ := rb; exact ⟨vs, st _ _ h1, rs h2⟩
        | lst ws => obtain ⟨vs, h1, h2⟩ := rb; exact ⟨vs, by rw [upd_ne hb]; exact h1, rs h2⟩
        | dK ws => obtain ⟨vs, h1, h2⟩ := rb; exact ⟨vs, by rw [upd_ne hb]; exact h1, rs h2⟩
        | dN ws => obtain ⟨vs, h1, h2, h3, h4, h5⟩ := rb; exact ⟨vs, by rw [upd_ne hb]; exact h1, h2, h3, h4, Paired.mapP h5 fun p q ⟨⟨a1, a2⟩, a3, a4⟩ => ⟨⟨r1 a1, a2⟩, r1 a3, a4⟩⟩
        | sdN ws => obtain ⟨vs, od', h1, h2, h3, h4, h5⟩ := rb; exact ⟨vs, od', by rw [upd_ne hb]; exact h1, h2, h3, h4, Paired.mapP h5 fun p q ⟨⟨a1, a2⟩, a3, a4⟩ => ⟨⟨r1 a1, a2⟩, r1 a3, a4⟩⟩
        | sdK ws => obtain ⟨vs, od', h1, h2⟩ := rb; exact ⟨vs, od', by rw [upd_ne hb]; exact h1, rs h2⟩
        | exc b => exact rb
        | cup j => exact (upd_ne hb).trans rb
        | txs xs => exact (upd_ne hb).trans rb
  · by_cases hb : b = a
    · subst hb
      exact (h0 q w h).elim
    · rw [upd_ne hb]
      exact x.frz b q w h
end G

set_option Elab.async false
set_option linter.all false
set_option maxRecDepth 100000
set_option maxHeartbeats 4000000
namespace G
open PySem L2 PySem.Spec PyProof.Rows
variable {M : Md} {H H' H1 H2 : Hp} {ι ι' ι1 ι2 : List Addr} {X : Cx} {W' : WX}

/-- while an expression is worked out -/
def lockE (ix : Sg → Hh → Option Nat) (ca : Act W) : Act W := fun σ E => match (ix σ E).bind fun i => ((E : List O)[i]?).bind fun o => (lockO o).map fun o' => (i, o') with
  | some (i, o') => andThen (ca σ (E.set i o')) fun w E1 => match ((E1 : List O)[i]?).bind freeO with
    | some u => some (.ok w (E1.set i u))
    | none => none
  | none => ca σ E
theorem pe_lockG {e : Expr} {ix : Sg → Hh → Option Nat} {ca : Act W} (h : PE X e (SE M W' ca)) : PE X e (SE M W' (lockE ix ca)) := by
  refine PE.imp (PE.or2 h (pe_lock h)) fun σ H Q ⟨ι, E, σE, R, rs, k⟩ => ?_
  unfold lockE at k
  split at k
  · rename_i p i o' hp
    right
    obtain ⟨i0, _, hp⟩ := Option.bind_eq_some_iff.mp hp
    obtain ⟨o, he, hp⟩ := Option.bind_eq_some_iff.mp hp
    obtain ⟨o1, hl, hp⟩ := Option.map_eq_some_iff.mp hp
    obtain ⟨rfl, rfl⟩ : i0 = i ∧ o1 = o' := by simpa using hp
    obtain ⟨a, ha, ro⟩ := R.obj i0 o he
    obtain ⟨u, hu, du, lk⟩ := lock_rel R ha he hl
    have h0 : ∀ q w, H a ≠ some (.frz q w) := fun q w z => by
      rw [hu] at z
      cases z
      exact du.nt.2.1 _ _ rfl
    refine ⟨a, u, hu, du.mut, fun od => ?_⟩
    obtain ⟨R0, x0⟩ := lk od
    refine ⟨ι, E.set i0 o1, σE, R0, rs.ext x0, ((Rs.bind k).ext x0).imp fun w E1 h1 => fun ι1 H1 v x1 R1 rv => ?_⟩
    have hf : H1 a = some (.frz od u) := x1.frz _ _ _ upd_same
    refine ⟨hf, ?_⟩
    have ha1 := pre_get x1.pre ha
    cases e1 : (E1 : List O)[i0]? with
    | none => rw [e1] at h1; exact h1.none.elim
    | some o2 =>
      rw [e1] at h1
      dsimp only [Option.bind] at h1
      cases e2 : freeO o2 with
      | none => rw [e2] at h1; exact h1.none.elim
      | some o3 =>
        rw [e2] at h1
        obtain ⟨R2, x2⟩ := free_rel R1 ha1 e1 e2 hf du (x0.trans x1) h0
        have tp : ∀ b xs, SqT M.K H1 b xs → SqT M.K (upd H1 a u) b xs := fun b xs h => by
          obtain ⟨n1, n2, n3⟩ := du.nt
          rcases h with (h | ⟨ob, h⟩) | h
          · exact .inl (.inl (by rw [upd_ne (fun z => by rw [z, hf] at h; cases h)]; exact h))
          · exact .inl (.inr ⟨ob, by rw [upd_ne (fun z => by rw [z, hf] at h; cases h; exact n1 _ rfl)]; exact h⟩)
          · exact .inr h
        exact h1.ok ι1 _ v x2 R2 (RelW.tps tp rv)
  · exact .inl ⟨ι, E, σE, R, rs, k⟩
/-! ### the keys of a locked dict by tuples -/
def ItkN (M : Md) (d : Addr) (od : Obj) (xs : List (NestedKey × Addr × Value)) : It where
  go i H := H d = some (.frz od (DkAt M.P M.w d xs)) ∧ i < xs.length
  yld i H x H' := H' = H ∧ ∃ q, xs[i]? = some q ∧ x = .ref q.2.1
  stop i H := H d = some (.frz od (DkAt M.P M.w d xs)) ∧ i = xs.length
theorem frz_raw {pins : List (Addr × Obj)} {σ : L2.St} {s : Shared} {d : Addr} {od : Obj} {es : Array DictEntry} {ep : Nat} {xs : List (NestedKey × Addr × Value)} (I : Inv X pins σ H s) (h : H d = some (.frz od (DkAt M.P M.w d xs))) (hod : od.data = .dict es ep) :
    s.heap.DictRaw d es ep ∧ es.toList = xs.map (entryOfKey (nestedKind M.P M.w)) := by
  obtain ⟨h1, ⟨o, es', ep', g1, g2, g3, g4⟩, _⟩ := I.hok d _ h
  rw [h1] at g1
  cases g1
  rw [hod] at g3
  cases g3
  exact ⟨⟨od, h1, g2, hod⟩, g4⟩
theorem turn_keysN {P : Program} {w : World} {K : PySem.W.Frag} {tg : Expr} {d it : Addr} {od : Obj} {es : Array DictEntry} {ep : Nat} {xs : List (NestedKey × Addr × Value)} (hod : od.data = .dict es ep) (hs : es.size = xs.length) :
    Turn P w K tg (ItkN M d od xs) [it] it (fun i h => h.IsKeyIter it d i es.size ep) where
  mem := List.mem_cons_self ..
  obj := fun i h st b hb => by
    obtain rfl : b = it := List.mem_singleton.mp hb
    obtain ⟨o, e, _, dd⟩ := st
    exact ⟨o, e, fun v z => by rw [dd] at z; cases z⟩
  keep := fun i h h' st k => st.at fun o e => k it (by simp) o e
  item := by
    rintro X rfl rfl rfl hc i pins s σ H E I hf st ⟨hd, hi⟩
    obtain ⟨f0, f1, f2, f3, f4, f5⟩ := hf it (by simp)
    obtain ⟨raw, he⟩ := frz_raw I hd hod
    refine wpAny_pyNext_keys_item_raw st raw (by rw [hs]; exact hi) fun h' st' sb => ?_
    have I1 : Inv X pins σ H { s with heap := h' } := I.turned (t' := s.toks) (fun b ob hb e => (sb.2 b hb).trans e) f0 f1 f3 f4 f5
    obtain ⟨oi, e, c, dd⟩ := id st'
    have hq : xs[i]? = some xs[i] := List.getElem?_eq_getElem hi
    have hk : (es[i]'(by rw [hs]; exact hi)).key = .ref (xs[i]).2.1 := by
      have z : es.toList[i]? = some (entryOfKey (nestedKind M.P M.w) xs[i]) := by rw [he, List.getElem?_map, hq]; rfl
      have z2 : es.toList[i]? = some (es[i]'(by rw [hs]; exact hi)) := by rw [Array.getElem?_toList]; exact Array.getElem?_eq_getElem _
      rw [Option.some.inj (z2.symm.trans z)]
      rfl
    exact ⟨_, rfl, go_of (s := { s with heap := h' }) e c dd (by decide) ⟨.ref (xs[i]).2.1, H, I1, hk, ⟨rfl, _, hq, rfl⟩, st', fun b hb => (hf b hb).1⟩⟩
  done := by
    rintro X rfl rfl rfl hc i pins s σ H E I hf st ⟨hd, hi⟩
    obtain ⟨f0, f1, f2, f3, f4, f5⟩ := hf it (by simp)
    obtain ⟨raw, he⟩ := frz_raw I hd hod
    exact wpAny_pyNext_keys_end_raw (I.ok.hd hc) st raw (by rw [hs, hi]; exact Nat.le_refl _) fun h' eb => ⟨rfl, I.turned (t' := s.toks) (fun b ob hb e => eb b ob hb e) f0 f1 f3 f4 f5⟩
  self := fun A i s Q E st h => wpAny_pyIter_keyiter st h
def iKeysN (M : Md) (td : TE) : TI := fun σ H R => td σ H fun x H1 => ∃ d od xs, x = .ref d ∧ (d == sysModules) = false ∧ H1 d = some (.frz od (DkAt M.P M.w d xs)) ∧ R (ItkN M d od xs) H1
theorem raw_of {pins : List (Addr × Obj)} {σ : L2.St} {s : Shared} {d : Addr} {od : Obj} {xs : List (NestedKey × Addr × Value)} (I : Inv X pins σ H s) (h : H d = some (.frz od (DkAt M.P M.w d xs))) : ∃ es ep, od.data = .dict es ep ∧ s.heap.DictRaw d es ep ∧ es.size = xs.length := by
  obtain ⟨h1, ⟨o, es', ep', g1, g2, g3, g4⟩, _⟩ := I.hok d _ h
  rw [h1] at g1
  cases g1
  refine ⟨es', ep', g3, ⟨od, h1, g2, g3⟩, ?_⟩
  have z := congrArg List.length g4
  simpa using z
theorem pi_keysN {tg e : Expr} {td : TE} (he : PE X e td) : PI X tg e (iKeysN M td) := ⟨fun pins s σ H R I h => by
  refine thn (he.run pins s σ H _ I h) fun u s1 ⟨x, H1, I1, rx, d, od, xs, ex, low, hd, q⟩ => ?_
  subst ex
  obtain rfl : u = Value.ref d := rx
  obtain ⟨es, ep, hod, raw, hs⟩ := raw_of I1 hd
  exact wpAny_pyIter_dict_raw low raw (pi_one (tk := s1.toks) I1 _ (turn_keysN hod hs) ⟨_, Heap.get?_push_size _ rfl, rfl, rfl⟩ q)⟩
/-! ### its pairs -/
def ItiN (M : Md) (d : Addr) (od : Obj) (kvs : List (W × W)) (xs : List (Addr × V × Value)) : It where
  go i H := H d = some (.frz od (DkAt M.P M.w d (ents kvs xs))) ∧ i < (ents kvs xs).length ∧ ∃ p q, kvs[i]? = some p ∧ xs[i]? = some q ∧ RelV q.2.1 q.2.2
  yld i H x H' := ∃ T q, xs[i]? = some q ∧ x = .ref T ∧ H T = none ∧ H' = upd H T (.tup [.ref q.1, q.2.1])
  stop i H := H d = some (.frz od (DkAt M.P M.w d (ents kvs xs))) ∧ i = (ents kvs xs).length
theorem ents_at {kvs : List (W × W)} {xs : List (Addr × V × Value)} {i : Nat} {p : W × W} {q : Addr × V × Value} (h1 : kvs[i]? = some p) (h2 : xs[i]? = some q) : (ents kvs xs)[i]? = some (nk p.1, q.1, q.2.2) := by
  unfold ents
  rw [List.getElem?_zipWith, h1, h2]
theorem turn_itemsN {P : Program} {w : World} {K : PySem.W.Frag} {elts : List Expr} {kk : Nat} {tpos : Pos} {d it : Addr} {od : Obj} {es : Array DictEntry} {ep : Nat} {kvs : List (W × W)} {xs : List (Addr × V × Value)} (hod : od.data = .dict es ep) (hs : es.size = (ents kvs xs).length) :
    Turn P w K (.Tuple elts kk tpos) (ItiN M d od kvs xs) [it] it (fun i h => ∃ ok ov, IsItemIter h it d i es.size ep ok ov) where
  mem := List.mem_cons_self ..
  obj := fun i h st b hb => by
    obtain rfl : b = it := List.mem_singleton.mp hb
    obtain ⟨ok, ov, e⟩ := st
    exact ⟨_, e, fun v z => nomatch z⟩
  keep := fun i h h' st k => by
    obtain ⟨ok, ov, e⟩ := st
    exact ⟨ok, ov, k it (by simp) _ e⟩
  item := by
    rintro X rfl rfl rfl hc i pins s σ H E I hf ⟨ok, ov, st⟩ ⟨hd, hi, p0, q, hp, hq, rv⟩
    obtain ⟨raw, he⟩ := frz_raw I hd hod
    have lt : it < s.heap.objs.size := Heap.lt_size st
    refine wpAny_pyNext_items_item_raw st raw (by rw [hs]; exact hi) fun h' ho hT hz hk => ?_
    have hen : (es[i]'(by rw [hs]; exact hi)).key = .ref q.1 ∧ (es[i]'(by rw [hs]; exact hi)).val = q.2.2 := by
      have z : es.toList[i]? = some (entryOfKey (nestedKind M.P M.w) (nk p0.1, q.1, q.2.2)) := by rw [he, List.getElem?_map, ents_at hp hq]; rfl
      have z2 : es.toList[i]? = some (es[i]'(by rw [hs]; exact hi)) := by rw [Array.getElem?_toList]; exact Array.getElem?_eq_getElem _
      rw [Option.some.inj (z2.symm.trans z)]
      exact ⟨rfl, rfl⟩
    rw [hen.1, hen.2] at hT
    refine ⟨_, rfl, wpAny_letOwnedTupleGo_items (s := { s with heap := h' }) ho fun h'' st' sb => ?_⟩
    have hT2 : h''.get? s.heap.objs.size = some { cls := .type "tuple", data := .seq #[.ref q.1, q.2.2] } := (sb.2 _ (Nat.ne_of_gt lt)).trans hT
    have new : ObjOk X.prog X.w (upd H s.heap.objs.size (.tup [.ref q.1, q.2.1])) h'' s.heap.objs.size (.tup [.ref q.1, q.2.1]) := ⟨(by decide : (2 : Nat) ≤ sizeLine), _, .cons rfl (.cons rv .nil), _, hT2, rfl, _, rfl⟩
    have I1 : Inv X pins σ (upd H s.heap.objs.size (.tup [.ref q.1, q.2.1])) { s with heap := h'' } :=
      I.turnedNew (t' := s.toks) (ch := [it]) (fun b ob hb e => (sb.2 b (by simpa using hb)).trans (hk b ob (by simpa using hb) e)) hf (Nat.le_refl _) new
    refine ⟨.ref s.heap.objs.size, _, I1, rfl, ⟨_, q, hq, rfl, I.hok.fresh (Nat.le_refl _), rfl⟩, ⟨_, _, st'⟩, fun b hb => ?_⟩
    obtain rfl : b = it := List.mem_singleton.mp hb
    rw [upd_ne (Nat.ne_of_lt lt)]
    exact (hf b (by simp)).1
  done := by
    rintro X rfl rfl rfl hc i pins s σ H E I hf ⟨ok, ov, st⟩ ⟨hd, hi⟩
    obtain ⟨f0, f1, f2, f3, f4, f5⟩ := hf it (by simp)
    obtain ⟨raw, he⟩ := frz_raw I hd hod
    exact wpAny_pyNext_items_end_raw (I.ok.hd hc) st raw (by rw [hs, hi]; exact Nat.le_refl _) fun h' eb => ⟨rfl, I.turned (t' := s.toks) (fun b ob hb e => eb b ob hb e) f0 f1 f3 f4 f5⟩
  self := fun A i s Q E st h => by
    obtain ⟨_, _, e⟩ := st
    exact PySem.W.kcp_self e h
def iItemsN (M : Md) (td : TE) : TI := fun σ H R => td σ H fun x H1 => ∃ d od kvs xs, x = .ref d ∧ (d == sysModules) = false ∧ H1 d = some (.frz od (DkAt M.P M.w d (ents kvs xs))) ∧ R (ItiN M d od kvs xs) H1
theorem pi_itemsN {elts : List Expr} {kk : Nat} {tpos apos cpos : Pos} {e : Expr} {td : TE} (he : PE X e td) (hbase : attributeBase e "items" X.env (eval e X.env) = eval e X.env) (hline : (apos.endLine == cpos.line) = true) :
    PI X (.Tuple elts kk tpos) (.Call (.Attribute e "items" apos) [] [] cpos) (iItemsN M td) := ⟨fun pins s σ H R I h => by
  refine wpAny_Call_method (T := "dict") (id := "dict.items") hbase rfl hline PySem.F.plainAttrs_dict PySem.F.slot_dict_items PySem.F.type_dict_items (thn (he.run pins s σ H _ I h) fun u s1 ⟨x, H1, I1, rx, d, od, kvs, xs, ex, low, hd, q⟩ => ?_)
  subst ex
  obtain rfl : u = Value.ref d := rx
  obtain ⟨es, ep, hod, raw, hs⟩ := raw_of I1 hd
  refine ⟨raw.typeIs, fun b z => by cases z; obtain ⟨o, ho, hx, _⟩ := id raw; exact ⟨o, ho, hx.2.1⟩, ?_⟩
  have I2 : Inv X pins σ H1 { s1 with heap := s1.heap.push { cls := .type "dict_items", data := .fields #[.ref d] } } := I1.kept (t' := s1.toks) fun b ob q => Heap.get?_push_of_some _ q
  have fin : wpAny (model X.prog X.w) X.A (pyIter (.ref s1.heap.objs.size)) (PIE X pins σ (.Tuple elts kk tpos) R) X.xe { s1 with heap := s1.heap.push { cls := .type "dict_items", data := .fields #[.ref d] } } := by
    refine wpAny_pyIter_items_raw (d := d) ⟨_, Heap.get?_push_size _ rfl, rfl, rfl⟩ (raw.at fun o e => Heap.get?_push_of_some _ e) (pi_one (tk := s1.toks) I2 _ (turn_itemsN hod hs) ⟨.none, .none, ?_⟩ q)
    exact Heap.get?_push_size _ rfl
  show wpAny _ _ (callWith cpos (.builtin "dict.items") [.ref d] [] []) _ X.xe s1
  exact method_meetsIn PySem.F.slot_dict_items PySem.F.entry_dict_items rfl (PySem.evalArgs_none ⟨rfl, raw.typeIs, PySem.F.args_dict_items_1 _, _, meets_dict_items_raw d low, ⟨⟨es, ep, raw⟩, fin⟩⟩)⟩
/-! ### what they give -/
theorem walks_keysN {d : Addr} {od : Obj} {kvs : List (W × W)} {xs : List (Addr × V × Value)} (hd : H d = some (.frz od (DkAt M.P M.w d (ents kvs xs)))) (p : Paired (EntR M H ι) kvs xs) : Walks M (ItkN M d od (ents kvs xs)) ι H ⟨kvs.map (·.1), []⟩ := by
  have hl := Paired.length p
  have len : (kvs.map (·.1)).length = (ents kvs xs).length := by rw [List.length_map, ents_len hl]
  refine ⟨fun i ι' E' H' hi x R st => ⟨x.frz _ _ _ hd, by rw [← len]; exact hi⟩, fun ι' E' H' x R st => ⟨x.frz _ _ _ hd, len⟩, fun i ι' E' H' v H'' hi x R st ⟨e, q, hq, ev⟩ => ?_⟩
  subst e
  have hi' : i < kvs.length := by simpa using hi
  obtain ⟨q0, hq0, r1, r2⟩ := paired_get p (List.getElem?_eq_getElem hi')
  rw [ents_at (List.getElem?_eq_getElem hi') hq0] at hq
  cases hq
  subst ev
  exact ⟨R, Ext.refl _ _, kvs[i].1, by show (kvs.map (·.1))[i]? = _; rw [List.getElem?_map, List.getElem?_eq_getElem hi']; rfl, r1.1.ext x⟩
theorem walks_itemsN {d : Addr} {od : Obj} {kvs : List (W × W)} {xs : List (Addr × V × Value)} (hd : H d = some (.frz od (DkAt M.P M.w d (ents kvs xs)))) (p : Paired (EntR M H ι) kvs xs) : Walks M (ItiN M d od kvs xs) ι H ⟨kvs.map fun p => .tup [p.1, p.2], []⟩ := by
  have hl := Paired.length p
  have len : (kvs.map fun p => (.tup [p.1, p.2] : W)).length = (ents kvs xs).length := by rw [List.length_map, ents_len hl]
  refine ⟨fun i ι' E' H' hi x R st => ?_, fun ι' E' H' x R st => ⟨x.frz _ _ _ hd, len⟩, fun i ι' E' H' v H'' hi x R st ⟨T, q, hq, ev, hT, eH⟩ => ?_⟩
  · have hi' : i < kvs.length := by simpa using hi
    obtain ⟨q0, hq0, r1, r2⟩ := paired_get p (List.getElem?_eq_getElem hi')
    exact ⟨x.frz _ _ _ hd, by rw [← len]; exact hi, _, q0, List.getElem?_eq_getElem hi', hq0, r2.2⟩
  · have hi' : i < kvs.length := by simpa using hi
    obtain ⟨q0, hq0, r1, r2⟩ := paired_get p (List.getElem?_eq_getElem hi')
    obtain rfl : q0 = q := Option.some.inj (hq0.symm.trans hq)
    subst ev eH
    obtain ⟨R'', x''⟩ := Rel.newT (ho := .tup [.ref q0.1, q0.2.1]) R hT
    exact ⟨R'', x'', .tup [kvs[i].1, kvs[i].2], by show (kvs.map _)[i]? = _; rw [List.getElem?_map, List.getElem?_eq_getElem hi']; rfl, T, _, rfl, SqT.of upd_same, _, _, rfl, (r1.1.ext x).ext x'', _, _, rfl, (r2.1.ext x).ext x'', rfl⟩
def keyV : Key → W
  | .inl i => .int i
  | .inr s => .str s
theorem keyV_ok {k : Key} : RelW M H ι (keyV k) (kV k) := by cases k <;> exact rfl
theorem zip_at {kvs : List (Key × W)} {vs : List V} (r : RelWs M H ι (kvs.map (·.2)) vs) {i : Nat} (hi : i < kvs.length) : ∃ v, ((kvs.map (·.1)).zip vs)[i]? = some (kvs[i].1, v) ∧ RelW M H ι kvs[i].2 v := by
  obtain ⟨v, hv, rv⟩ := r.get (i := i) (w := kvs[i].2) (by rw [List.getElem?_map, List.getElem?_eq_getElem hi]; rfl)
  refine ⟨v, ?_, rv⟩
  rw [List.getElem?_zip_eq_some]
  exact ⟨by rw [List.getElem?_map, List.getElem?_eq_getElem hi]; rfl, hv⟩
theorem zip_len {kvs : List (Key × W)} {vs : List V} (r : RelWs M H ι (kvs.map (·.2)) vs) : ((kvs.map (·.1)).zip vs).length = kvs.length := by
  rw [List.length_zip, List.length_map, ← r.length, List.length_map, Nat.min_self]
theorem walks_keysK {d : Addr} {od : Obj} {kvs : List (Key × W)} {vs : List V} (hd : H d = some (.frz od (.dK ((kvs.map (·.1)).zip vs)))) (r : RelWs M H ι (kvs.map (·.2)) vs) : Walks M (Itk d od ((kvs.map (·.1)).zip vs)) ι H ⟨kvs.map fun p => keyV p.1, []⟩ := by
  have len : (kvs.map fun p => keyV p.1).length = ((kvs.map (·.1)).zip vs).length := by rw [List.length_map, zip_len r]
  refine ⟨fun i ι' E' H' hi x R st => ⟨x.frz _ _ _ hd, by rw [← len]; exact hi⟩, fun ι' E' H' x R st => ⟨x.frz _ _ _ hd, by rw [len]; exact Nat.le_refl _⟩, fun i ι' E' H' v H'' hi x R st ⟨e, k, u, hk, ev⟩ => ?_⟩
  subst e
  have hi' : i < kvs.length := by simpa using hi
  obtain ⟨w, hw, _⟩ := zip_at r hi'
  rw [hw] at hk
  cases hk
  subst ev
  exact ⟨R, Ext.refl _ _, keyV kvs[i].1, by show (kvs.map _)[i]? = _; rw [List.getElem?_map, List.getElem?_eq_getElem hi']; rfl, keyV_ok⟩
theorem walks_itemsK {d : Addr} {od : Obj} {kvs : List (Key × W)} {vs : List V} (hd : H d = some (.frz od (.dK ((kvs.map (·.1)).zip vs)))) (r : RelWs M H ι (kvs.map (·.2)) vs) : Walks M (Iti d od ((kvs.map (·.1)).zip vs)) ι H ⟨kvs.map fun p => .tup [keyV p.1, p.2], []⟩ := by
  have len : (kvs.map fun p => (.tup [keyV p.1, p.2] : W)).length = ((kvs.map (·.1)).zip vs).length := by rw [List.length_map, zip_len r]
  refine ⟨fun i ι' E' H' hi x R st => ⟨x.frz _ _ _ hd, by rw [← len]; exact hi⟩, fun ι' E' H' x R st => ⟨x.frz _ _ _ hd, by rw [len]; exact Nat.le_refl _⟩, fun i ι' E' H' v H'' hi x R st ⟨T, k, u, hk, ev, hT, eH⟩ => ?_⟩
  have hi' : i < kvs.length := by simpa using hi
  obtain ⟨w, hw, rw'⟩ := zip_at r hi'
  obtain ⟨rfl, rfl⟩ : kvs[i].1 = k ∧ w = u := by simpa using hw.symm.trans hk
  subst ev eH
  obtain ⟨R'', x''⟩ := Rel.newT (ho := .tup [kV kvs[i].1, w]) R hT
  exact ⟨R'', x'', .tup [keyV kvs[i].1, kvs[i].2], by show (kvs.map _)[i]? = _; rw [List.getElem?_map, List.getElem?_eq_getElem hi']; rfl, T, _, rfl, SqT.of upd_same, _, _, rfl, keyV_ok, _, _, rfl, (rw'.ext x).ext x'', rfl⟩
/-! ### as sources: anything that is walked by itself, and o.items() -/
def lockOf (E : Hh) : W → Option (List (W × W))
  | .ref i => match (E : List O)[i]? with
    | some (.sdN kvs) => some kvs
    | some (.sdK kvs) => some (kvs.map fun p => (keyV p.1, p.2))
    | _ => none
  | _ => none
def keyF (E : Hh) (x : W) : Option Src := match lockOf E x with
  | some kvs => some ⟨kvs.map (·.1), []⟩
  | none => srcOf E x
def keyI (ca : Act W) : Act Src := fun σ E => andThen (ca σ E) fun x E1 => optR (keyF E1 x) E1
theorem se_res {ca : Act W} {σE : Sg} {E : Hh} {σ : L2.St} {G : W → Hh → Option (Rz Src)} {K : Src → Hh → Prop} (k : Rs M W' ι σ H (andThen (ca σE E) G) K) : (∃ x E1, ca σE E = some (.ok x E1) ∧ Rs M W' ι σ H (G x E1) K) ∨ ∃ y E1, ca σE E = some (.ex y E1) ∧ Exd M W' ι σ H y E1 := Rs.bind k
theorem lock_at {E : Hh} {i : Nat} {v : V} (R : Rel M ι E H) (r : RelW M H ι (.ref i) v) : (∀ kvs, (E : List O)[i]? = some (.sdN kvs) → ∃ a od xs, v = .ref a ∧ (a == sysModules) = false ∧ H a = some (.frz od (DkAt M.P M.w a (ents kvs xs))) ∧ Paired (EntR M H ι) kvs xs) ∧
    ∀ kvs, (E : List O)[i]? = some (.sdK kvs) → ∃ a od vs, v = .ref a ∧ H a = some (.frz od (.dK ((kvs.map (·.1)).zip vs))) ∧ RelWs M H ι (kvs.map (·.2)) vs := by
  obtain ⟨a, ha, rfl⟩ := r
  refine ⟨fun kvs he => ?_, fun kvs he => ?_⟩
  · obtain ⟨xs, od, h1, h2, h3, h4, h5⟩ := R.at he ha
    exact ⟨a, od, xs, rfl, h3, h1, h5⟩
  · obtain ⟨vs, od, h1, h2⟩ := R.at he ha
    exact ⟨a, od, vs, rfl, h1, h2⟩
theorem pi_keyG {tg l : Expr} {ca : Act W} (at' : X.K = M.K) (hl : PE X l (SE M W' ca)) : PI X tg l (SI M W' (keyI ca)) :=
  PI.imp (PI.or2 (PI.or2 (pi_keysN (M := M) hl) (pi_keys hl)) (pi_seqG at' hl)) fun σ H R' ⟨ι, E, σE, R, rs, k⟩ => by
    rcases Rs.bind k with ⟨x, E1, ex, k1⟩ | ⟨y, E1, ex, g⟩
    · obtain ⟨s, es, k2⟩ := k1.opt
      unfold keyF at es
      cases e : lockOf E1 x with
      | none =>
        rw [e] at es
        refine .inr ⟨ι, E, σE, R, rs, .give (a := s) (E' := E1) ?_ k2⟩
        show andThen (ca σE E) _ = _
        rw [ex]
        show (match srcOf E1 x with
          | some s => some (Rz.ok s E1)
          | none => none) = _
        have es : srcOf E1 x = some s := es
        rw [es]
      | some kvs =>
        rw [e] at es
        obtain rfl := Option.some.inj es
        cases x with
        | ref i =>
          unfold lockOf at e
          dsimp only at e
          split at e
          · rename_i us he
            obtain rfl := Option.some.inj e
            refine .inl (.inl ⟨ι, E, σE, R, rs, .inl ⟨_, E1, ex, fun ι1 H1 v x1 R1 rx => ?_⟩⟩)
            obtain ⟨a, od, xs, rfl, low, hd, p⟩ := (lock_at R1 rx).1 us he
            exact ⟨a, od, _, rfl, low, hd, k2 ι1 H1 _ x1 R1 (walks_keysN hd p)⟩
          · rename_i us he
            obtain rfl := Option.some.inj e
            refine .inl (.inr ⟨ι, E, σE, R, rs, .inl ⟨_, E1, ex, fun ι1 H1 v x1 R1 rx => ?_⟩⟩)
            obtain ⟨a, od, vs, rfl, hd, r⟩ := (lock_at R1 rx).2 us he
            refine ⟨a, od, rfl, .inl ⟨_, hd, k2 ι1 H1 _ x1 R1 ?_⟩⟩
            have w := walks_keysK hd r
            simpa [Function.comp_def] using w
          · cases e
        | _ => cases e
    · refine .inr ⟨ι, E, σE, R, rs, .inr ⟨y, E1, ?_, g⟩⟩
      unfold seqI
      rw [ex]
      rfl
def itemF (E : Hh) (x : W) : Option Src := match lockOf E x with
  | some kvs => some ⟨kvs.map fun p => .tup [p.1, p.2], []⟩
  | none => none
def itemI (ca : Act W) : Act Src := fun σ E => andThen (ca σ E) fun x E1 => optR (itemF E1 x) E1
theorem pi_itemG {elts : List Expr} {kk : Nat} {tpos apos cpos : Pos} {o : Expr} {ca : Act W} (hbase : attributeBase o "items" X.env (eval o X.env) = eval o X.env) (hline : (apos.endLine == cpos.line) = true) (hl : PE X o (SE M W' ca)) :
    PI X (.Tuple elts kk tpos) (.Call (.Attribute o "items" apos) [] [] cpos) (SI M W' (itemI ca)) :=
  PI.imp (PI.or2 (pi_itemsN (M := M) hl hbase hline) (pi_items hl hbase hline)) fun σ H R' ⟨ι, E, σE, R, rs, k⟩ => by
    rcases Rs.bind k with ⟨x, E1, ex, k1⟩ | ⟨y, E1, ex, g⟩
    · obtain ⟨s, es, k1⟩ := k1.opt
      unfold itemF at es
      cases e : lockOf E1 x with
      | none => rw [e] at es; cases es
      | some kvs =>
        rw [e] at es
        obtain rfl := Option.some.inj es
        cases x with
        | ref i =>
          unfold lockOf at e
          dsimp only at e
          split at e
          · rename_i us he
            obtain rfl := Option.some.inj e
            refine .inl ⟨ι, E, σE, R, rs, .inl ⟨_, E1, ex, fun ι1 H1 v x1 R1 rx => ?_⟩⟩
            obtain ⟨a, od, xs, rfl, low, hd, p⟩ := (lock_at R1 rx).1 us he
            exact ⟨a, od, us, xs, rfl, low, hd, k1 ι1 H1 _ x1 R1 (walks_itemsN hd p)⟩
          · rename_i us he
            obtain rfl := Option.some.inj e
            refine .inr ⟨ι, E, σE, R, rs, .inl ⟨_, E1, ex, fun ι1 H1 v x1 R1 rx => ?_⟩⟩
            obtain ⟨a, od, vs, rfl, hd, r⟩ := (lock_at R1 rx).2 us he
            refine ⟨a, od, _, rfl, hd, k1 ι1 H1 _ x1 R1 ?_⟩
            have w := walks_itemsK hd r
            simpa [Function.comp_def] using w
          · cases e
        | _ => cases e
    · exact .inl ⟨ι, E, σE, R, rs, .inr ⟨y, E1, ex, g⟩⟩
end G

set_option Elab.async false
set_option linter.all false
set_option maxRecDepth 100000
set_option maxHeartbeats 4000000
namespace G
open PySem L2 PySem.Spec PyProof.Rows
/-! ### l.extend(t), t a tuple -/
theorem ext_tup (l : Addr) (items : Array Value) (n : Nat) (b : Addr) (xs2 : Array Value) (m : Nat) (dd : Option Addr) (sl : Array (Option Value)) (h0 : ¬(!items.isEmpty && Builtin.List.listTooLong (items.size + xs2.size)) = true) (h1 : items.size ≤ sizeLine) (h2 : items.size + xs2.size ≤ sizeLine + 1) :
    Meets (Builtin.«list.extend» ⟨[.ref l, .ref b], []⟩) (fun _ R s => s.heap.get? l = some { cls := .type "list", dict := none, data := .seq items n, slots := #[] } ∧ s.heap.get? b = some { cls := .type "tuple", dict := dd, data := .seq xs2 m, slots := sl } ∧
      R (.ok (.ret Value.none)) { s with heap := s.heap.update l (Obj.mapSeq fun x => x ++ xs2), toks := s.toks }) :=
  .of_wp fun prog w A R s h => by
    obtain ⟨hp, g, d, tk, os⟩ := s
    obtain ⟨hl, hb, h⟩ := h
    have f1 := AutoSeq1.idx_int
    have f2 := AutoSeq1.sub_tuple_tuple
    have f3 := AutoSeq1.sub_list_list
    have f4 := AutoSeq1.sub_tuple_list
    have f5 := AutoSeq1.sub_list_tuple
    have hz : (items ++ xs2).size ≤ sizeLine + 1 := by rw [Array.size_append]; exact h2
    wp_walk using (wpAny_updateSeq hl rfl (hz := h1) (_hz' := hz)), AutoSeq1.wpAny_loadPart' hl, AutoSeq1.wpAny_loadPart' hb
    exact ⟨_, rfl, h⟩
variable {M : Md} {H H' H1 H2 : Hp} {ι ι' ι1 ι2 : List Addr} {X : Cx} {W' : WX}
def rExtT (K : PySem.W.Frag) : V → List V → Hp → VK → Prop := fun x vs H Q => ∃ l b xs zs, x = .ref l ∧ vs = [.ref b] ∧ H l = some (.lst xs) ∧ SqT K H b zs ∧ xs.length + zs.length ≤ sizeLine ∧ Q .non (upd H l (.lst (xs ++ zs)))
theorem mt_extT : MtM X "list.extend" (rExtT X.K) := by
  intro pins s σ H x vs v us Q I rx rv h
  obtain ⟨l, b, xs, zs, rfl, rfl, hH, hB, hz, q⟩ := h
  cases rx
  obtain ⟨u, rfl, ru⟩ := rv.one
  cases ru
  obtain ⟨z, its, n, r, hl, e⟩ := I.lstM hH
  obtain ⟨its2, r2, ⟨o2, e2, c2, n2, d2⟩, z2⟩ := I.tuple hB
  obtain ⟨oc, od, oda, osl⟩ := o2
  simp only at c2 d2
  subst c2
  subst d2
  have l2 := r2.length
  have hsz : its.toArray.size + its2.toArray.size ≤ sizeLine := by rw [List.size_toArray, List.size_toArray]; omega
  have hlong : ¬ (!its.toArray.isEmpty && Builtin.List.listTooLong (its.toArray.size + its2.toArray.size)) = true := by
    rw [notLongL hsz, Bool.and_false]
    exact Bool.false_ne_true
  refine call_meets F.slot_list_extend ⟨_, e, rfl⟩ F.entry_list_extend (F.args_list_extend_2 _ _) (ext_tup l its.toArray n b its2.toArray n2 od osl hlong (by rw [List.size_toArray]; omega) (by omega)) ⟨e, e2, ?_⟩
  refine ⟨.non, _, I.lset (its' := its ++ its2) hH e (by simp) (r.append r2) ?_, rfl, q⟩
  rw [List.length_append]
  omega
end G

set_option Elab.async false
set_option linter.all false
set_option maxRecDepth 100000
set_option maxHeartbeats 4000000
namespace G
open PySem L2 PySem.Spec PyProof.Rows
variable {M : Md} {H H' H1 H2 : Hp} {ι ι' ι1 ι2 : List Addr} {X : Cx} {W' : WX}

/-! ### methods -/
inductive Mk where
  | append | pop | extend | get | split | join | isascii | isalpha | islower | reverse | index | startswith
/-! of signs below 128 -/
def lowA (c : Nat) : Bool := decide (97 ≤ c) && decide (c ≤ 122)
def upA (c : Nat) : Bool := decide (65 ≤ c) && decide (c ≤ 90)
theorem low128 : ∀ c < 128, Unicode.isLower c = lowA c := by decide +kernel
theorem up128 : ∀ c < 128, (Unicode.isUpper c || Unicode.isTitle c) = upA c := by decide +kernel
theorem alpha128 : ∀ c < 128, Unicode.isAlpha c = (lowA c || upA c) := by decide +kernel
def Asc (x : Str) : Bool := x.cps.toList.all fun c => decide (c < 128)
theorem any_congr {f g : Nat → Bool} : ∀ {l : List Nat}, (∀ c ∈ l, f c = g c) → l.any f = l.any g
  | [], _ => rfl
  | c :: l, h => by rw [List.any_cons, List.any_cons, h c List.mem_cons_self, any_congr fun d hd => h d (List.mem_cons_of_mem _ hd)]
theorem all_congrA {f g : Nat → Bool} : ∀ {l : List Nat}, (∀ c ∈ l, f c = g c) → l.all f = l.all g
  | [], _ => rfl
  | c :: l, h => by rw [List.all_cons, List.all_cons, h c List.mem_cons_self, all_congrA fun d hd => h d (List.mem_cons_of_mem _ hd)]
theorem asc_lt {x : Str} (h : Asc x = true) : ∀ c ∈ x.cps.toList, c < 128 := by
  intro c hc
  unfold Asc at h
  rw [List.all_eq_true] at h
  simpa using h c hc
def lowerA (x : Str) : Bool := x.cps.toList.any lowA && !x.cps.toList.any upA
def alphaA (x : Str) : Bool := !x.cps.toList.isEmpty && x.cps.toList.all fun c => lowA c || upA c
theorem ascii_A {x : Str} (h : Asc x = true) : Txt.isascii x = true := by
  unfold Txt.isascii
  rw [← Array.all_toList, List.all_eq_true]
  intro c hc
  exact decide_eq_true (asc_lt h c hc)
theorem lower_A {x : Str} (h : Asc x = true) : Txt.islower x = lowerA x := by
  unfold Txt.islower lowerA
  rw [← Array.any_toList, ← Array.any_toList, any_congr fun c hc => low128 c (asc_lt h c hc), any_congr fun c hc => up128 c (asc_lt h c hc)]
theorem alpha_A {x : Str} (h : Asc x = true) : Txt.isalpha x = alphaA x := by
  have e1 : x.cps.toList.all Unicode.isAlpha = x.cps.toList.all fun c => lowA c || upA c := all_congrA fun c hc => alpha128 c (asc_lt h c hc)
  have e2 : decide (x.length > 0) = !x.cps.toList.isEmpty := by
    show decide (x.cps.size > 0) = _
    rw [← Array.length_toList]
    cases x.cps.toList with
    | nil => rfl
    | cons c r => simp
  unfold Txt.isalpha alphaA
  rw [← Array.all_toList, e1, e2]
def Mk.T : Mk → String
  | .append => "list"
  | .pop => "list"
  | .extend => "list"
  | .get => "dict"
  | .startswith => "str"
  | .split => "str"
  | .join => "str"
  | .isascii => "str"
  | .isalpha => "str"
  | .islower => "str"
  | .reverse => "list"
  | .index => "list"
def Mk.name : Mk → Str
  | .append => "append"
  | .pop => "pop"
  | .extend => "extend"
  | .get => "get"
  | .startswith => "startswith"
  | .split => "split"
  | .join => "join"
  | .isascii => "isascii"
  | .isalpha => "isalpha"
  | .islower => "islower"
  | .reverse => "reverse"
  | .index => "index"
def Mk.id : Mk → String
  | .append => "list.append"
  | .pop => "list.pop"
  | .extend => "list.extend"
  | .get => "dict.get"
  | .startswith => "str.startswith"
  | .split => "str.split"
  | .join => "str.join"
  | .isascii => "str.isascii"
  | .isalpha => "str.isalpha"
  | .islower => "str.islower"
  | .reverse => "list.reverse"
  | .index => "list.index"
theorem Mk.pa : ∀ k : Mk, PlainAttrs k.T
  | .append => PySem.F.plainAttrs_list
  | .pop => PySem.F.plainAttrs_list
  | .extend => PySem.F.plainAttrs_list
  | .get => PySem.F.plainAttrs_dict
  | .startswith => PySem.F.plainAttrs_str
  | .split => PySem.F.plainAttrs_str
  | .join => PySem.F.plainAttrs_str
  | .isascii => PySem.F.plainAttrs_str
  | .isalpha => PySem.F.plainAttrs_str
  | .islower => PySem.F.plainAttrs_str
  | .reverse => PySem.F.plainAttrs_list
  | .index => PySem.F.plainAttrs_list
theorem Mk.slot : ∀ k : Mk, Slot k.T k.name k.id
  | .append => PySem.F.slot_list_append
  | .pop => PySem.F.slot_list_pop
  | .extend => PySem.F.slot_list_extend
  | .get => PySem.F.slot_dict_get
  | .startswith => PySem.F.slot_str_startswith
  | .split => PySem.F.slot_str_split
  | .join => PySem.F.slot_str_join
  | .isascii => PySem.F.slot_str_isascii
  | .isalpha => PySem.F.slot_str_isalpha
  | .islower => PySem.F.slot_str_islower
  | .reverse => PySem.F.slot_list_reverse
  | .index => PySem.F.slot_list_index
theorem Mk.ty : ∀ k : Mk, typeOf (.builtin k.id) = pure (.type "method_descriptor")
  | .append => PySem.F.type_list_append
  | .pop => PySem.F.type_list_pop
  | .extend => PySem.F.type_list_extend
  | .get => PySem.F.type_dict_get
  | .startswith => PySem.F.type_str_startswith
  | .split => PySem.F.type_str_split
  | .join => PySem.F.type_str_join
  | .isascii => PySem.F.type_str_isascii
  | .isalpha => PySem.F.type_str_isalpha
  | .islower => PySem.F.type_str_islower
  | .reverse => PySem.F.type_list_reverse
  | .index => PySem.F.type_list_index
def mkOf (x : Str) : Option Mk := if x = "append" then some .append else if x = "pop" then some .pop else if x = "extend" then some .extend else if x = "get" then some .get else if x = "split" then some .split else if x = "join" then some .join else if x = "isascii" then some .isascii else if x = "isalpha" then some .isalpha else if x = "islower" then some .islower else if x = "reverse" then some .reverse else if x = "index" then some .index else if x = "startswith" then some .startswith else none
theorem mkOf_ok {x : Str} {k : Mk} (h : mkOf x = some k) : x = k.name := by
  unfold mkOf at h
  repeat' split at h
  all_goals first | (cases h; done) | (obtain rfl := Option.some.inj h; assumption)
/-- the object has the method's type -/
def tyM (E : Hh) (x : W) : Mk → Bool
  | .append => (lstOf E x).isSome
  | .pop => (lstOf E x).isSome
  | .extend => (lstOf E x).isSome
  | .get => (dKOf E x).isSome || (dnOf E x).isSome
  | .startswith => match x with
    | .str _ => true
    | _ => false
  | .split => match x with
    | .str _ => true
    | _ => false
  | .join => match x with
    | .str _ => true
    | _ => false
  | .isascii => match x with
    | .str _ => true
    | _ => false
  | .isalpha => match x with
    | .str _ => true
    | _ => false
  | .islower => match x with
    | .str _ => true
    | _ => false
  | .reverse => (lstOf E x).isSome
  | .index => (lstOf E x).isSome
theorem tyM_ok {pins : List (Addr × Obj)} {σ : L2.St} {s : Shared} {E : Hh} {x : W} {k : Mk} {v : V} {u : Value} (I : Inv X pins σ H s) (aK : X.K = M.K) (R : Rel M ι E H) (rx : RelW M H ι x v) (ru : RelV v u) (h : tyM E x k = true) :
    s.TypeIs u k.T ∧ ∀ a, u = .ref a → ∃ ob, s.heap.get? a = some ob ∧ ob.dict = none := by
  have lists : (lstOf E x).isSome = true → s.TypeIs u "list" ∧ ∀ a, u = .ref a → ∃ ob, s.heap.get? a = some ob ∧ ob.dict = none := fun h => by
    obtain ⟨⟨i, ws⟩, e⟩ := Option.isSome_iff_exists.mp h
    obtain ⟨a, vs, rfl, ha, _, rfl, hl, _⟩ := lst_ok R e rx
    exact tyV_is (X := X) I ru (show tyV X.K "list" (.ref a) H from .inl ⟨rfl, _, SqL.of hl⟩)
  have texts : (∃ z, x = .str z) → s.TypeIs u "str" ∧ ∀ a, u = .ref a → ∃ ob, s.heap.get? a = some ob ∧ ob.dict = none := fun ⟨z, e⟩ => by
    subst e
    rw [show v = .str z from rx] at ru
    exact tyV_is (X := X) I ru (show tyV X.K "str" (.str z) H from rfl)
  cases k with
  | append => exact lists h
  | pop => exact lists h
  | extend => exact lists h
  | get =>
    simp only [tyM, Bool.or_eq_true] at h
    rcases h with h | h
    · obtain ⟨⟨i, ws⟩, e⟩ := Option.isSome_iff_exists.mp h
      obtain ⟨a, vs, ha, _, rfl, hl, _⟩ := dK_ok R e rx
      obtain ⟨t1, t2, _⟩ := isD_at (X := X) I (.inl ⟨_, .inl hl⟩ : IsD H a)
      obtain rfl : u = Value.ref a := ru
      exact ⟨t1, t2⟩
    · obtain ⟨⟨i, ws⟩, e⟩ := Option.isSome_iff_exists.mp h
      obtain ⟨a, xs, rfl, rfl, d⟩ := dn_ok I aK R e rx
      obtain rfl : u = Value.ref a := ru
      obtain ⟨es, ep, hr, _⟩ := d.dict.raw
      refine ⟨hr.typeIs, fun b z => ?_⟩
      cases z
      obtain ⟨o, ho, hx, _⟩ := hr
      exact ⟨o, ho, hx.2.1⟩
  | startswith => cases x <;> first | exact texts ⟨_, rfl⟩ | cases h
  | split => cases x <;> first | exact texts ⟨_, rfl⟩ | cases h
  | join => cases x <;> first | exact texts ⟨_, rfl⟩ | cases h
  | isascii => cases x <;> first | exact texts ⟨_, rfl⟩ | cases h
  | isalpha => cases x <;> first | exact texts ⟨_, rfl⟩ | cases h
  | islower => cases x <;> first | exact texts ⟨_, rfl⟩ | cases h
  | reverse => exact lists h
  | index => exact lists h
/-- what the method does -/
def MtW (M : Md) (X : Cx) (id : String) (f : W → List W → Hh → Option (W × Hh)) : Prop :=
  ∀ (pins : List (Addr × Obj)) (s : Shared) (σ : L2.St) (H : Hp) (ι : List Addr) (E E' : Hh) (x : W) (xs : List W) (z : W) (v : V) (vs : List V) (u : Value) (us : List Value) (Q : VK), Inv X pins σ H s → Rel M ι E H → RelW M H ι x v → RelV v u → RelWs M H ι xs vs → Vals vs us →
    f x xs E = some (z, E') → Fin M ι H z E' Q → wpAny (model X.prog X.w) X.A (call (.builtin id) (u :: us)) (EP X pins σ Q) X.xe s
def strOf : W → Option Str
  | .str s => some s
  | _ => none
theorem strs_ok : ∀ {ws : List W} {ss : List Str} {vs : List V}, ws.mapM strOf = some ss → RelWs M H ι ws vs → vs = ss.map V.str
  | [], ss, vs, h, r => by
    simp at h
    subst h
    exact r
  | w :: ws, ss, vs, h, r => by
    obtain ⟨v, rs, rfl, r1, r2⟩ := r
    rw [List.mapM_cons] at h
    cases e1 : strOf w with
    | none => simp [e1] at h
    | some d =>
      cases e2 : ws.mapM strOf with
      | none => simp [e1, e2] at h
      | some es =>
        simp [e1, e2] at h
        subst h
        cases w <;> simp [strOf] at e1
        subst e1
        rw [strs_ok e2 r2, show v = _ from r1]
        rfl
theorem RelWs.erase : ∀ {ws : List W} {vs : List V} (k : Nat), RelWs M H ι ws vs → RelWs M H ι (ws.eraseIdx k) (vs.eraseIdx k)
  | [], vs, k, h => by rw [show vs = [] from h]; exact rfl
  | w :: ws, vs, 0, h => by
    obtain ⟨v, r, rfl, h1, h2⟩ := h
    exact h2
  | w :: ws, vs, k + 1, h => by
    obtain ⟨v, r, rfl, h1, h2⟩ := h
    exact ⟨v, r.eraseIdx k, rfl, h1, RelWs.erase k h2⟩
theorem RelWs.dropLast {ws : List W} {vs : List V} (h : RelWs M H ι ws vs) : RelWs M H ι ws.dropLast vs.dropLast := by
  rw [List.dropLast_eq_take, List.dropLast_eq_take, h.length]
  exact h.take _
theorem RelWs.strs : ∀ ss : List Str, RelWs M H ι (ss.map W.str) (ss.map V.str)
  | [] => rfl
  | s :: ss => ⟨.str s, ss.map V.str, rfl, rfl, RelWs.strs ss⟩
def getD (E : Hh) (o y d : W) : Option W := match lkDn E o y with
  | some r => some (r.getD d)
  | none => match dKOf E o, keyOf y with
    | some (_, kvs), some k => some ((lkK kvs k).getD d)
    | _, _ => none
/-- the first place of a flat item -/
def idxF (v : V) : List V → Option Nat
  | [] => none
  | x :: r => if eqV x v = true then some 0 else (idxF v r).map (· + 1)
theorem idxF_ok {v : V} : ∀ {xs : List V} {j : Nat}, idxF v xs = some j → ∃ z, xs[j]? = some z ∧ eqV z v = true ∧ ∀ (m : Nat) (z' : V), m < j → xs[m]? = some z' → eqV z' v = false
  | [], j, h => nomatch h
  | x :: r, j, h => by
    unfold idxF at h
    split at h
    · rename_i e
      obtain rfl := Option.some.inj h
      exact ⟨x, rfl, e, fun m z' hm _ => absurd hm (Nat.not_lt_zero m)⟩
    · rename_i e
      cases e2 : idxF v r with
      | none => rw [e2] at h; cases h
      | some i =>
        rw [e2] at h
        obtain rfl : i + 1 = j := Option.some.inj h
        obtain ⟨z, h1, h2, h3⟩ := idxF_ok e2
        refine ⟨z, by simpa using h1, h2, fun m z' hm hz => ?_⟩
        cases m with
        | zero =>
          obtain rfl : x = z' := by simpa using hz
          simpa using e
        | succ m => exact h3 m z' (by omega) (by simpa using hz)
def wMk (k : Mk) (o : W) (xs : List W) (E : Hh) : Option (W × Hh) := match k, xs with
  | .append, [x] => match lstOf E o with
    | some (i, ws) => if ws.length ≤ few then some (.non, E.set i (.lst (ws ++ [x]))) else none
    | none => none
  | .pop, [] => match lstOf E o with
    | some (i, ws) => match ws[ws.length - 1]? with
      | some w => some (w, E.set i (.lst ws.dropLast))
      | none => none
    | none => none
  | .pop, [.int j] => if -two62 ≤ j ∧ j < two62 then match lstOf E o with
    | some (i, ws) => match seqIndex? j ws.length with
      | some k => match ws[k]? with
        | some w => some (w, E.set i (.lst (ws.eraseIdx k)))
        | none => none
      | none => none
    | none => none
    else none
  | .extend, [x] => match lstOf E o, lstOf E x with
    | some (i, ws), some (_, us) => if ws.length + us.length ≤ few then some (.non, E.set i (.lst (ws ++ us))) else none
    | some (i, ws), none => match x with
      | .tup us => if ws.length + us.length ≤ few then some (.non, E.set i (.lst (ws ++ us))) else none
      | _ => none
    | _, _ => none
  | .get, [y] => (getD E o y .non).map fun w => (w, E)
  | .get, [y, d] => (getD E o y d).map fun w => (w, E)
  | .split, [.str b] => match o with
    | .str a => if b.length ≠ 0 ∧ a.length ≤ few then some (.ref E.length, E ++ [.lst ((Txt.split a b).map .str)]) else none
    | _ => none
  | .join, [x] => match o with
    | .str a => match seqOf E x with
      | some ws => match ws.mapM strOf with
        | some ss => if (ss.map (·.length)).sum + ss.length * a.length ≤ few then some (.str (Txt.join a ss), E) else none
        | none => none
      | none => none
    | _ => none
  | .isascii, [] => match o with
    | .str a => if Asc a = true then some (.bl true, E) else none
    | _ => none
  | .isalpha, [] => match o with
    | .str a => if Asc a = true then some (.bl (alphaA a), E) else none
    | _ => none
  | .islower, [] => match o with
    | .str a => if Asc a = true then some (.bl (lowerA a), E) else none
    | _ => none
  | .reverse, [] => match lstOf E o with
    | some (i, ws) => some (.non, E.set i (.lst ws.reverse))
    | none => none
  | .startswith, [.str b] => match o with
    | .str a => some (.bl (Txt.startswith a b), E)
    | _ => none
  | .index, [y] => match lstOf E o with
    | some (_, ws) => match flV y, ws.mapM flV with
      | some v, some vs => (idxF v vs).map fun (j : Nat) => ((.int (j : Int) : W), E)
      | _, _ => none
    | none => none
  | _, _ => none
theorem RelWs.rev {ws : List W} {vs : List V} (h : RelWs M H ι ws vs) : RelWs M H ι ws.reverse vs.reverse := by
  induction ws generalizing vs with
  | nil => rw [show vs = [] from h]; exact rfl
  | cons w r ih =>
    obtain ⟨v, q, rfl, h1, h2⟩ := h
    rw [List.reverse_cons, List.reverse_cons]
    exact (ih h2).append (show RelWs M H ι [w] [v] from ⟨v, [], rfl, h1, rfl⟩)
theorem getD_ok {pins : List (Addr × Obj)} {σ : L2.St} {s : Shared} {E : Hh} {o y d w : W} {v yv dv : V} {u yu du : Value} (aP : X.prog = M.P) (aw : X.w = M.w) (aK : X.K = M.K) (hu : X.A.units + 65 < cLine) (I : Inv X pins σ H s) (R : Rel M ι E H)
    (ro : RelW M H ι o v) (ru : RelV v u) (ry : RelW M H ι y yv) (ryu : RelV yv yu) (rd : RelW M H ι d dv) (rdu : RelV dv du) (h : getD E o y d = some w) :
    (∀ Q : VK, Fin M ι H w E Q → wpAny (model X.prog X.w) X.A (call (.builtin "dict.get") [u, yu, du]) (EP X pins σ Q) X.xe s) ∧ (d = .non → ∀ Q : VK, Fin M ι H w E Q → wpAny (model X.prog X.w) X.A (call (.builtin "dict.get") [u, yu]) (EP X pins σ Q) X.xe s) := by
  unfold getD at h
  cases e : lkDn E o y with
  | some r =>
    rw [e] at h
    obtain rfl := Option.some.inj h
    obtain ⟨a, b, i, kvs, xs, rfl, rfl, dn, kb, rfl⟩ := lkDn_ok I aK R ry ro ryu e
    obtain rfl : u = Value.ref a := ru
    have res : ∀ {du' : Value} {dv' : V}, RelW M H ι d dv' → RelV dv' du' → ∃ v', RelW M H ι ((lkN kvs (nk y)).getD d) v' ∧ RelV v' (((atKey (ents kvs xs) (nk y)).map (·.2)).getD du') := fun {du' dv'} r1 r2 => by
      cases e2 : lkN kvs (nk y) with
      | none => rw [(lkN_ok dn.ent).2 e2]; exact ⟨dv', r1, r2⟩
      | some w => obtain ⟨q, v', e3, r3, r4⟩ := (lkN_ok dn.ent).1 w e2; rw [e3]; exact ⟨v', r3, r4⟩
    refine ⟨fun Q k => ?_, fun e0 Q k => ?_⟩
    · obtain ⟨v', r3, r4⟩ := res rd rdu
      rw [aP, aw]
      exact call_meetsIn PySem.F.slot_dict_get dn.dict.typeIs PySem.F.entry_dict_get (PySem.F.args_dict_get_3 _ _ _) (meetsH_dict_get_default (nestedKind M.P M.w) a b dn.low du) ⟨room_n hu, _, _, kb, dn.dict, v', H, I.tok (s.toks + (nestedKind M.P M.w).draws (nk y)), r4, k.now R r3⟩
    · subst e0
      obtain ⟨v', r3, r4⟩ := res (du' := .none) (dv' := .non) rfl rfl
      rw [aP, aw]
      exact call_meetsIn PySem.F.slot_dict_get dn.dict.typeIs PySem.F.entry_dict_get (PySem.F.args_dict_get_2 _ _) (meetsH_dict_get (nestedKind M.P M.w) a b dn.low) ⟨room_n hu, _, _, kb, dn.dict, v', H, I.tok (s.toks + (nestedKind M.P M.w).draws (nk y)), r4, k.now R r3⟩
  | none =>
    rw [e] at h
    dsimp only at h
    split at h
    · rename_i i kvs key e1 e2
      obtain rfl := Option.some.inj h
      obtain ⟨a, vs, ha, _, rfl, hl, rws⟩ := dK_ok R e1 ro
      obtain rfl : u = Value.ref a := ru
      have g : DGet H a yv (valV ((kvs.map (·.1)).zip vs) key) := by rw [keyOf_ok e2 ry]; exact DGet.k hl
      have res : ∀ {dv' : V}, RelW M H ι d dv' → RelW M H ι ((lkK kvs key).getD d) ((valV ((kvs.map (·.1)).zip vs) key).getD dv') := fun {dv'} r1 => by
        cases e3 : lkK kvs key with
        | none => rw [(lkK_ok (k := key) rws).2 e3]; exact r1
        | some w => obtain ⟨v', e4, r4⟩ := (lkK_ok (k := key) rws).1 w e3; rw [e4]; exact r4
      refine ⟨fun Q k => ?_, fun e0 Q k => ?_⟩
      · exact d_get2 (by omega) I g ryu rdu fun w' s' I' rw' => ⟨_, H, I', rw', k.now R (res rd)⟩
      · subst e0
        exact d_get1 (by omega) I g ryu fun w' s' I' rw' => ⟨_, H, I', rw', k.now R (res (dv' := .non) rfl)⟩
    · cases h
theorem mk_ok (aP : X.prog = M.P) (aw : X.w = M.w) (aK : X.K = M.K) (hu : X.A.units + 65 < cLine) : ∀ k : Mk, MtW M X k.id (wMk k) := by
  intro k pins s σ H ι E E' x xs z v vs u us Q I R rx ru rxs rus h kq
  unfold wMk at h
  split at h
  · rename_i y
    split at h
    · rename_i i ws e
      split at h
      · rename_i hl
        obtain ⟨rfl, rfl⟩ : W.non = z ∧ E.set i (.lst (ws ++ [y])) = E' := by simpa using h
        obtain ⟨a, vl, rfl, ha, he, rfl, h1, r1⟩ := lst_ok R e rx
        obtain ⟨yv, rfl, ry⟩ := one_ok rxs
        refine mt_append pins s σ H _ _ u us Q I ru rus ⟨a, vl, yv, rfl, rfl, h1, by rw [← r1.length]; exact few_lt hl, ?_⟩
        exact Fin.putL (Q := fun H' => Q .non H') R ha he h1 (r1.append (show RelWs M H ι [y] [yv] from ⟨yv, [], rfl, ry, rfl⟩)) fun ι' H' x' R' => kq ι' H' _ x' R' rfl
      · cases h
    · cases h
  · split at h
    · rename_i i ws e
      split at h
      · rename_i w hw
        obtain ⟨rfl, rfl⟩ : w = z ∧ E.set i (.lst ws.dropLast) = E' := by simpa using h
        obtain ⟨a, vl, rfl, ha, he, rfl, h1, r1⟩ := lst_ok R e rx
        obtain rfl : vs = [] := rxs
        obtain ⟨wv, hv, rv⟩ := r1.get hw
        refine mt_pop pins s σ H _ _ u us Q I ru rus ⟨a, vl, wv, rfl, rfl, h1, by rw [← r1.length]; exact hv, ?_⟩
        exact Fin.putL (Q := fun H' => Q wv H') R ha he h1 r1.dropLast fun ι' H' x' R' => kq ι' H' _ x' R' (rv.ext x')
      · cases h
    · cases h
  · rename_i j
    split at h
    · rename_i hj
      split at h
      · rename_i i ws e
        split at h
        · rename_i k hk
          split at h
          · rename_i w hw
            obtain ⟨rfl, rfl⟩ : w = z ∧ E.set i (.lst (ws.eraseIdx k)) = E' := by simpa using h
            obtain ⟨a, vl, rfl, ha, he, rfl, h1, r1⟩ := lst_ok R e rx
            obtain ⟨jv, rfl, rj⟩ := one_ok rxs
            obtain ⟨wv, hv, rv⟩ := r1.get hw
            unfold two62 at hj
            refine mt_popAt pins s σ H _ _ u us Q I ru rus ⟨a, vl, j, k, wv, rfl, by rw [show jv = .int j from rj], h1, by omega, by omega, by rw [← r1.length]; exact hk, hv, ?_⟩
            exact Fin.putL (Q := fun H' => Q wv H') R ha he h1 (r1.erase k) fun ι' H' x' R' => kq ι' H' _ x' R' (rv.ext x')
          · cases h
        · cases h
      · cases h
    · cases h
  · rename_i y
    split at h
    · rename_i i ws _ us' e e2
      split at h
      · rename_i hl
        obtain ⟨rfl, rfl⟩ : W.non = z ∧ E.set i (.lst (ws ++ us')) = E' := by simpa using h
        obtain ⟨a, vl, rfl, ha, he, rfl, h1, r1⟩ := lst_ok R e rx
        obtain ⟨yv, rfl, ry⟩ := one_ok rxs
        obtain ⟨b, vl2, rfl, hb, he2, rfl, h2, r2⟩ := lst_ok R e2 ry
        refine mt_extend pins s σ H _ _ u us Q I ru rus ⟨a, b, vl, vl2, rfl, rfl, h1, h2, by rw [← r1.length, ← r2.length]; exact few_le hl, ?_⟩
        exact Fin.putL (Q := fun H' => Q .non H') R ha he h1 (r1.append r2) fun ι' H' x' R' => kq ι' H' _ x' R' rfl
      · cases h
    · rename_i i ws e e2
      split at h
      · rename_i us'
        split at h
        · rename_i hl
          obtain ⟨rfl, rfl⟩ : W.non = z ∧ E.set i (.lst (ws ++ us')) = E' := by simpa using h
          obtain ⟨a, vl, rfl, ha, he, rfl, h1, r1⟩ := lst_ok R e rx
          obtain ⟨yv, rfl, ry⟩ := one_ok rxs
          obtain ⟨b, vl2, rfl, hs2, r2⟩ := ry
          refine mt_extT pins s σ H _ _ u us Q I ru rus ⟨a, b, vl, vl2, rfl, rfl, h1, by rw [aK]; exact hs2, by rw [← r1.length, ← r2.length]; exact few_le hl, ?_⟩
          exact Fin.putL (Q := fun H' => Q .non H') R ha he h1 (r1.append r2) fun ι' H' x' R' => kq ι' H' _ x' R' rfl
        · cases h
      · cases h
    · cases h
  · rename_i y
    obtain ⟨w, e, hw⟩ := Option.map_eq_some_iff.mp h
    obtain ⟨rfl, rfl⟩ : w = z ∧ E = E' := by simpa using hw
    obtain ⟨yv, rfl, ry⟩ := one_ok rxs
    obtain ⟨yu, rfl, ryu⟩ := vals1 rus
    exact (getD_ok aP aw aK hu I R rx ru ry ryu (d := .non) (dv := .non) (du := .none) rfl rfl e).2 rfl Q kq
  · rename_i y d
    obtain ⟨w, e, hw⟩ := Option.map_eq_some_iff.mp h
    obtain ⟨rfl, rfl⟩ : w = z ∧ E = E' := by simpa using hw
    obtain ⟨yv, dv, rfl, ry, rd⟩ := two_ok rxs
    obtain ⟨yu, du, rfl, ryu, rdu⟩ : ∃ yu du, us = [yu, du] ∧ RelV yv yu ∧ RelV dv du := by
      cases rus with
      | cons a r => cases r with
        | cons b r => cases r; exact ⟨_, _, rfl, a, b⟩
    exact (getD_ok aP aw aK hu I R rx ru ry ryu rd rdu e).1 Q kq
  · rename_i b
    split at h
    · rename_i a
      split at h
      · rename_i hc
        obtain ⟨rfl, rfl⟩ : (.ref E.length : W) = z ∧ E ++ [.lst ((Txt.split a b).map .str)] = E' := by simpa using h
        obtain ⟨bv, rfl, rb⟩ := one_ok rxs
        have hf := hc.2
        refine mt_split pins s σ H _ _ u us Q I ru rus ⟨a, b, rx, by rw [show bv = .str b from rb], by simpa using hc.1, by rw [sizeLine_eq]; unfold few at hf; omega, fun p hp => ?_⟩
        exact kq.lst R (RelWs.strs _) p hp
      · cases h
    · cases h
  · rename_i y
    split at h
    · rename_i a
      split at h
      · rename_i ws e
        split at h
        · rename_i ss e2
          split at h
          · rename_i hl
            obtain ⟨rfl, rfl⟩ : W.str (Txt.join a ss) = z ∧ E = E' := by simpa using h
            obtain ⟨yv, rfl, ry⟩ := one_ok rxs
            obtain ⟨p, vl, rfl, hs, r⟩ := seq_ok R e ry
            have es := strs_ok e2 r
            subst es
            exact mt_join pins s σ H _ _ u us Q I ru rus ⟨a, p, ss, rx, rfl, by rw [aK]; exact hs, Nat.le_trans hl (by unfold few; omega), kq.now R rfl⟩
          · cases h
        · cases h
      · cases h
    · cases h
  · split at h
    · rename_i a
      split at h
      · rename_i hc
        obtain ⟨rfl, rfl⟩ : (.bl true : W) = z ∧ E = E' := by simpa using h
        obtain rfl : vs = [] := rxs
        exact mt_isascii pins s σ H _ _ u us Q I ru rus ⟨a, rx, rfl, True.intro, by rw [ascii_A hc]; exact kq.now R rfl⟩
      · cases h
    · cases h
  · split at h
    · rename_i a
      split at h
      · rename_i hc
        obtain ⟨rfl, rfl⟩ : (.bl (alphaA a) : W) = z ∧ E = E' := by simpa using h
        obtain rfl : vs = [] := rxs
        exact mt_isalpha pins s σ H _ _ u us Q I ru rus ⟨a, rx, rfl, True.intro, by rw [alpha_A hc]; exact kq.now R rfl⟩
      · cases h
    · cases h
  · split at h
    · rename_i a
      split at h
      · rename_i hc
        obtain ⟨rfl, rfl⟩ : (.bl (lowerA a) : W) = z ∧ E = E' := by simpa using h
        obtain rfl : vs = [] := rxs
        exact mt_islower pins s σ H _ _ u us Q I ru rus ⟨a, rx, rfl, True.intro, by rw [lower_A hc]; exact kq.now R rfl⟩
      · cases h
    · cases h
  · split at h
    · rename_i i ws e
      obtain ⟨rfl, rfl⟩ : W.non = z ∧ E.set i (.lst ws.reverse) = E' := by simpa using h
      obtain ⟨a, vl, rfl, ha, he, rfl, h1, r1⟩ := lst_ok R e rx
      obtain rfl : vs = [] := rxs
      refine mt_reverse pins s σ H _ _ u us Q I ru rus ⟨a, vl, rfl, rfl, h1, ?_⟩
      exact Fin.putL (Q := fun H' => Q .non H') R ha he h1 r1.rev fun ι' H' x' R' => kq ι' H' _ x' R' rfl
    · cases h
  · rename_i b
    split at h
    · rename_i a
      obtain ⟨rfl, rfl⟩ : (.bl (Txt.startswith a b) : W) = z ∧ E = E' := by simpa using h
      obtain ⟨bv, rfl, rb⟩ := one_ok rxs
      exact mt_startswith pins s σ H _ _ u us Q I ru rus ⟨a, b, rx, by rw [show bv = .str b from rb], kq.now R rfl⟩
    · cases h
  · rename_i y
    split at h
    · rename_i i ws e
      split at h
      · rename_i yv0 vs0 e1 e2
        obtain ⟨j, ej, hj⟩ := Option.map_eq_some_iff.mp h
        obtain ⟨rfl, rfl⟩ : (.int (j : Int) : W) = z ∧ E = E' := by simpa using hj
        obtain ⟨a, vl, rfl, ha, he, rfl, h1, r1⟩ := lst_ok R e rx
        obtain ⟨yv, rfl, ry⟩ := one_ok rxs
        obtain ⟨rfl, f1⟩ := flV_ok e1 ry
        obtain ⟨rfl, f2⟩ := flVs_ok e2 r1
        obtain ⟨zz, g1, g2, g3⟩ := idxF_ok ej
        exact mt_index pins s σ H _ _ u us Q I ru rus ⟨a, _, _, j, zz, rfl, rfl, SqL.of h1, f1, f2, g1, g2, g3, kq.now R rfl⟩
      · cases h
    · cases h
  · cases h
end G

set_option Elab.async false
set_option linter.all false
set_option maxRecDepth 100000
set_option maxHeartbeats 4000000
namespace G
open PySem L2 PySem.Spec PyProof.Rows
variable {M : Md} {H H' H1 H2 : Hp} {ι ι' ι1 ι2 : List Addr} {X : Cx} {W' : WX}

/-! ### a method is called -/
def plainBase : Expr → Bool
  | .Call _ _ _ _ => false
  | _ => true
theorem plainBase_ok {o : Expr} {name : Str} {env : Env} (h : plainBase o = true) : attributeBase o name env (eval o env) = eval o env := by
  cases o <;> first | rfl | cases h
theorem star_not {env : Env} : ∀ {es : List Expr} {pos : Pos}, es.all plainArg = true → (backTo pos (starEach es env)).all (fun x => !x.1) = true
  | [], _, _ => rfl
  | e :: es, pos, h => by
    rw [List.all_cons, Bool.and_eq_true] at h
    rw [starEach_cons h.1]
    show (true && (backTo pos (starEach es env)).all (fun x => !x.1)) = true
    rw [star_not h.2]
    rfl
theorem evalArgs_nil {A : Around} {md : Model} {E : Value → Shared → Prop} {s : Shared} {f : Value} {Q : Args → Shared → Prop} (h : wpAny md A (spliced []) (fun vs s' => Q ⟨vs, []⟩ s') E s) : wpAny md A (evalArgs f true [] []) Q E s := by
  unfold evalArgs
  show wpAny md A (spliced [] >>= _) Q E s
  refine wpAny_bind (wpAny_mono h (fun vs s' h' => ?_) fun _ _ x => x)
  exact wpAny_bind (wpAny_pure (wpAny_holding (wpAny_bind (wpAny_pure (wpAny_bind (wpAny_pure (wpAny_pure h')))))))
def methA (k : Mk) (co : Act W) (ca : Act (List W)) : Act W := fun σ E => andThen (co σ E) fun x E1 => if tyM E1 x k = true then andThen (ca σ E1) fun xs E2 => lift (wMk k x xs E2) else none
theorem pe_methG {Γ : Gm} {o : Expr} {es : List Expr} {name : Str} {apos cpos : Pos} {k : Mk} {co : Act W} {ca : Act (List W)} (a : At M Γ W' X) (hk : mkOf name = some k) (hb : plainBase o = true) (hp : es.all plainArg = true) (hn : es.length < 29) (hline : (apos.endLine == cpos.line) = true)
    (ho : PE X o (SE M W' co)) (ha : PA X es (SA M W' ca)) : PE X (.Call (.Attribute o name apos) es [] cpos) (SE M W' (methA k co ca)) := by
  obtain rfl := mkOf_ok hk
  refine ⟨fun pins s σ H Q I ⟨ι, E, σE, R, rs, h⟩ => ?_⟩
  have few : ((backTo cpos (starEach es X.env)).all (fun x => !x.1) && (backToKw cpos (keywordEach [] X.env)).all (fun x => x.1.isSome) && decide (es.length + ([] : List Keyword).length + (if ([] : List Keyword).isEmpty then 0 else 1) < 30)) = true := by
    rw [star_not hp]
    show (true && true && decide (es.length + 0 + 0 < 30)) = true
    have : es.length + 0 + 0 < 30 := by omega
    rw [decide_eq_true this]
    rfl
  let Q1 : VK := fun v H1 => ∃ ι1 E1 x, Ext M ι H ι1 H1 ∧ Rel M ι1 E1 H1 ∧ RelW M H1 ι1 x v ∧ Rs M W' ι σ H (if tyM E1 x k = true then andThen (ca σE E1) fun xs E2 => lift (wMk k x xs E2) else none) fun w E' => Fin M ι H w E' Q
  have h1 : SE M W' co σ H Q1 := ⟨ι, E, σE, R, rs, (Rs.bind h).imp fun x E1 h1 => fun ι1 H1 v x1 R1 rx => ⟨ι1, E1, x, x1, R1, rx, h1⟩⟩
  refine wpAny_Call_method_late (plainBase_ok hb) few hline rfl (thn (ho.run pins s σ H Q1 I h1) fun v s1 ⟨xv, H1, I1, r1, ι1, E1, x, x1, R1, rx, h2⟩ => ?_)
  by_cases ht : tyM E1 x k = true
  · rw [if_pos ht] at h2
    obtain ⟨t1, t2⟩ := tyM_ok I1 a.K R1 rx r1 ht
    refine ⟨k.T, k.id, k.pa, k.slot, k.ty, t1, t2, ?_⟩
    have hA := ha.run cpos pins s1 σ H1 (fun vs H2 => ∃ ι2 E2 xs, Ext M ι1 H1 ι2 H2 ∧ Rel M ι2 E2 H2 ∧ RelWs M H2 ι2 xs vs ∧ ∃ z E3, wMk k x xs E2 = some (z, E3) ∧ Fin M ι H z E3 Q) I1
      ⟨ι1, E1, σE, R1, rs.ext x1, ((Rs.bind h2).ext x1).imp fun xs E2 h3 => fun ι2 H2 vs x2 R2 rxs => by
        obtain ⟨z, E3, e, kq⟩ := h3.lift
        exact ⟨ι2, E2, xs, x2, R2, rxs, z, E3, e, kq⟩⟩
    refine Calls.callWith_builtin (starEach_plain hp) ?_
    have two : ∀ {Q : Args → Shared → Prop}, wpAny (model X.prog X.w) X.A (spliced (backTo cpos (starEach es X.env))) (fun vs s' => Q ⟨vs, []⟩ s') X.xe s1 → wpAny (model X.prog X.w) X.A (evalArgs (.builtin k.id) true (backTo cpos (starEach es X.env)) []) Q X.xe s1 := fun {Q} h => by
      cases es with
      | nil => exact evalArgs_nil h
      | cons e es =>
        rw [List.all_cons, Bool.and_eq_true] at hp
        rw [starEach_cons hp.1] at h ⊢
        exact Calls.evalArgs_plain h
    refine two ?_
    exact thn hA fun us s2 ⟨vs, H2, I2, r2, ι2, E2, xs, x2, R2, rxs, z, E3, e, kq⟩ => mk_ok a.P a.w a.K a.units k pins s2 σ H2 ι2 E2 E3 x xs z xv vs v us Q I2 R2 (rx.ext x2) r1 rxs r2 e fun ι3 H3 w x3 => kq ι3 H3 w ((x1.trans x2).trans x3)
  · rw [if_neg ht] at h2
    exact h2.none.elim
/-! ### len, any, all, of more -/
def wLenN (xs : List W) (E : Hh) : Option (W × Hh) := match xs with
  | [x] => match dnOf E x with
    | some (_, kvs) => some (.int kvs.length, E)
    | none => match dKOf E x with
      | some (_, kvs) => if kvs.length ≤ few then some (.int kvs.length, E) else none
      | none => wBi .len xs E
  | _ => none
/-! ### truth -/
def wTruN (x : W) (E : Hh) : Option Bool := match dnOf E x with
  | some (_, kvs) => some (!kvs.isEmpty)
  | none => wTru x E
theorem PT.or2 {e : Expr} {t1 t2 : TT} (h1 : PT X e t1) (h2 : PT X e t2) : PT X e (fun σ H Q => t1 σ H Q ∨ t2 σ H Q) := ⟨fun pins s σ H R I q => q.elim (h1.run pins s σ H R I) (h2.run pins s σ H R I)⟩
def byTruN (ca : Act W) : Act Bool := fun σ E => andThen (ca σ E) fun x E1 => match wTruN x E1 with
  | some b => some (.ok b E1)
  | none => none
theorem tru_or (aK : X.K = M.K) : TruR X (fun x H Q => rTruN M x H Q ∨ ∃ k, TruV X.K x H k ∧ Q k H) := fun pins s σ H x v Q I r h => h.elim (tru_N aK pins s σ H x v Q I r) (tru_ok pins s σ H x v Q I r)
theorem truN_ok {E : Hh} {x : W} {b : Bool} {v : V} {Q : Bool → Hp → Prop} (aK : X.K = M.K) (h : wTruN x E = some b) (R : Rel M ι E H) (rx : RelW M H ι x v) (q : Q b H) : rTruN M v H Q ∨ ∃ k, TruV X.K v H k ∧ Q k H := by
  unfold wTruN at h
  cases e : dnOf E x with
  | some p =>
    obtain ⟨i, kvs⟩ := p
    rw [e] at h
    obtain rfl := Option.some.inj h
    exact .inl ⟨ι, E, x, i, kvs, R, rx, e, q⟩
  | none =>
    rw [e] at h
    exact .inr ⟨b, by rw [aK]; exact tru_okW h R rx, q⟩
theorem pt_truNG {e : Expr} {ca : Act W} (aK : X.K = M.K) (hp : plainTest e = true) (ha : PE X e (SE M W' ca)) : PT X e (ST M W' (byTruN ca)) :=
  PT.imp (pt_truthR ha (tru_or aK) (isTrue_value hp)) fun σ H Q ⟨ι, E, σE, R, rs, h⟩ => ⟨ι, E, σE, R, rs, (Rs.bind h).imp fun x E1 h1 => fun ι1 H1 v x1 R1 rx => by
    cases e : wTruN x E1 with
    | none => rw [e] at h1; exact h1.none.elim
    | some b =>
      rw [e] at h1
      exact truN_ok aK e R1 rx (h1.ok ι1 H1 x1 R1)⟩
/-! ### in, of any dict -/
/-- a list or a tuple in a tuple of texts: no -/
def isTxt : W → Bool
  | .str _ => true
  | _ => false
def oddIn (E : Hh) (x : W) : W → Bool
  | .tup ws => ws.all isTxt && (match x with
    | .tup _ => true
    | .ref i => (lstOf E (.ref i)).isSome
    | _ => false)
  | _ => false
def rInO (K : PySem.W.Frag) (neg : Bool) : R2 := fun x y H Q => ∃ (p a : Addr) (xs : List V) (ss : List Str), y = .ref p ∧ x = .ref a ∧ SqT K H p (ss.map V.str) ∧ (SqL K H a xs ∨ SqT K H a xs) ∧ Q (.bl neg) H
theorem txts_ok : ∀ {ws : List W} {vs : List V}, ws.all isTxt = true → RelWs M H ι ws vs → ∃ ss : List Str, vs = ss.map V.str
  | [], vs, _, r => ⟨[], r⟩
  | w :: ws, vs, h, r => by
    obtain ⟨v, rs, rfl, r1, r2⟩ := r
    rw [List.all_cons, Bool.and_eq_true] at h
    obtain ⟨ss, rfl⟩ := txts_ok h.2 r2
    cases w with
    | str s => exact ⟨s :: ss, by rw [show v = .str s from r1]; rfl⟩
    | _ => exact absurd h.1 Bool.false_ne_true
theorem txt_mem : ∀ {ss : List Str} {us : List Value}, Vals (ss.map V.str) us → ∀ u ∈ us, ∃ z t, u = Value.str z t
  | [], _, .nil, u, h => by cases h
  | s :: ss, _, .cons r t, u, h => by
    rcases List.mem_cons.mp h with e | e
    · obtain ⟨t, q⟩ := r
      exact ⟨s, t, by rw [e]; exact q⟩
    · exact txt_mem t u e
theorem op_inO (aK : X.K = M.K) (hu : X.A.units + 65 < cLine) {neg : Bool} : OpR X (compareOp (if neg = true then .NotIn else .In)) (rInO M.K neg) := by
  intro pins s σ H x y v u Q I rx ry h
  obtain ⟨p, a, xs, ss, rfl, rfl, hp, ha, q⟩ := h
  obtain rfl : u = Value.ref p := ry
  obtain rfl : v = Value.ref a := rx
  rw [← aK] at hp ha
  obtain ⟨its, r, pl, hz⟩ := I.tuple hp
  have lo : X.A.in1.units < cLine := by show X.A.units + 1 < cLine; omega
  have all : ∀ w, w ∈ its.toArray → SeqAt.EqAt X.A.in1 s w (.ref a) false := fun w hw => by
    obtain ⟨z, t, rfl⟩ := txt_mem r w (by simpa using hw)
    rcases ha with ha | ha
    · obtain ⟨its2, r2, pl2, hz2⟩ := I.list ha
      exact SeqAt.EqAt.str_list z t pl2.isList lo
    · obtain ⟨its2, r2, pl2, hz2⟩ := I.tuple ha
      exact SeqAt.EqAt.str_tuple z t pl2 lo
  have no : its.toArray.any (fun _ => false) = false := by simp
  cases neg with
  | false => exact SeqAt.in_tupleAt (fun _ => false) pl all ⟨.bl _, H, I, rfl, by rw [no]; exact q⟩
  | true => exact SeqAt.notIn_tupleAt (fun _ => false) pl all ⟨.bl _, H, I, rfl, by rw [no]; exact q⟩
theorem oddIn_ok {E : Hh} {x y : W} {v u : V} {neg : Bool} {Q : VK} (h : oddIn E x y = true) (R : Rel M ι E H) (rx : RelW M H ι x v) (ry : RelW M H ι y u) (q : Q (.bl neg) H) : rInO M.K neg v u H Q := by
  unfold oddIn at h
  split at h
  · rename_i ws
    rw [Bool.and_eq_true] at h
    obtain ⟨p, vs, rfl, hp, rws⟩ := ry
    obtain ⟨ss, rfl⟩ := txts_ok h.1 rws
    have h2 := h.2
    split at h2
    · obtain ⟨a, xs, rfl, ha, _⟩ := rx
      exact ⟨p, a, xs, ss, rfl, rfl, hp, .inr ha, q⟩
    · rename_i i
      obtain ⟨⟨n, us⟩, e⟩ := Option.isSome_iff_exists.mp h2
      obtain ⟨a, vl, _, _, _, rfl, h1, _⟩ := lst_ok R e rx
      exact ⟨p, a, vl, ss, rfl, rfl, hp, .inl (SqL.of h1), q⟩
    · cases h2
  · cases h
def wInN (x y : W) (E : Hh) : Option Bool := match lkDn E y x with
  | some o => some o.isSome
  | none => if oddIn E x y = true then some false else wIn x y E
/-- == of an empty list or tuple -/
def empW (E : Hh) (x y : W) : Option Bool := match y with
  | .tup [] => match x with
    | .tup ws => some ws.isEmpty
    | _ => none
  | .ref i => match lstOf E (.ref i) with
    | some (_, []) => match lstOf E x with
      | some (_, ws) => some ws.isEmpty
      | none => none
    | _ => none
  | _ => none
def rEmp (K : PySem.W.Frag) (neg : Bool) : R2 := fun x y H Q => ∃ (a b : Addr) (xs : List V), x = .ref a ∧ y = .ref b ∧ ((SqL K H a xs ∧ SqL K H b []) ∨ (SqT K H a xs ∧ SqT K H b [])) ∧ Q (.bl (if neg = true then !xs.isEmpty else xs.isEmpty)) H
theorem vals_emp {us : List Value} (h : Vals ([] : List V) us) : us = [] := by cases h; rfl
theorem vals_isE : ∀ {xs : List V} {us : List Value}, Vals xs us → xs.isEmpty = decide (us.toArray.size = 0)
  | _, _, .nil => rfl
  | _, _, .cons _ _ => by simp
theorem op_emp (aK : X.K = M.K) (hu : X.A.units + 65 < cLine) {neg : Bool} : OpR X (compareOp (if neg = true then .NotEq else .Eq)) (rEmp M.K neg) := by
  intro pins s σ H x y v u Q I rx ry h
  obtain ⟨a, b, xs, rfl, rfl, h, q⟩ := h
  obtain rfl : v = Value.ref a := rx
  obtain rfl : u = Value.ref b := ry
  have lo : X.A.units < cLine := by omega
  rw [← aK] at h
  have fin : ∀ {k : Bool}, k = xs.isEmpty → EP X pins σ Q (.bool (if neg = true then !k else k)) s := fun {k} e => ⟨.bl _, H, I, rfl, by rw [e]; exact q⟩
  rcases h with ⟨ha, hb⟩ | ⟨ha, hb⟩
  · obtain ⟨its, r, pl, _⟩ := I.list ha
    obtain ⟨its2, r2, pl2, _⟩ := I.list hb
    obtain rfl := vals_emp r2
    by_cases hz : its.toArray.size = 0
    · have e : xs.isEmpty = true := by rw [vals_isE r, hz]; rfl
      have no : ∀ (j : Nat) (h1 : j < its.toArray.size) (h2 : j < ([] : List Value).toArray.size), SeqAt.EqAt X.A.in1 s its.toArray[j] ([] : List Value).toArray[j] true := fun j h1 => absurd h1 (by omega)
      have al : (List.range its.toArray.size).all (fun _ => true) = true := by simp
      cases neg with
      | false => exact SeqAt.RcAt.lists pl.isList pl2.isList (e := fun _ => true) hz lo no X.prog X.w X.xe _ (by rw [al]; exact fin e.symm)
      | true => exact SeqAt.RcNeAt.lists pl.isList pl2.isList (e := fun _ => true) hz lo no X.prog X.w X.xe _ (by rw [al]; exact fin (k := true) e.symm)
    · have e : xs.isEmpty = false := by rw [vals_isE r, decide_eq_false hz]
      have ne : (its.toArray.size != ([] : List Value).toArray.size) = true := by simpa using hz
      cases neg with
      | false => exact SeqAt.RcAt.lists_lengths pl.isList pl2.isList ne lo X.prog X.w X.xe _ (fin e.symm)
      | true => exact SeqAt.RcNeAt.lists_lengths pl.isList pl2.isList ne lo X.prog X.w X.xe _ (fin (k := false) e.symm)
  · obtain ⟨its, r, pl, _⟩ := I.tuple ha
    obtain ⟨its2, r2, pl2, _⟩ := I.tuple hb
    obtain rfl := vals_emp r2
    have no : ∀ (j : Nat) (h1 : j < its.toArray.size) (h2 : j < ([] : List Value).toArray.size), SeqAt.EqAt X.A.in1 s its.toArray[j] ([] : List Value).toArray[j] true := fun j _ h2 => absurd h2 (by simp)
    have e : ((List.range (min its.toArray.size ([] : List Value).toArray.size)).all (fun _ => true) && its.toArray.size == ([] : List Value).toArray.size) = xs.isEmpty := by
      rw [vals_isE r]
      cases hd : decide (its.toArray.size = 0) <;> simp_all
    cases neg with
    | false => exact SeqAt.RcAt.tuples pl pl2 (e := fun _ => true) lo no X.prog X.w X.xe _ (fin e)
    | true => exact SeqAt.RcNeAt.tuples pl pl2 (e := fun _ => true) lo no X.prog X.w X.xe _ (fin e)
theorem RelWs.isE {ws : List W} {vs : List V} (r : RelWs M H ι ws vs) : ws.isEmpty = vs.isEmpty := by
  cases ws with
  | nil => rw [show vs = [] from r]; rfl
  | cons w ws => obtain ⟨v, q, rfl, _, _⟩ := r; rfl
theorem empW_ok {E : Hh} {x y : W} {v u : V} {b neg : Bool} {Q : VK} (h : empW E x y = some b) (R : Rel M ι E H) (rx : RelW M H ι x v) (ry : RelW M H ι y u) (q : Q (.bl (if neg = true then !b else b)) H) : rEmp M.K neg v u H Q := by
  unfold empW at h
  split at h
  · split at h
    · rename_i ws
      obtain rfl := Option.some.inj h
      obtain ⟨a, vs, rfl, ha, rws⟩ := rx
      obtain ⟨c, us, rfl, hc, rus⟩ := ry
      obtain rfl : us = [] := rus
      exact ⟨a, c, vs, rfl, rfl, .inr ⟨ha, hc⟩, by rw [← rws.isE]; exact q⟩
    · cases h
  · rename_i i
    split at h
    · rename_i n e1
      split at h
      · rename_i m ws e2
        obtain rfl := Option.some.inj h
        obtain ⟨a, vl, _, _, _, rfl, h1, r1⟩ := lst_ok R e2 rx
        obtain ⟨c, vl2, _, _, _, rfl, h2, r2⟩ := lst_ok R e1 ry
        obtain rfl : vl2 = [] := r2
        exact ⟨a, c, vl, rfl, rfl, .inl ⟨SqL.of h1, SqL.of h2⟩, by rw [← r1.isE]; exact q⟩
      · cases h
    · cases h
  · cases h
def wCmpN (op : CmpOp) (x y : W) (E : Hh) : Option Bool := match op with
  | .In => wInN x y E
  | .NotIn => (wInN x y E).map (!·)
  | .Eq => match empW E x y with
    | some b => some b
    | none => wCmp .Eq x y E
  | .NotEq => match empW E x y with
    | some b => some (!b)
    | none => wCmp .NotEq x y E
  | op => wCmp op x y E
def rCmpN (M : Md) (op : CmpOp) : R2 := fun x y H Q => (match op with
  | .In => rInN M false x y H Q ∨ rInO M.K false x y H Q
  | .NotIn => rInN M true x y H Q ∨ rInO M.K true x y H Q
  | .Eq => rEmp M.K false x y H Q
  | .NotEq => rEmp M.K true x y H Q
  | _ => False) ∨ rCmpAll M.K op x y H Q
theorem op_cmpN {Γ : Gm} (a : At M Γ W' X) (op : CmpOp) : OpR X (compareOp op) (rCmpN M op) := by
  have base : OpR X (compareOp op) (rCmpAll X.K op) := op_cmpAll a.units op
  rw [a.K] at base
  intro pins s σ H x y v u Q I rx ry h
  rcases h with h | h
  · cases op with
    | In => exact h.elim (op_inN a.P a.w a.K a.units pins s σ H x y v u Q I rx ry) (op_inO (neg := false) a.K a.units pins s σ H x y v u Q I rx ry)
    | NotIn => exact h.elim (op_notInN a.P a.w a.K a.units pins s σ H x y v u Q I rx ry) (op_inO (neg := true) a.K a.units pins s σ H x y v u Q I rx ry)
    | Eq => exact op_emp (neg := false) a.K a.units pins s σ H x y v u Q I rx ry h
    | NotEq => exact op_emp (neg := true) a.K a.units pins s σ H x y v u Q I rx ry h
    | _ => exact h.elim
  · exact base pins s σ H x y v u Q I rx ry h
theorem cmpN_ok {op : CmpOp} {E : Hh} {x y : W} {b : Bool} {v u : V} {Q : VK} (h : wCmpN op x y E = some b) (R : Rel M ι E H) (rx : RelW M H ι x v) (ry : RelW M H ι y u) (k : Fin M ι H (.bl b) E Q) : rCmpN M op v u H Q := by
  have q : Q (.bl b) H := k.now R rfl
  cases op with
  | In =>
    have h : wInN x y E = some b := h
    unfold wInN at h
    cases e : lkDn E y x with
    | some o =>
      rw [e] at h
      obtain rfl := Option.some.inj h
      exact .inl (.inl ⟨ι, E, x, y, o, R, rx, ry, e, q⟩)
    | none =>
      rw [e] at h
      dsimp only at h
      split at h
      · rename_i ho
        obtain rfl := Option.some.inj h
        exact .inl (.inr (oddIn_ok ho R rx ry q))
      · exact .inr (cmp_ok (op := .In) h R rx ry k)
  | NotIn =>
    have h : (wInN x y E).map (!·) = some b := h
    unfold wInN at h
    cases e : lkDn E y x with
    | some o =>
      rw [e] at h
      obtain rfl := Option.some.inj h
      exact .inl (.inl ⟨ι, E, x, y, o, R, rx, ry, e, q⟩)
    | none =>
      rw [e] at h
      dsimp only at h
      split at h
      · rename_i ho
        obtain rfl : true = b := Option.some.inj h
        exact .inl (.inr (oddIn_ok ho R rx ry q))
      · exact .inr (cmp_ok (op := .NotIn) h R rx ry k)
  | Eq =>
    have h : (match empW E x y with
      | some b => some b
      | none => wCmp .Eq x y E) = some b := h
    split at h
    · rename_i c e
      obtain rfl := Option.some.inj h
      exact .inl (empW_ok (neg := false) e R rx ry q)
    · exact .inr (cmp_ok (op := .Eq) h R rx ry k)
  | NotEq =>
    have h : (match empW E x y with
      | some b => some (!b)
      | none => wCmp .NotEq x y E) = some b := h
    split at h
    · rename_i c e
      obtain rfl := Option.some.inj h
      exact .inl (empW_ok (neg := true) e R rx ry q)
    · exact .inr (cmp_ok (op := .NotEq) h R rx ry k)
  | Lt => exact .inr (cmp_ok (op := .Lt) h R rx ry k)
  | LtE => exact .inr (cmp_ok (op := .LtE) h R rx ry k)
  | Gt => exact .inr (cmp_ok (op := .Gt) h R rx ry k)
  | GtE => exact .inr (cmp_ok (op := .GtE) h R rx ry k)
  | Is => exact .inr (cmp_ok (op := .Is) h R rx ry k)
  | IsNot => exact .inr (cmp_ok (op := .IsNot) h R rx ry k)
def wCmpNA (op : CmpOp) (ca cb : Act W) : Act W := fun σ E => andThen (ca σ E) fun x E1 => andThen (cb σ E1) fun y E2 => lift ((wCmpN op x y E2).map fun b => (.bl b, E2))
theorem mapN_bl {op : CmpOp} {x y z : W} {E E' : Hh} (h : ((wCmpN op x y E).map fun b => ((.bl b : W), E)) = some (z, E')) : ∃ b, wCmpN op x y E = some b ∧ z = .bl b ∧ E' = E := by
  cases e : wCmpN op x y E with
  | none => rw [e] at h; cases h
  | some b =>
    rw [e] at h
    obtain ⟨rfl, rfl⟩ : (.bl b : W) = z ∧ E = E' := by simpa using h
    exact ⟨b, rfl, rfl, rfl⟩
theorem se_cmpN {op : CmpOp} {ca cb : Act W} : ∀ (σ : L2.St) (H : Hp) (Q : VK), SE M W' (wCmpNA op ca cb) σ H Q → tOp (rCmpN M op) (SE M W' ca) (SE M W' cb) σ H Q :=
  se_op (f := fun x y E => (wCmpN op x y E).map fun b => (.bl b, E)) fun {ι E E' H x y z v u Q} h R rx ry k => by
    obtain ⟨b, e, rfl, rfl⟩ := mapN_bl h
    exact cmpN_ok e R rx ry k
theorem pe_cmpNG {Γ : Gm} {e f : Expr} {op : CmpOp} {pos : Pos} {ca cb : Act W} (a : At M Γ W' X) (hm : behindInMarks op f = false) (ha : PE X e (SE M W' ca)) (hb : PE X f (SE M W' cb)) : PE X (.Compare e [op] [f] pos) (SE M W' (wCmpNA op ca cb)) :=
  PE.imp (pe_cmpR (op_cmpN a op) ha hb hm) se_cmpN
theorem pt_cmpNG {Γ : Gm} {e f : Expr} {op : CmpOp} {pos : Pos} {ca cb : Act W} (a : At M Γ W' X) (hm : behindInMarks op f = false) (ha : PE X e (SE M W' ca)) (hb : PE X f (SE M W' cb)) : PT X (.Compare e [op] [f] pos) (ST M W' (toT (wCmpNA op ca cb))) :=
  PT.imp (pt_cmpR (op_cmpN a op) ha hb hm) fun σ H Q q => tTest_mono se_cmpN σ H Q (st_test σ H Q q)
/-! ### [], of any dict -/
def wIxN (x y : W) (E : Hh) : Option (W × Hh) := match lkDn E x y with
  | some (some w) => some (w, E)
  | some none => none
  | none => wIx x y E
theorem ix_okN {E E' : Hh} {x y z : W} {v u : V} {Q : VK} (h : wIxN x y E = some (z, E')) (R : Rel M ι E H) (rx : RelW M H ι x v) (ry : RelW M H ι y u) (k : Fin M ι H z E' Q) : rIxN M v u H Q ∨ rIxAll M.K v u H Q := by
  unfold wIxN at h
  split at h
  · rename_i w e
    obtain ⟨rfl, rfl⟩ : w = z ∧ E = E' := by simpa using h
    exact .inl ⟨ι, E, x, y, w, R, rx, ry, e, k⟩
  · cases h
  · exact .inr (ix_ok h R rx ry k)
def wIxNA (ca cb : Act W) : Act W := fun σ E => andThen (ca σ E) fun x E1 => andThen (cb σ E1) fun y E2 => lift (wIxN x y E2)
theorem pe_ixNG {Γ : Gm} {e f : Expr} {pos : Pos} {ca cb : Act W} (a : At M Γ W' X) (hp : plainIx f = true) (ha : PE X e (SE M W' ca)) (hb : PE X f (SE M W' cb)) : PE X (.Subscript e f pos) (SE M W' (wIxNA ca cb)) := by
  have ixs : IxR X (fun x y H Q => rIxN M x y H Q ∨ rIxAll M.K x y H Q) := (ix_N a.P a.w a.K a.units).or (by have := ix_all (X := X) (by have := a.units; omega); rw [a.K] at this; exact this)
  exact PE.imp (pe_ix ixs ha hb (plainIx_ok hp)) (se_op (f := wIxN) ix_okN)
/-- o[i] = v -/
def wSetAll (o i w : W) (E : Hh) : Option Hh := match wSetN o i w E with
  | some E' => some E'
  | none => wSet o i w E
def subNG (co ci : Act W) : ActG := fun w σ E => andThen (co σ E) fun o E1 => andThen (ci σ E1) fun i E2 => optR ((wSetAll o i w E2).map fun E3 => (E3, σ)) E2 |>.bind fun r => match r with
  | .ok p _ => some (.ok p.2 p.1)
  | .ex _ _ => none
theorem pg_subNG {Γ : Gm} {o i : Expr} {pos : Pos} {co ci : Act W} (a : At M Γ W' X) (hp : plainIx i = true) (ho : PE X o (SE M W' co)) (hi : PE X i (SE M W' ci)) : PG X (.Subscript o i pos) (SG M W' (subNG co ci)) := by
  have sets : PSet X (fun o i v H Q => rSetN M o i v H Q ∨ rSetAll o i v H Q) := fun pins s σ H o i v ov iv u Q I ro ri rv h => h.elim (set_N a.P a.w a.K a.units pins s σ H o i v ov iv u Q I ro ri rv) (set_all (X := X) (by have := a.units; omega) pins s σ H o i v ov iv u Q I ro ri rv)
  refine PG.imp (pg_sub ho hi sets (by cases i <;> first | (intro v; rfl) | cases hp)) fun v σ H Q ⟨ι, E, σE, w, R, rs, rv, k⟩ => ⟨ι, E, σE, R, rs, (Rs.bind k).imp fun o E1 h1 => fun ι1 H1 ov x1 R1 ro => ⟨ι1, E1, σE, R1, rs.ext x1, (h1.bind.ext x1).imp fun i E2 h2 => fun ι2 H2 iv x2 R2 ri => ?_⟩⟩
  have xx := x1.trans x2
  cases e : wSetN o i w E2 with
  | some E3 =>
    have ea : wSetAll o i w E2 = some E3 := by unfold wSetAll; rw [e]
    rw [ea] at h2
    exact .inl ⟨ι2, E2, o, i, w, E3, R2, ro.ext x2, ri, (rv.ext x1).ext x2, e, fun ι3 H3 x3 R3 => h2.ok ι3 H3 σ (xx.trans x3) R3 (rs.ext (xx.trans x3))⟩
  | none =>
    have ea : wSetAll o i w E2 = wSet o i w E2 := by unfold wSetAll; rw [e]
    rw [ea] at h2
    cases e2 : wSet o i w E2 with
    | none => rw [e2] at h2; exact h2.none.elim
    | some E3 =>
      rw [e2] at h2
      exact .inr (set_ok e2 R2 (ro.ext x2) ri ((rv.ext x1).ext x2) fun ι3 H3 x3 R3 => h2.ok ι3 H3 σ (xx.trans x3) R3 (rs.ext (xx.trans x3)))
end G

set_option Elab.async false
set_option linter.all false
set_option maxRecDepth 100000
set_option maxHeartbeats 4000000
namespace G
open PySem L2 PySem.Spec PyProof.Rows
variable {M : Md} {H H' H1 H2 : Hp} {ι ι' ι1 ι2 : List Addr} {X : Cx} {W' : WX}

/-! ### enumerate(xs, start=k) -/
def ItsB (K : PySem.W.Frag) (d : Int) (k : Bool) (a : Addr) : It where
  go i H := ∃ (xs : List V) (x : V), SqB K k H a xs ∧ xs[i]? = some x
  yld i H v H' := ∃ T x, v = .ref T ∧ H T = none ∧ H' = upd H T (.tup [.int (d + (i : Int)), x]) ∧ ∀ xs, SqB K k H a xs → xs[i]? = some x
  stop i H := ∃ xs : List V, SqB K k H a xs ∧ xs.length = i
theorem turn_enumS {P : Program} {w : World} {K : PySem.W.Frag} {elts : List Expr} {kk : Nat} {tpos : Pos} {d : Int} {k : Bool} {a e it : Addr} (ne : e ≠ it) (na : a ≠ it) (nea : e ≠ a) :
    Turn P w K (.Tuple elts kk tpos) (ItsB K d k a) [e, it] e (fun i h => (∃ old, IsEnum h e it (d + (i : Int)) old) ∧ ItB k h it a i) where
  mem := List.mem_cons_self ..
  obj := fun i h ⟨⟨old, he⟩, h1⟩ c hc => by
    rcases List.mem_cons.mp hc with z | z
    · subst z
      exact ⟨_, he, fun v q => nomatch q⟩
    · obtain rfl : c = it := by simpa using z
      exact itB_obj h1
  keep := fun i h h' ⟨⟨old, he⟩, h1⟩ k => ⟨⟨old, k e (by simp) _ he⟩, itB_keep h1 fun o q => k it (by simp) o q⟩
  item := by
    rintro X rfl rfl rfl hc i pins s σ H E I hf ⟨⟨old, he⟩, h1⟩ ⟨xs, x, qx, hx⟩
    obtain ⟨ux, rv, p⟩ := seqB_of I qx
    obtain ⟨u, hu, ru⟩ := rv.get hx
    have calm : X.A.in1.handled = none := I.ok.hd hc
    have le : e < s.heap.objs.size := Heap.lt_size he
    have in1 : i < ux.toArray.size := by simpa using (List.getElem?_eq_some_iff.mp hu).1
    refine wpAny_pyNext_enum_itemC (drawsB calm k it a na _) he ⟨h1, p⟩ in1 ne (by simp [ne, nea]) fun v1 h' tk e1 ho s1 hT hsz hk => ?_
    obtain rfl : u = v1 := Option.some.inj (by rw [← hu, ← e1]; simp)
    refine ⟨_, rfl, wpAny_letOwnedTupleGo_enum (s := { s with heap := h', toks := tk + 1 }) ho fun h'' he' sb => ?_⟩
    have hT2 : h''.get? s.heap.objs.size = some { cls := .type "tuple", data := .seq #[.int (d + (i : Int)) tk, u] } := (sb.2 _ (Nat.ne_of_gt le)).trans hT
    have new : ObjOk X.prog X.w (upd H s.heap.objs.size (.tup [.int (d + (i : Int)), x])) h'' s.heap.objs.size (.tup [.int (d + (i : Int)), x]) := ⟨(by decide : (2 : Nat) ≤ sizeLine), _, .cons ⟨_, rfl⟩ (.cons ru .nil), _, hT2, rfl, _, rfl⟩
    have stay : ∀ c o, c ∉ [e, it] → s.heap.get? c = some o → h''.get? c = some o := fun c o hc q => by
      have n1 : c ≠ e := fun z => hc (by simp [z])
      have n2 : c ≠ it := fun z => hc (by simp [z])
      exact (sb.2 c n1).trans (hk c o n1 n2 q)
    have I1 : Inv X pins σ (upd H s.heap.objs.size (.tup [.int (d + (i : Int)), x])) { s with heap := h'', toks := tk + 1 } := I.turnedNew stay hf (Nat.le_refl _) new
    refine ⟨.ref s.heap.objs.size, _, I1, rfl, ⟨_, x, rfl, I.hok.fresh (Nat.le_refl _), rfl, fun l hl => by rw [seqB_one I hl qx]; exact hx⟩, ⟨⟨u, ?_⟩, itB_keep s1.1 fun o q => (sb.2 _ (Ne.symm ne)).trans q⟩, fun c hcm => ?_⟩
    · rw [show d + ((i + 1 : Nat) : Int) = d + (i : Int) + 1 by omega]
      exact he'
    have lt : c < s.heap.objs.size := by
      rcases List.mem_cons.mp hcm with z | z
      · rw [z]; exact le
      · obtain rfl : c = it := by simpa using z
        obtain ⟨_, e, _⟩ := itB_obj h1
        exact Heap.lt_size e
    rw [upd_ne (Nat.ne_of_lt lt)]
    exact (hf c hcm).1
  done := by
    rintro X rfl rfl rfl hc i pins s σ H E I hf ⟨⟨old, he⟩, h1⟩ ⟨xs, qx, e1⟩
    obtain ⟨ux, rv, p⟩ := seqB_of I qx
    have calm : X.A.in1.handled = none := I.ok.hd hc
    have e2 : ux.toArray.size = i := by rw [← e1, rv.length]; simp
    refine wpAny_pyNext_enum_endD (drawsB calm k it a na ux.toArray) he (by rw [e2]; exact ⟨h1, p⟩) fun h' hk => ⟨rfl, I.turnedL (t' := s.toks) (fun c o hc q => ?_) hf⟩
    exact hk c o (fun z => hc (by simp [z])) q
  self := fun A i s Q E st h => by
    obtain ⟨⟨_, he⟩, _⟩ := st
    exact wpAny_pyIter_enum he h
/-- the call of a built-in type with keywords -/
theorem tyK_call {A : Around} {md : Model} {E : Value → Shared → Prop} {s : Shared} {pos : Pos} {T : String} {as : List (Bool × Sem Value)} {kws : List (Option Str × Sem Value)} {Q : Value → Shared → Prop} (hp : as.any (·.1) = false) (hk : kws.any (·.1.isNone) = false)
    (h : wpAny md A (evalArgs (.type T) true as kws) (fun a s1 => wpAny md A (call (.type T) a.pos a.kw) Q E s1) E s) : wpAny md A (callWith pos (.type T) [] as kws) Q E s := by
  unfold callWith
  refine wpAny_bind (wpAny_holding (wpAny_mono h (fun a s1 h1 => wpAny_bind (wpAny_standAt ?_)) fun _ _ z => z))
  rw [hp, hk]
  exact wpAny_bind (wpAny_pure (wpAny_bind (wpAny_mono (show wpAny md A (call (.type T) ([] ++ a.pos) a.kw) Q E s1 from h1) (fun r s2 hr => wpAny_bind (wpAny_holding (wpAny_point (wpAny_pure hr)))) fun _ _ z => z)))
def iEnumS (K : PySem.W.Frag) (ta tk : TA) : TI := fun σ H R => ta σ H fun vs H1 => tk σ H1 fun us H2 => ∃ k a xs d, vs = [.ref a] ∧ us = [.int d] ∧ -two62 ≤ d ∧ d < two62 ∧ SqB K k H2 a xs ∧ R (ItsB K d k a) H2
theorem pi_enumS {e e2 : Expr} {ta tk : TA} {p pos kp tpos : Pos} {elts : List Expr} {kk : Nat} (hg : Gl X "enumerate") (hm : X.mg "enumerate" = none) (hp : plainArg e = true) (ha : PA X [e] ta) (hk : PK X [⟨some "start", e2, kp⟩] tk) :
    PI X (.Tuple elts kk tpos) (.Call (.Name "enumerate" p) [e] [⟨some "start", e2, kp⟩] pos) (iEnumS X.K ta tk) := ⟨fun pins s σ H R I h => by
  refine wpAny_Call_Name_kw (ld_blt I hg hm PyProof.Rows.boot_enumerate ?_)
  have pl : (backTo pos (starEach [e] X.env)).any (·.1) = false := starEach_plain (by simp [hp])
  refine tyK_call pl rfl ?_
  have st : backTo pos (starEach [e] X.env) = (false, eval e X.env) :: backTo pos (starEach [] X.env) := by
    rw [starEach_cons hp]
    rfl
  suffices key : wpAny (model X.prog X.w) X.A (spliced (backTo pos (starEach [e] X.env))) (fun us s1 => wpAny (model X.prog X.w) X.A (evalAll ((backToKw pos (keywordEach [⟨some "start", e2, kp⟩] X.env)).map (·.2))) (fun ws s2 => wpAny (model X.prog X.w) X.A (call (.type "enumerate") us ((["start"] : List Str).zip ws)) (fun v s1 => wpAny (model X.prog X.w) X.A (pyIter v) (PIE X pins σ (Expr.Tuple elts kk tpos) R) X.xe s1) X.xe s2) X.xe s1) X.xe s by
    rw [st] at key ⊢
    exact evalArgs_kwB rfl key
  refine thn (ha.run pos pins s σ H _ I h) fun us s1 ⟨vs, H1, I1, r1, q1⟩ => thn (hk.run pos pins s1 σ H1 _ I1 q1) fun ws s2 ⟨zs, H2, I2, r2, k, a, xs, d, e1, e2', d1, d2, qx, q⟩ => ?_
  subst e1
  subst e2'
  obtain ⟨v, rfl, ra⟩ := vals1 r1
  obtain ⟨w, rfl, rw'⟩ := vals1 r2
  cases ra
  obtain ⟨t, rfl⟩ := rw'
  obtain ⟨ux, rv, px⟩ := seqB_of I2 qx
  have l1 := isB_lt px
  unfold two62 at d1 d2
  refine enum_begins_start (beginsB k a _) px (by omega) (by omega) fun h' z' j1 _ hk' => wpAny_pyIter_enum z' ?_
  have I3 : Inv X pins σ H2 { s2 with heap := h' } := I2.kept (t' := s2.toks) hk'
  refine ⟨_, _, _, _, H2, rfl, I3, turn_enumS (it := s2.heap.objs.size) (Nat.succ_ne_self _) (Nat.ne_of_lt l1) (Nat.ne_of_gt (Nat.lt_succ_of_lt l1)), ⟨⟨.none, by rw [show d + ((0 : Nat) : Int) = d by omega]; exact z'⟩, itB_new j1⟩, fun c hc => fresh_fp I2 ?_, q⟩
  rcases List.mem_cons.mp hc with z | z
  · rw [z]; exact Nat.le_add_right _ _
  · rw [List.mem_singleton.mp z]; exact Nat.le_refl _⟩
def enumSrcK (d : Int) (s : Src) : Src := ⟨s.ws.mapIdx fun i w => .tup [.int (d + (i : Int)), w], s.ls⟩
theorem walks_enumS {d : Int} {k : Bool} {a : Addr} {s : Src} (h1 : Stands M ι H k a s) : Walks M (ItsB M.K d k a) ι H (enumSrcK d s) := by
  have len : (enumSrcK d s).ws.length = s.ws.length := List.length_mapIdx
  refine ⟨fun j ι' E' H' hj x R st => ?_, fun ι' E' H' x R st => ?_, fun j ι' E' H' v H'' hj x R st y => ?_⟩
  all_goals obtain ⟨vs, q1, r1⟩ := h1 ι' E' H' x R st
  · rw [len] at hj
    obtain ⟨v, hv, _⟩ := r1.get (List.getElem?_eq_getElem hj)
    exact ⟨vs, v, q1, hv⟩
  · exact ⟨vs, q1, by rw [len, r1.length]⟩
  · rw [len] at hj
    obtain ⟨T, v1, rfl, hT, rfl, f1⟩ := y
    obtain ⟨u1, hu1, ru1⟩ := r1.get (List.getElem?_eq_getElem hj)
    obtain rfl : u1 = v1 := Option.some.inj (hu1.symm.trans (f1 vs q1))
    obtain ⟨R'', x''⟩ := Rel.newT (ho := .tup [.int (d + (j : Int)), u1]) R hT
    refine ⟨R'', x'', .tup [.int (d + (j : Int)), s.ws[j]], ?_, T, [.int (d + (j : Int)), u1], rfl, SqT.of upd_same, .int _, [u1], rfl, rfl, u1, [], rfl, ru1.ext x'', rfl⟩
    show (s.ws.mapIdx _)[j]? = _
    rw [List.getElem?_mapIdx, List.getElem?_eq_getElem hj]
    rfl
def enumStI (ca cb : Act W) : Act Src := fun σ E => andThen (ca σ E) fun x E1 => andThen (cb σ E1) fun y E2 => match y with
  | .int d => if -two62 ≤ d ∧ d < two62 then match srcSq E2 x with
    | some s => some (.ok (enumSrcK d s) E2)
    | none => none
    else none
  | _ => none
theorem pi_enuSG {elts : List Expr} {kk : Nat} {tpos p pos kp : Pos} {e e2 : Expr} {ca cb : Act W} (aK : X.K = M.K) (hg : Gl X "enumerate") (hm : X.mg "enumerate" = none) (hp : plainArg e = true) (he : PE X e (SE M W' ca)) (he2 : PE X e2 (SE M W' cb)) :
    PI X (.Tuple elts kk tpos) (.Call (.Name "enumerate" p) [e] [⟨some "start", e2, kp⟩] pos) (SI M W' (enumStI ca cb)) :=
  PI.imp (pi_enumS hg hm hp (pa_cons he pa_nil (starEach_cons hp)) (pk_cons he2 pk_nil)) fun σ H R' ⟨ι, E, σE, R, rs, k⟩ => ⟨ι, E, σE, R, rs, (Rs.bind k).imp fun x E1 h1 => fun ι1 H1 v x1 R1 rx => by
    refine ⟨ι1, E1, σE, R1, rs.ext x1, (h1.bind.ext x1).imp fun y E2 h2 => fun ι2 H2 u x2 R2 ry => ?_⟩
    split at h2
    · rename_i d
      split at h2
      · rename_i hd
        split at h2
        · rename_i s1 e1
          obtain ⟨k1, a, l1, rfl, q1, z1⟩ := srcSq_ok R2 (rx.ext x2) e1
          rw [aK]
          exact ⟨k1, a, l1, d, rfl, by rw [show u = .int d from ry], hd.1, hd.2, q1, h2.ok ι2 H2 _ (x1.trans x2) R2 (walks_enumS z1)⟩
        · exact h2.none.elim
      · exact h2.none.elim
    · exact h2.none.elim⟩
end G

set_option Elab.async false
set_option linter.all false
set_option maxRecDepth 100000
set_option maxHeartbeats 4000000
namespace G
open PySem L2 PySem.Spec PyProof.Rows
/-! ### set(xs), xs a list of ints; sorted of it -/
section
variable {P : Program} {w : World} {A : Around} {E : Value → Shared → Prop} {s : Shared}
theorem set_ints {l : Addr} {items : Array Value} {xs : List Int} {Q : Value → Shared → Prop} (hh : A.handled = none) (hl : s.heap.IsList l items) (hn : items.size = xs.length) (room : xs.length + 1 < scanBound)
    (hv : ∀ (i : Nat) (v : Value), items[i]? = some v → ∃ (x : Int) (t : Tok), xs[i]? = some x ∧ v = Value.int x t)
    (hq : ∀ h' tk c, SetR w h' s.heap.objs.size (fun j => decide (j ∈ xs)) c → c ≤ xs.length → (∀ b o, s.heap.get? b = some o → h'.get? b = some o) → Q (.ref s.heap.objs.size) { s with heap := h', toks := tk }) :
    wpAny (model P w) A (call (.type "set") [.ref l]) Q E s := by
  obtain ⟨c, tl, mro⟩ := PySem.F.called_set.mro
  have f1 := PySem.F.called_set.made
  have f2 := PySem.F.called_set.sub
  have f3 := PySem.F.called_set.notType
  have f4 := PySem.F.called_set.canCreate
  have f5 := PySem.F.typeCall_set_1 (.ref l)
  refine wpAny_call (codeAny_of_tree ?_)
  show wpAny _ _ (callAny (.type "set") _) _ _ _
  refine wpAny_pure ⟨Code.quiet_builtin _ (by decide +kernel), codeAny_builtin PySem.F.entry_type_call ?_⟩
  rw [Around.under_plain (weight_type_call_type "set" [.ref l] []) rfl]
  repeat (any_goals (first | assumption | wp_step))
  refine codeAny_mono (code_set_led1 (.ref l) (E := E) (Q₁ := fun obj s₁ => obj = .ref s.heap.objs.size ∧ s₁ = { s with heap := s.heap.push (sob (ledW w)) }) ⟨rfl, rfl⟩) fun r s₁ hr => ?_
  match r, hr with
  | .error e, hr => exact hr
  | .ok .next, hr => exact hr.elim
  | .ok .brk, hr => exact hr.elim
  | .ok .cont, hr => exact hr.elim
  | .ok (.ret obj), ⟨e1, e2⟩ =>
    subst e1
    subst e2
    have hS : (s.heap.push (sob (ledW w))).get? s.heap.objs.size = some (sob (ledW w)) := Heap.get?_push_size _ rfl
    have hT : Shared.TypeIs { s with heap := s.heap.push (sob (ledW w)) } (.ref s.heap.objs.size) "set" := ⟨_, hS, rfl⟩
    have g1 := PySem.F.called_set.init.lookup
    have g2 := PySem.F.called_set.init.bind (.ref s.heap.objs.size)
    repeat (any_goals (first | assumption | wp_step))
    refine codeAny_mono (codeAny_call_builtin (R := wants (fun r s₂ => r = .none ∧ ∃ h' tk c, s₂ = { s with heap := h', toks := tk } ∧ SetR w h' s.heap.objs.size (fun j => decide (j ∈ xs)) c ∧ c ≤ xs.length ∧ ∀ b o, s.heap.get? b = some o → h'.get? b = some o) E) PySem.F.called_set.init.plain PySem.F.entry_set_init (check_set_init_1 hT ?_)) fun r₂ s₂ hr₂ => ?_
    · obtain ⟨ol, hol, hcl, nl, hdl⟩ := hl
      obtain ⟨ocls, odict, odata, oslots⟩ := ol
      simp only at hcl hdl
      subst hcl
      subst hdl
      have hol' : (s.heap.push (sob (ledW w))).get? l = some { cls := .type "list", dict := odict, data := .seq items nl, slots := oslots } := Heap.get?_push_of_some _ hol
      have hl1 : (s.heap.push (sob (ledW w))).IsList l items := ⟨_, hol', rfl, nl, rfl⟩
      have q1 := PySem.F.sub_list_set
      have q2 := PySem.F.sub_list_frozenset
      have q3 : (Value.type "list" == Value.type "dict") = false := by decide
      unfold Builtin.«set.__init__» noKeywords Builtin.Frozenset.updateFrom
      generalize hPI : pyIter = PI
      wp_walk
      subst hPI
      refine wpAny_pyIter_list hl1 (wpAny_bind (wpAny_runValue ?_))
      have small : l < s.heap.objs.size := Heap.lt_size hol
      have ne1 : l ≠ (s.heap.push (sob (ledW w))).objs.size := by
        rw [Heap.size_push]
        exact Nat.ne_of_lt (Nat.lt_succ_of_lt small)
      have out : s.heap.objs.size ∉ [(s.heap.push (sob (ledW w))).objs.size, l] := by
        rw [Heap.size_push]
        intro z
        rcases List.mem_cons.mp z with z | z
        · exact Nat.ne_of_lt (Nat.lt_succ_self _) z
        · have z : s.heap.objs.size = l := by simpa using z
          exact Nat.ne_of_gt small z
      have free : A.in1.in1.in1.handled = none := by simp [hh]
      refine set_update_ints ((Walks.list free _ l ne1 items).toS) s.heap.objs.size out xs hn room hv items.size 0 _ (Nat.sub_zero _) (Nat.zero_le _) ⟨⟨_, Heap.get?_push_size _ rfl, rfl, rfl⟩, hl1.push _⟩ ?_ fun s' c4 mv h3 h4 => ?_
      · exact ⟨0, Nat.le_refl 0, setR_new_at (Heap.get?_push_of_some _ hS)⟩
      · obtain ⟨h', g', d', tk', os'⟩ := s'
        obtain rfl : g' = s.gens := mv.gens
        obtain rfl : d' = s.drawn := mv.drawn
        obtain rfl : os' = s.os := mv.os
        show wpAny _ _ _ _ _ _
        refine wpAny_pure ?_
        show wpAny _ _ (ret Value.none) _ _ _
        refine wpAny_pure ⟨rfl, h', tk', c4, rfl, h4, by rw [hn] at h3; exact h3, fun b o e => mv.heap b o (fun z => ?_) (Heap.get?_push_of_some _ (Heap.get?_push_of_some _ e))⟩
        have hb := Heap.lt_size e
        rcases List.mem_cons.mp z with z | z
        · exact Nat.ne_of_lt hb z
        · have z : b = (s.heap.push (sob (ledW w))).objs.size := by simpa using z
          rw [Heap.size_push] at z
          exact Nat.ne_of_lt (Nat.lt_succ_of_lt hb) z
    · match r₂, hr₂ with
      | .error e, hr₂ => exact hr₂
      | .ok .next, hr₂ => exact hr₂.elim
      | .ok .brk, hr₂ => exact hr₂.elim
      | .ok .cont, hr₂ => exact hr₂.elim
      | .ok (.ret r), ⟨e1, h', tk, c5, e2, hS', hc', hk'⟩ =>
        subst e1
        subst e2
        repeat (any_goals (first | assumption | wp_step))
        exact hq _ _ _ hS' hc' hk'
end
end G

set_option Elab.async false
set_option linter.all false
set_option maxRecDepth 100000
set_option maxHeartbeats 4000000
namespace G
open PySem L2 PySem.Spec PyProof.Rows
section
variable {P : Program} {w : World} {h h' : Heap} {a : Addr} {S : Str → Bool} {n : Nat}
theorem SetX.stay (R : SetX P w h a S n) (k : ∀ o, h.get? a = some o → h'.get? a = some o) : SetX P w h' a S n := by
  obtain ⟨o, es, ep, t, g, more⟩ := R
  exact ⟨o, es, ep, t, k o g, more⟩
theorem SetX.below (R : SetX P w h a S n) : a < h.objs.size := by
  obtain ⟨_, _, _, _, g, _⟩ := R
  exact Heap.lt_size g
theorem SetX.same {S' : Str → Bool} {n' : Nat} (R : SetX P w h a S n) (e : ∀ k, S' k = S k) (en : n' = n) : SetX P w h a S' n' := by
  rw [show S' = S from funext e, en]
  exact R
theorem setX_new (P : Program) (w : World) (h : Heap) : SetX P w (h.push (sob (ledW w))) h.objs.size (fun _ => false) 0 := by
  have l : ledOk w (SetTable.fresh 0 0 (ledW w)) := by
    show _ ∨ ledW w = true
    unfold ledW
    cases w.params.followText "set-order" <;> simp
  have m : ∀ k : Str, (fun _ => false : Str → Bool) k = true ↔ ∃ e ∈ (#[] : Array (Int × Value)).toList, (PySem.strKind P w).is k e.2 = true := fun k => by simp
  have e : ElemsOf (PySem.strKind P w) (#[] : Array (Int × Value)).toList := fun e z => by simp at z
  exact ⟨sob (ledW w), #[], 0, .fresh 0 0 (ledW w), Heap.get?_push_size _ rfl, ⟨rfl, rfl, rfl⟩, rfl, rfl, ⟨e, m, by decide, rfl, List.Pairwise.nil, l⟩⟩
end
section
variable {P : Program} {w : World} {A : Around} {E : Value → Shared → Prop} {s : Shared} {a : Addr} {S : Str → Bool} {n : Nat}
theorem wp_gave {b : Bool} {s₁ : Shared} {Q' : Unit → Shared → Prop} (q : Q' () s₁) : wpAny (model P w) A (match b with | true => rule "set.scan.the-table-gave-way" | false => pure ()) Q' E s₁ := by
  cases b
  · exact wpAny_pure q
  · exact wpAny_rule q
/-- the end of an addition -/
theorem setX_tail {g : Bool → Sem Unit} (hg : ∀ (b : Bool) (s₁ : Shared) (Q' : Unit → Shared → Prop), Q' () s₁ → wpAny (model P w) A (g b) Q' E s₁) {o : Obj} {es : Array (Int × Value)} {ep : Nat} {t : SetTable} (ho : s.heap.get? a = some o) (hx : o.ExactSet) (hd : o.data = .set es ep t)
    {es1 : Array (Int × Value)} {t2 : SetTable} {S' : Str → Bool} (T : TabX P w S' es1 t2) {was : Bool} {R : Option Bool → Shared → Prop} (hR : ∀ h', Heap.SameBut a s.heap h' → SetX P w h' a S' es1.size → R (some true) { s with heap := h' }) :
    wpAny (model P w) A (do
        storeSet a es1 t2
        if (!was && t2.tooFull) = true then do
            g (relayAll t2 es1 (SetTable.grown es1.size)).2.2
            storeSet a (relayAll t2 es1 (SetTable.grown es1.size)).1 (relayAll t2 es1 (SetTable.grown es1.size)).2.1
            pure (some true)
          else pure (some true)) R E s := by
  refine wpAny_bind (wpAny_storeSet_of ho hd ?_ (fits_of_scanBound T.few))
  have at1 := store_at (es' := es1) (t' := t2) ho hd
  have but1 := Heap.SameBut.update s.heap a (Obj.putSet es1 t2)
  split
  · have q1 := relayAll_perm t2 es1 (SetTable.grown es1.size)
    have q2 := relayAll_fits t2 es1 (SetTable.grown es1.size)
    have q3 := relayAll_ris t2 es1 (SetTable.grown es1.size)
    have q4 := relayAll_led t2 es1 (SetTable.grown es1.size)
    generalize relayAll t2 es1 (SetTable.grown es1.size) = Y at q1 q2 q3 q4 ⊢
    obtain ⟨es2, t3, gv⟩ := Y
    dsimp only at q1 q2 q3 q4 ⊢
    have sz : es2.size = es1.size := by
      have := q1.length_eq
      simpa using this
    have lt2 : es2.size < scanBound := by
      rw [sz]
      exact T.few
    refine wpAny_bind (hg _ _ _ (wpAny_bind (wpAny_storeSet_of at1 rfl ?_ (fits_of_scanBound lt2))))
    have at2 := store_at (es' := es2) (t' := t3) at1 rfl
    refine wpAny_pure (hR _ (but1.trans (Heap.SameBut.update _ a _)) ⟨_, es2, _, t3, at2, hx, rfl, sz, ?_⟩)
    exact { el := T.el.perm q1, mem := fun k => (T.mem k).trans ⟨fun ⟨e, z, y⟩ => ⟨e, q1.mem_iff.mpr z, y⟩, fun ⟨e, z, y⟩ => ⟨e, q1.mem_iff.mp z, y⟩⟩, few := lt2, fit := q2, up := q3, led := T.led.imp id fun z => q4.trans z }
  · exact wpAny_pure (hR _ but1 ⟨_, es1, _, t2, at1, hx, rfl, rfl, T⟩)
theorem setX_add {k : Str} {tk : Tok} {Q : Bool → Shared → Prop} (R : SetX P w s.heap a S n) (room : n + 1 < scanBound)
    (hQ : ∀ h', Heap.SameBut a s.heap h' → SetX P w h' a (fun j => S j || decide (j = k)) (if S k = true then n else n + 1) → Q (!S k) { s with heap := h' }) :
    wpAny (model P w) A (setAddHashed a (.str k tk) ((PySem.strKind P w).hash k)) Q E s := by
  obtain ⟨o, es, ep, t, ho, hx, hd, hn, T⟩ := R
  have key : (PySem.strKind P w).is k (.str k tk) = true := strKind_is _ _ _ _
  have scan : (Value.str k tk).scannable = true := rfl
  unfold setAddHashed setAddHashedIn
  refine wpAny_holding (wpAny_bind (wpAny_setState_of ho hd T.fit ?_))
  dsimp only
  rw [byScan_of scan T.few T.el]
  simp only [↓reduceIte]
  unfold setAddByScan
  refine wpAny_bind (wpAny_bind (wpAny_rule (wpAny_bind (wpAny_setScan_of key ho hd T.fit T.el ?_))))
  cases f : List.findIdx? (fun e => (PySem.strKind P w).is k e.2) es.toList with
  | some j =>
    dsimp only
    obtain ⟨lj, pj, _⟩ := List.findIdx?_eq_some_iff_getElem.mp f
    have has : S k = true := (T.mem k).mpr ⟨es.toList[j], List.getElem_mem lj, pj⟩
    refine wpAny_pure (wpAny_pure ?_)
    have m2 : ∀ i, (S i || decide (i = k)) = true ↔ ∃ e ∈ es.toList, (PySem.strKind P w).is i e.2 = true := fun i => by
      rw [Bool.or_eq_true, decide_eq_true_eq, ← T.mem i]
      exact ⟨fun z => z.elim id fun e => e ▸ has, .inl⟩
    have q := hQ s.heap (Heap.SameBut.refl a s.heap) ⟨o, es, ep, t, ho, hx, hd, by rw [if_pos has]; exact hn, ⟨T.el, m2, T.few, T.fit, T.up, T.led⟩⟩
    rw [has] at q
    exact q
  | none =>
    dsimp only
    have hasnt : S k = false := by
      cases q : S k with
      | false => rfl
      | true =>
        obtain ⟨e, ze, pe⟩ := (T.mem k).mp q
        have c := List.findIdx?_eq_none_iff.mp f e ze
        rw [pe] at c
        cases c
    have r1 := layNew_perm t es ((PySem.strKind P w).hash k) (.str k tk)
    have r2 := layNew_fits t es ((PySem.strKind P w).hash k) (.str k tk)
    have r3 := layNew_ris t es ((PySem.strKind P w).hash k) (.str k tk) T.up
    have r4 := layNew_led t es ((PySem.strKind P w).hash k) (.str k tk)
    generalize layNew t es ((PySem.strKind P w).hash k) (.str k tk) = Y at r1 r2 r3 r4 ⊢
    obtain ⟨es1, t1, was, gv⟩ := Y
    dsimp only at r1 r2 r3 r4 ⊢
    rw [Array.toList_push] at r1
    have sz : es1.size = n + 1 := by
      have := r1.length_eq
      simp at this
      omega
    have T1 : TabX P w (fun j => S j || decide (j = k)) es1 t1 := ⟨(T.el.push key scan).perm r1, mem_push_iff key T.mem r1, by rw [sz]; exact room, r2, r3, T.led.imp id fun z => r4.trans z⟩
    have fin : ∀ h', Heap.SameBut a s.heap h' → SetX P w h' a (fun j => S j || decide (j = k)) es1.size → Q true { s with heap := h' } := fun h' sb r => by
      have q := hQ h' sb
      rw [hasnt] at q
      rw [sz] at r
      exact q r
    refine wpAny_bind (wp_gave ?_)
    split
    · refine wpAny_bind ?_
      rw [hashByValue_scannable 8 scan]
      refine wpAny_pure (setX_tail (fun b _ _ q => wp_gave q) ho hx hd (S' := fun j => S j || decide (j = k)) ?_ fun h' sb r => ?_)
      · first | exact T1 | (split <;> first | exact T1 | exact { T1 with fit := SetTable.fits_plain_off T1.fit })
      · dsimp only
        exact wpAny_pure (fin h' sb r)
    · refine wpAny_bind (wpAny_pure ?_)
      simp only [↓reduceIte]
      refine setX_tail (fun b _ _ q => wp_gave q) ho hx hd T1 fun h' sb r => ?_
      dsimp only
      exact wpAny_pure (fin h' sb r)
end
end G

set_option Elab.async false
set_option linter.all false
set_option maxRecDepth 100000
set_option maxHeartbeats 4000000
namespace G
open PySem L2 PySem.Spec PyProof.Rows
section
variable {P : Program} {w : World} {A : Around} {E : Value → Shared → Prop} {s : Shared} {a : Addr} {S : Str → Bool} {n : Nat}
/-- set.add of a text -/
theorem setX_call {k : Str} {tk : Tok} {Q : Value → Shared → Prop} (R : SetX P w s.heap a S n) (room : n + 1 < scanBound)
    (hQ : ∀ h', Heap.SameBut a s.heap h' → SetX P w h' a (fun j => S j || decide (j = k)) (if S k = true then n else n + 1) → Q .none { s with heap := h', toks := s.toks + 1 }) :
    wpAny (model P w) A (call (.builtin "set.add") [.ref a, .str k tk]) Q E s := by
  have ty : Shared.TypeIs s (.ref a) "set" := by
    obtain ⟨o, es, ep, t, ho, hx, hd, hn, T⟩ := R
    exact ⟨o, ho, hx.1⟩
  refine wpAny_call_entry F.slot_set_add ty F.entry_set_add ?_ (F.args_set_add_2 _ _)
  unfold Builtin.«set.add» Builtin.Frozenset.oneOther
  simp only [List.isEmpty_nil, bind_assoc]
  unfold Builtin.Frozenset.addrOf setAdd
  refine wpAny_bind (wpAny_pure ?_)
  try dsimp only
  refine wpAny_bind (wpAny_pure ?_)
  try dsimp only
  refine wpAny_bind ?_
  refine wpAny_holding ?_
  refine wpAny_bind ((PySem.strKind P w).pyHash (k := k) (strKind_is _ _ _ _) ?_)
  refine setX_add (s := { s with toks := s.toks + 1 }) R room fun h' sb r => ?_
  show wpAny _ _ (ret Value.none) _ _ _
  exact wpAny_pure ⟨_, rfl, hQ h' sb r⟩
end
theorem dis_len' (xs : List Str) : (dis xs).length ≤ xs.length := dis_len xs
end G

set_option Elab.async false
set_option linter.all false
set_option maxRecDepth 100000
set_option maxHeartbeats 4000000
namespace G
open PySem L2 PySem.Spec PyProof.Rows
section
variable {P : Program} {w : World} {A : Around} {R : Result → Shared → Prop} {I : Addr} {fp wr : List Addr} {Gg : Array GenState → Array GenState → Prop} {n : Nat} {Pv : Nat → Value → Prop} {St : Nat → Shared → Prop}
theorem dis_add {xs : List Str} {x : Str} : dis (xs ++ [x]) = put1 (dis xs) x := by
  unfold dis
  rw [List.foldl_append]
  rfl
theorem SetL.put {h : Heap} {a : Addr} {xs : List Str} {x : Str} (r : SetX P w h a (fun j => (dis xs).contains j || decide (j = x)) (if (dis xs).contains x = true then (dis xs).length else (dis xs).length + 1)) : SetL P w h a (xs ++ [x]) :=
  r.same (fun k => by rw [dis_add, put1_has]) (by rw [dis_add, put1_len])
theorem growX (W : WalksS P w A.in1 I fp wr Gg n Pv St) (S : Addr) (out : S ∉ fp) (xs : List Str) (hn : xs.length = n) (room : n + 1 < scanBound) (hv : ∀ i v, Pv i v → ∃ x t, xs[i]? = some x ∧ v = .str x t) :
    ∀ (m i : Nat) (s : Shared), i + m = n → St i s → SetL P w s.heap S (xs.take i) →
      (∀ s', Moved (S :: wr) Gg s s' → SetL P w s'.heap S xs → R (.ok (.ret .none)) s') →
      codeAny (model P w) A (.builtin "set.update.loop" ⟨[.ref S, .ref I], []⟩) R s
  | 0, i, s, hi, st, hS, k => by
    have nw : S ∉ wr := fun h => out (W.sub _ h)
    refine codeAny_builtin PyProof.Rows.F.entry_set_update_loop ?_
    rw [Around.under_plainId PyProof.Rows.F.plain_set_update_loop _]
    refine wpAny_bind (W.done s _ _ (by rw [show n = i by omega]; exact st) fun s' mv => wpAny_pure (k s' (mv.mono fun b hb => List.mem_cons_of_mem _ hb) ?_))
    rw [List.take_of_length_le (by omega)] at hS
    exact hS.stay fun o e => mv.heap S o nw e
  | m + 1, i, s, hi, st, hS, k => by
    have nw : S ∉ wr := fun h => out (W.sub _ h)
    refine codeAny_builtin PyProof.Rows.F.entry_set_update_loop ?_
    rw [Around.under_plainId PyProof.Rows.F.plain_set_update_loop _]
    refine wpAny_bind (W.item i s _ _ (by omega) st fun v s1 pv st1 mv => ?_)
    obtain ⟨x, t, hx, rfl⟩ := hv i v pv
    have h1 : SetL P w s1.heap S (xs.take i) := hS.stay fun o e => mv.heap S o nw e
    refine wpAny_bind (wpAny_holding ?_)
    unfold setAdd
    refine wpAny_holding (wpAny_bind ((PySem.strKind P w).pyHash (k := x) (strKind_is _ _ _ _) ?_))
    have few : (dis (xs.take i)).length + 1 < scanBound := by
      have := dis_len (xs.take i)
      have : (xs.take i).length ≤ xs.length := by rw [List.length_take]; omega
      omega
    refine setX_add (s := { s1 with toks := s1.toks + 1 }) h1 few fun h' sb h2 => ?_
    have h3 : SetL P w h' S (xs.take (i + 1)) := by
      rw [List.take_add_one, hx]
      exact SetL.put h2
    refine wpAny_pure ⟨plainId_quiet PyProof.Rows.F.plain_set_update_loop _, growX W S out xs hn room hv m (i + 1) _ (by omega) (W.frame _ s1 _ _ st1 (Nat.le_succ _) fun b hb o e => (sb.2 b fun z => out (z ▸ hb)).trans e) h3 fun s2 mv2 h4 => ?_⟩
    exact k s2 (Moved.trans W.gtrans ((mv.mono fun b hb => List.mem_cons_of_mem _ hb).then_heap (Nat.le_succ _) fun b o hb e => (sb.2 b fun z => hb (z ▸ List.mem_cons_self)).trans e) mv2) h4
end
section
variable {P : Program} {w : World} {A : Around} {E : Value → Shared → Prop} {s : Shared}
theorem set_textsX {l : Addr} {items : Array Value} {xs : List Str} {Q : Value → Shared → Prop} (hh : A.handled = none) (hl : s.heap.IsList l items) (hn : xs.length = items.size) (room : items.size + 1 < scanBound)
    (hv : ∀ (i : Nat) (v : Value), items[i]? = some v → ∃ (x : Str) (t : Tok), xs[i]? = some x ∧ v = Value.str x t)
    (hq : ∀ h' tk, SetL P w h' s.heap.objs.size xs → (∀ b o, s.heap.get? b = some o → h'.get? b = some o) → Q (.ref s.heap.objs.size) { s with heap := h', toks := tk }) :
    wpAny (model P w) A (call (.type "set") [.ref l]) Q E s := by
  obtain ⟨c, tl, mro⟩ := PySem.F.called_set.mro
  have f1 := PySem.F.called_set.made
  have f2 := PySem.F.called_set.sub
  have f3 := PySem.F.called_set.notType
  have f4 := PySem.F.called_set.canCreate
  have f5 := PySem.F.typeCall_set_1 (.ref l)
  refine wpAny_call (codeAny_of_tree ?_)
  show wpAny _ _ (callAny (.type "set") _) _ _ _
  refine wpAny_pure ⟨Code.quiet_builtin _ (by decide +kernel), codeAny_builtin PySem.F.entry_type_call ?_⟩
  rw [Around.under_plain (weight_type_call_type "set" [.ref l] []) rfl]
  repeat (any_goals (first | assumption | wp_step))
  refine codeAny_mono (code_set_led1 (.ref l) (E := E) (Q₁ := fun obj s₁ => obj = .ref s.heap.objs.size ∧ s₁ = { s with heap := s.heap.push (sob (ledW w)) }) ⟨rfl, rfl⟩) fun r s₁ hr => ?_
  match r, hr with
  | .error e, hr => exact hr
  | .ok .next, hr => exact hr.elim
  | .ok .brk, hr => exact hr.elim
  | .ok .cont, hr => exact hr.elim
  | .ok (.ret obj), ⟨e1, e2⟩ =>
    subst e1
    subst e2
    have hS : (s.heap.push (sob (ledW w))).get? s.heap.objs.size = some (sob (ledW w)) := Heap.get?_push_size _ rfl
    have hT : Shared.TypeIs { s with heap := s.heap.push (sob (ledW w)) } (.ref s.heap.objs.size) "set" := ⟨_, hS, rfl⟩
    have g1 := PySem.F.called_set.init.lookup
    have g2 := PySem.F.called_set.init.bind (.ref s.heap.objs.size)
    repeat (any_goals (first | assumption | wp_step))
    refine codeAny_mono (codeAny_call_builtin (R := wants (fun r s₂ => r = .none ∧ ∃ h' tk, s₂ = { s with heap := h', toks := tk } ∧ SetL P w h' s.heap.objs.size xs ∧ ∀ b o, s.heap.get? b = some o → h'.get? b = some o) E) PySem.F.called_set.init.plain PySem.F.entry_set_init (check_set_init_1 hT ?_)) fun r₂ s₂ hr₂ => ?_
    · obtain ⟨ol, hol, hcl, nl, hdl⟩ := hl
      obtain ⟨ocls, odict, odata, oslots⟩ := ol
      simp only at hcl hdl
      subst hcl
      subst hdl
      have hol' : (s.heap.push (sob (ledW w))).get? l = some { cls := .type "list", dict := odict, data := .seq items nl, slots := oslots } := Heap.get?_push_of_some _ hol
      have hl1 : (s.heap.push (sob (ledW w))).IsList l items := ⟨_, hol', rfl, nl, rfl⟩
      have q1 := PySem.F.sub_list_set
      have q2 := PySem.F.sub_list_frozenset
      have q3 : (Value.type "list" == Value.type "dict") = false := by decide
      unfold Builtin.«set.__init__» noKeywords Builtin.Frozenset.updateFrom
      generalize hPI : pyIter = PI
      wp_walk
      subst hPI
      refine wpAny_pyIter_list hl1 (wpAny_bind (wpAny_runValue ?_))
      have small : l < s.heap.objs.size := Heap.lt_size hol
      have ne1 : l ≠ (s.heap.push (sob (ledW w))).objs.size := by
        rw [Heap.size_push]
        exact Nat.ne_of_lt (Nat.lt_succ_of_lt small)
      have out : s.heap.objs.size ∉ [(s.heap.push (sob (ledW w))).objs.size, l] := by
        rw [Heap.size_push]
        intro z
        rcases List.mem_cons.mp z with z | z
        · exact Nat.ne_of_lt (Nat.lt_succ_self _) z
        · have z : s.heap.objs.size = l := by simpa using z
          exact Nat.ne_of_gt small z
      have free : A.in1.in1.in1.handled = none := by simp [hh]
      refine growX ((Walks.list free _ l ne1 items).toS) s.heap.objs.size out xs hn room (fun i v pv => hv i v pv) items.size 0 _ (by omega) ⟨⟨_, Heap.get?_push_size _ rfl, rfl, rfl⟩, hl1.push _⟩ ?_ fun s' mv h3 => ?_
      · exact (setX_new P w s.heap).stay fun o e => Heap.get?_push_of_some _ e
      · obtain ⟨h', g', d', tk', os'⟩ := s'
        obtain rfl : g' = s.gens := mv.gens
        obtain rfl : d' = s.drawn := mv.drawn
        obtain rfl : os' = s.os := mv.os
        show wpAny _ _ _ _ _ _
        refine wpAny_pure ?_
        show wpAny _ _ (ret Value.none) _ _ _
        refine wpAny_pure ⟨rfl, h', tk', rfl, h3, fun b o e => mv.heap b o (fun z => ?_) (Heap.get?_push_of_some _ (Heap.get?_push_of_some _ e))⟩
        have hb := Heap.lt_size e
        rcases List.mem_cons.mp z with z | z
        · exact Nat.ne_of_lt hb z
        · have z : b = (s.heap.push (sob (ledW w))).objs.size := by simpa using z
          rw [Heap.size_push] at z
          exact Nat.ne_of_lt (Nat.lt_succ_of_lt hb) z
    · match r₂, hr₂ with
      | .error e, hr₂ => exact hr₂
      | .ok .next, hr₂ => exact hr₂.elim
      | .ok .brk, hr₂ => exact hr₂.elim
      | .ok .cont, hr₂ => exact hr₂.elim
      | .ok (.ret r), ⟨e1, h', tk, e2, hS', hk'⟩ =>
        subst e1
        subst e2
        repeat (any_goals (first | assumption | wp_step))
        exact hq _ _ hS' hk'
end
end G

set_option Elab.async false
set_option linter.all false
set_option maxRecDepth 100000
set_option maxHeartbeats 4000000
namespace G
open PySem L2 PySem.Spec PyProof.Rows
variable {M : Md} {H H' H1 H2 : Hp} {ι ι' ι1 ι2 : List Addr} {X : Cx} {W' : WX}

/-! ### comprehensions of any number of clauses, lists and dicts -/
inductive Ck where
  | l (elt : Expr) | d (k v : Expr) | s (elt : Expr)
def Ck.ex (c : Ck) (gens : List Comprehension) (scope : Scope) (pos : Pos) : Expr := match c with
  | .l elt => .ListComp elt gens scope pos
  | .d k v => .DictComp k v gens scope pos
  | .s elt => .SetComp elt gens scope pos
def Ck.emit (c : Ck) (acc : Value) (env : Env) : Sem Unit := match c with
  | .l elt => do let _ ← call (.builtin "list.append") [acc, ← eval elt env]
  | .s elt => do
    let v ← eval elt env
    standAt elt.pos
    let _ ← call (.builtin "set.add") [acc, v]
  | .d k v => do
    let kv ← eval k env
    let vv ← holding [kv] (eval v env)
    match acc with
    | .ref at' => do
      standAt { k.pos with endLine := v.pos.endLine, endCol := v.pos.endCol }
      holding [kv, vv] (dictSet at' kv vv)
    | _ => unsupported "internal:dictcomp"
def TurnEq (e : Expr) (j : Nat) (tg : Expr) (ifs : List Expr) (p : Pos) (m : Value → Env → Sem PySem.Fin → Sem PySem.Fin) : Prop := ∀ it acc env, compTurn e j it acc env = (do
  standAt p
  match ← pyNext it with
  | none => pure (.done .next)
  | some v =>
    letOwnedTupleGo tg it v
    assign tg env v
    let ok ← forIn ifs true fun c r => if r = true then do let ok ← isTrue c env (eval c env); pure (ForInStep.yield ok) else pure (ForInStep.yield r)
    if ok = true then m acc env (again (.compLoop e j it acc env)) else again (.compLoop e j it acc env))
theorem turn_last {c : Ck} {gens : List Comprehension} {scope : Scope} {pos : Pos} {j : Nat} {tg iter : Expr} {ifs : List Expr} (hj : gens[j]? = some ⟨tg, iter, ifs, 0⟩) (hn : gens[j + 1]? = none) :
    TurnEq (c.ex gens scope pos) j tg ifs iter.pos (fun acc env k => c.emit acc env >>= fun _ => k) := fun it acc env => by
  cases c
  all_goals
    unfold compTurn Ck.ex Ck.emit
    simp only [hj, hn]
    rfl
def moreM (e : Expr) (j : Nat) (iter1 : Expr) (acc : Value) (env : Env) (k : Sem PySem.Fin) : Sem PySem.Fin := do
  let x ← eval iter1 env
  standAt iter1.pos
  let x ← foldedSetIterable iter1 env x
  let _ ← runOwn (.compStart e (j + 1) (← holding [x] (pyIter x)) acc env) env
  k
theorem turn_more {c : Ck} {gens : List Comprehension} {scope : Scope} {pos : Pos} {j : Nat} {tg iter tg1 iter1 : Expr} {ifs ifs1 : List Expr} (hj : gens[j]? = some ⟨tg, iter, ifs, 0⟩) (hn : gens[j + 1]? = some ⟨tg1, iter1, ifs1, 0⟩) :
    TurnEq (c.ex gens scope pos) j tg ifs iter.pos (fun acc env k => moreM (c.ex gens scope pos) j iter1 acc env k) := fun it acc env => by
  cases c
  all_goals
    unfold compTurn Ck.ex moreM
    simp only [hj, hn]
    rfl
abbrev TH := L2.St → Hp → (Hp → Prop) → Prop
/-- what is done in a turn, ahead of the rest k; the slots vs may be written -/
structure PAct (Y : Cx) (vs : List Nat) (m : Sem PySem.Fin → Sem PySem.Fin) (t : TH) : Prop where
  run : ∀ (pins : List (Addr × Obj)) (s : Shared) (σ : L2.St) (H : Hp) (Q : Hp → Prop) (k : Sem PySem.Fin) (Qk : PySem.Fin → Shared → Prop) (E : Value → Shared → Prop), Inv Y pins σ H s → t σ H Q →
    (∀ s' H' σ', Inv Y pins σ' H' s' → L2.wipe σ' vs = L2.wipe σ vs → Q H' → wpAny (model Y.prog Y.w) Y.A k Qk E s') → wpAny (model Y.prog Y.w) Y.A (m k) Qk E s
theorem fp_stays {Y : Cx} {pins : List (Addr × Obj)} {b : Addr} (f : FpOk Y pins H b) (h : H' b = none) : FpOk Y pins H' b := ⟨h, f.2⟩
/-- the loop of a clause -/
theorem loop_gen {Y : Cx} {c : Ck} {gens : List Comprehension} {scope : Scope} {pos p : Pos} {pins : List (Addr × Obj)} {σ : L2.St} {vs vd : List Nat} {s : Shared} {j : Nat} {tg : Expr} {ifs : List Expr} {m : Value → Env → Sem PySem.Fin → Sem PySem.Fin} {J : It} {fp : List Addr} {it : Addr} {tn : Nat → Heap → Prop}
    {acc : Value} {g : TG} {tt : TT} {body : TH} {Wm : Nat → Nat → Hp → Prop} {Out : Hp → Prop} {R : Result → Shared → Prop} (hx : Y.xe = fun _ _ => False) (hc : Y.calm = true) (te : TurnEq (c.ex gens scope pos) j tg ifs p m) (T : Turn Y.prog Y.w Y.K tg J fp it tn) (pg : PG Y tg g) (pt : PTs Y ifs tt) (pm : PAct Y vd (m acc Y.env) body) (sub : ∀ l ∈ vd, l ∈ vs)
    (I : Inv Y pins (L2.wipe σ vs) H s) (st : tn 0 s.heap) (hf : ∀ b ∈ fp, FpOk Y pins H b) (m0 : Nat) (w0 : Wm 0 m0 H)
    (turn : ∀ i n H, Wm i n H → (J.stop i H ∧ Out H) ∨ (J.go i H ∧ ∃ Nx : Hp → Prop, (∀ H', Nx H' → ∃ n', n' < n ∧ Wm (i + 1) n' H') ∧ ∀ x H', J.yld i H x H' → g x (L2.wipe σ vs) H' fun σ2 H2 => L2.wipe σ2 vs = L2.wipe σ vs ∧ tt σ2 H2 fun b H3 => if b = true then body σ2 H3 Nx else Nx H3))
    (hR : ∀ s' H', Inv Y pins (L2.wipe σ vs) H' s' → Out H' → R (.ok .next) s') : codeAny (model Y.prog Y.w) Y.A (.compLoop (c.ex gens scope pos) j (.ref it) acc Y.env) R s := by
  have goal : ∀ (hq : (Code.compLoop (c.ex gens scope pos) j (.ref it) acc Y.env).quiet = true) (hu : Y.A.under (.compLoop (c.ex gens scope pos) j (.ref it) acc Y.env) = Y.A)
      (hd : ∀ {Q : PySem.Fin → Shared → Prop} {E : Value → Shared → Prop} {s : Shared}, wpAny (model Y.prog Y.w) Y.A (compTurn (c.ex gens scope pos) j (.ref it) acc Y.env) Q (notedBy (model Y.prog Y.w) Y.A Y.env E) s → wpAny (model Y.prog Y.w) Y.A ((model Y.prog Y.w).den (.compLoop (c.ex gens scope pos) j (.ref it) acc Y.env)) Q E s),
      codeAny (model Y.prog Y.w) Y.A (.compLoop (c.ex gens scope pos) j (.ref it) acc Y.env) R s := fun hq hu hd => by
    refine codeAny_loop hq (fun n s' => ∃ i H', Inv Y pins (L2.wipe σ vs) H' s' ∧ tn i s'.heap ∧ (∀ b ∈ fp, FpOk Y pins H' b) ∧ Wm i n H') (fun n s1 h1 => ?_) m0 ⟨0, H, I, st, hf, w0⟩
    obtain ⟨i, H1, I1, st1, f1, w1⟩ := h1
    rw [hu]
    refine hd ?_
    rw [te]
    refine wpAny_bind (wpAny_standAt (wpAny_bind ?_))
    have up : ∀ {α : Type} {t : Sem α} {Q Q' : α → Shared → Prop} {E' : Value → Shared → Prop} {s : Shared}, wpAny (model Y.prog Y.w) Y.A t Q Y.xe s → (∀ a s, Q a s → Q' a s) → wpAny (model Y.prog Y.w) Y.A t Q' E' s := fun h k => by
      rw [hx] at h
      exact thnF h k
    rcases turn i n H1 w1 with ⟨stop, out⟩ | ⟨go, Nx, hNx, step⟩
    · refine thnF (T.done Y rfl rfl rfl hc i pins s1 _ H1 (fun _ _ => False) I1 f1 st1 stop) fun r s2 ⟨hr, I2⟩ => ?_
      subst hr
      exact wpAny_pure (hR s2 H1 I2 out)
    · refine thnF (T.item Y rfl rfl rfl hc i pins s1 _ H1 (fun _ _ => False) I1 f1 st1 go) fun r s2 ⟨u, hr, h2⟩ => ?_
      subst hr
      refine wpAny_bind (thnF h2 fun _ s3 ⟨x, H3, I3, r3, y3, st3, n3⟩ => ?_)
      have f3 : ∀ b ∈ fp, FpOk Y pins H3 b := fun b hb => fp_stays (f1 b hb) (n3 b hb)
      have I3' := I3.pinned f3 (T.obj _ _ st3)
      refine wpAny_bind (up (pg.run _ s3 _ H3 x u _ I3' r3 (step x H3 y3)) fun _ s4 ⟨σ4, H4, I4, hw4, q4⟩ => ?_)
      refine wpAny_bind (up (pt.run _ s4 σ4 H4 _ I4 q4) fun b s5 ⟨H5, I5, q5⟩ => ?_)
      have fin : ∀ {s' : Shared} {H' : Hp} {σ' : L2.St}, Inv Y (pins ++ pinsAt fp s3.heap) σ' H' s' → L2.wipe σ' vd = L2.wipe σ4 vd → Nx H' → ∃ m', m' < n ∧ ∃ i H', Inv Y pins (L2.wipe σ vs) H' s' ∧ tn i s'.heap ∧ (∀ b ∈ fp, FpOk Y pins H' b) ∧ Wm i m' H' := fun {s' H' σ'} I' hw' nx => by
        obtain ⟨m', hm, w'⟩ := hNx H' nx
        have pin' : ∀ b ∈ fp, ∀ o, s3.heap.get? b = some o → s'.heap.get? b = some o ∧ H' b = none := fun b hb o e => by
          have z := I'.pin (b, o) (List.mem_append_right _ (List.mem_append_right _ (mem_pinsAt hb e)))
          exact ⟨z.1, z.2.1⟩
        have hlen : (L2.wipe σ vs).length = σ'.length := by rw [← hw4, L2.wipe_length, ← L2.wipe_length σ4 vd, ← hw', L2.wipe_length]
        refine ⟨m', hm, i + 1, H', I'.unpinned.weak hlen (fun l v e => by
          rw [← hw4] at e
          obtain ⟨e1, nl⟩ := L2.wipe_some e
          have nd : l ∉ vd := fun h => nl (sub l h)
          rw [← L2.wipe_out nd, ← hw', L2.wipe_out nd] at e1
          exact e1), T.keep _ _ _ st3 fun b hb o e => (pin' b hb o e).1, fun b hb => ?_, w'⟩
        obtain ⟨o, e, _⟩ := T.obj _ _ st3 b hb
        exact fp_stays (f1 b hb) (pin' b hb o e).2
      cases b with
      | false =>
        rw [if_neg Bool.false_ne_true] at q5 ⊢
        exact wpAny_pure ⟨rfl, fin I5 rfl q5⟩
      | true =>
        rw [if_pos rfl] at q5 ⊢
        exact pm.run _ s5 σ4 H5 Nx _ _ _ I5 q5 fun s' H' σ' I' hw' nx => wpAny_pure ⟨rfl, fin I' hw' nx⟩
  cases c with
  | l elt => exact goal rfl rfl fun h => wpAny_noted h
  | d k v => exact goal rfl rfl fun h => wpAny_noted h
  | s elt => exact goal rfl rfl fun h => wpAny_noted h
/-- a clause begins -/
theorem start_gen {P : Program} {w : World} {A : Around} {c : Ck} {gens : List Comprehension} {scope : Scope} {pos : Pos} {j : Nat} {tg iter : Expr} {ifs : List Expr} {it acc : Value} {env : Env} {R : Result → Shared → Prop} {s : Shared} (hj : gens[j]? = some ⟨tg, iter, ifs, 0⟩)
    (h0 : codeAny (model P w) A (.compLoop (c.ex gens scope pos) j it acc env) R s) (h : wpAny (model P w) A (pyIter it) (fun it' s' => codeAny (model P w) A (.compLoop (c.ex gens scope pos) j it' acc env) R s') (notedBy (model P w) A env fun x s' => R (.error x) s') s) :
    codeAny (model P w) A (.compStart (c.ex gens scope pos) j it acc env) R s := by
  have goal : ∀ (hq : ∀ it', (Code.compLoop (c.ex gens scope pos) j it' acc env).quiet = true) (hcl : clausesOf (c.ex gens scope pos) = gens) (hu : A.under (.compStart (c.ex gens scope pos) j it acc env) = A)
      (hd : ∀ {Q : PySem.Fin → Shared → Prop} {E : Value → Shared → Prop} {s : Shared}, wpAny (model P w) A (compStart (c.ex gens scope pos) j it acc env) Q (notedBy (model P w) A env E) s → wpAny (model P w) A ((model P w).den (.compStart (c.ex gens scope pos) j it acc env)) Q E s),
      codeAny (model P w) A (.compStart (c.ex gens scope pos) j it acc env) R s := fun hq hcl hu hd => by
    refine codeAny_of_tree ?_
    rw [hu]
    refine hd ?_
    unfold compStart
    simp only [hcl, hj]
    show wpAny _ _ (ask >>= _) _ _ s
    refine wpAny_bind (wpAny_askSetting (wpAny_ite ?_))
    split
    · exact wpAny_pure ⟨hq _, h0⟩
    · refine wpAny_bind (wpAny_rule (wpAny_bind (wpAny_standAt (wpAny_bind (wpAny_mono h (fun it' s' h' => wpAny_pure ⟨hq _, h'⟩) fun _ _ x => x)))))
  cases c with
  | l elt => exact goal (fun _ => rfl) rfl rfl fun h => wpAny_notedAt h
  | d k v => exact goal (fun _ => rfl) rfl rfl fun h => wpAny_notedAt h
  | s elt => exact goal (fun _ => rfl) rfl rfl fun h => wpAny_notedAt h
/-- a further clause -/
def nestT (wi : TI) (g : TG) (tt : TT) (body : TH) (vs : List Nat) : TH := fun σ H Q => wi σ H fun J H1 => ∃ Wm : Nat → Nat → Hp → Prop, (∃ m, Wm 0 m H1) ∧ ∀ i n H, Wm i n H → (J.stop i H ∧ Q H) ∨ (J.go i H ∧ ∃ Nx : Hp → Prop, (∀ H', Nx H' → ∃ n', n' < n ∧ Wm (i + 1) n' H') ∧
  ∀ x H', J.yld i H x H' → g x (L2.wipe σ vs) H' fun σ2 H2 => L2.wipe σ2 vs = L2.wipe σ vs ∧ tt σ2 H2 fun b H3 => if b = true then body σ2 H3 Nx else Nx H3)
theorem wipe_sub {σ : L2.St} {vs : List Nat} : L2.wipe (L2.wipe σ vs) vs = L2.wipe σ vs := wipe_wipe
theorem act_more {Y : Cx} {c : Ck} {gens : List Comprehension} {scope : Scope} {pos p : Pos} {vs vd : List Nat} {j : Nat} {tg iter : Expr} {ifs : List Expr} {m : Value → Env → Sem PySem.Fin → Sem PySem.Fin} {acc : Value} {wi : TI} {g : TG} {tt : TT} {body : TH} (hx : Y.xe = fun _ _ => False) (hc : Y.calm = true)
    (hj : gens[j + 1]? = some ⟨tg, iter, ifs, 0⟩) (te : TurnEq (c.ex gens scope pos) (j + 1) tg ifs p m) (hi : PI Y tg iter wi) (pg : PG Y tg g) (pt : PTs Y ifs tt) (pm : PAct Y vd (m acc Y.env) body) (sub : ∀ l ∈ vd, l ∈ vs) (hs : ∀ x, foldedSetIterable iter Y.env x = pure x) :
    PAct Y vs (moreM (c.ex gens scope pos) j iter acc Y.env) (nestT wi g tt body vs) := ⟨fun pins s σ H Q k Qk E I h hk => by
  have up : ∀ {α : Type} {t : Sem α} {Q Q' : α → Shared → Prop} {E' : Value → Shared → Prop} {s : Shared}, wpAny (model Y.prog Y.w) Y.A t Q Y.xe s → (∀ a s, Q a s → Q' a s) → wpAny (model Y.prog Y.w) Y.A t Q' E' s := fun h k => by
    rw [hx] at h
    exact thnF h k
  unfold moreM
  refine wpAny_bind (up (hi.run pins s σ H _ I h) fun x s1 h1 => wpAny_bind (wpAny_standAt (wpAny_bind (wpAny_of_eq (hs x) (wpAny_bind (wpAny_holding (up h1 fun itv s2 h2 => ?_)))))))
  obtain ⟨it, fp, tn, J, H2, e, I2, T, st2, f2, Wm, ⟨m0, w0⟩, turn⟩ := h2
  subst e
  have I3 : Inv Y pins (L2.wipe σ vs) H2 s2 := I2.weak (L2.wipe_length _ _) fun l v e => (L2.wipe_some e).1
  have loop : codeAny (model Y.prog Y.w) Y.A (.compLoop (c.ex gens scope pos) (j + 1) (.ref it) acc Y.env) (fun r s' => match r with
      | .ok _ => ∃ H', Inv Y pins (L2.wipe σ vs) H' s' ∧ Q H'
      | .error _ => False) s2 := loop_gen hx hc te T pg pt pm sub I3 st2 f2 m0 w0 turn fun s' H' I' q => ⟨H', I', q⟩
  refine wpAny_bind (wpAny_runOwn ?_)
  rw [Around.mark_none]
  refine codeAny_mono (start_gen hj loop (T.self Y.A 0 _ _ _ st2 loop)) fun r s' hr => ?_
  cases r with
  | error e => exact hr.elim
  | ok f =>
    obtain ⟨H', I', q⟩ := hr
    first
      | exact hk s' H' _ I' wipe_wipe q
      | exact wpAny_pure (hk s' H' _ I' wipe_wipe q)
      | exact wpAny_bind (wpAny_pure (hk s' H' _ I' wipe_wipe q))⟩
end G

set_option Elab.async false
set_option linter.all false
set_option maxRecDepth 100000
set_option maxHeartbeats 4000000
namespace G
open PySem L2 PySem.Spec PyProof.Rows
variable {M : Md} {H H' H1 H2 : Hp} {ι ι' ι1 ι2 : List Addr} {X : Cx} {W' : WX}

def Ck.new : Ck → Sem Value
  | .l _ => newList []
  | .d _ _ => newDict
  | .s _ => newSet (.type "set")
def Ck.ho (P : Program) (w : World) : Ck → Addr → HO
  | .l _, _ => .lst []
  | .d _ _, _ => .dK []
  | .s _, D => SetLO P w D []
def Ck.ob : Ck → O
  | .l _ => .lst []
  | .d _ _ => .dK []
  | .s _ => .txs []
def Ck.obj (w : World) : Ck → Obj
  | .l _ => { cls := .type "list", data := .seq ([] : List Value).toArray }
  | .d _ _ => { cls := .type "dict", data := .dict #[] }
  | .s _ => sob (ledW w)
theorem Ck.new_ok {c : Ck} {P : Program} {w : World} {A : Around} {E Q : Value → Shared → Prop} {s : Shared} (h : Q (.ref s.heap.objs.size) { s with heap := s.heap.push (c.obj w) }) : wpAny (model P w) A c.new Q E s := by
  cases c with
  | l e => exact wpAny_newObj_type h (by show 0 ≤ sizeLine; decide)
  | d k v => exact wpAny_newObj_type h
  | s e => exact PpSet.newSet_ok h
theorem Ck.ok {c : Ck} {P : Program} {w : World} (h : Heap) (hb : sysModules < h.objs.size) : ObjOk P w H (h.push (c.obj w)) h.objs.size (c.ho P w h.objs.size) := by
  cases c with
  | l e => exact ⟨Nat.zero_le _, [], 0, .nil, Heap.get?_push_size _ rfl⟩
  | d k v => exact dk_empty h hb
  | s e => exact ⟨setX_new P w h, ⟨_, Heap.get?_push_size _ rfl⟩, fun h1 h2 p k => SetX.stay p k⟩
/-- a comprehension, D what comes of it -/
def tCk (P : Program) (w : World) (c : Ck) (wi : TI) (g : TG) (tt : TT) (body : Addr → TH) (vs : List Nat) : TE := fun σ H Q => wi σ H fun J H1 => ∀ D, H1 D = none → ∃ Wm : Nat → Nat → Hp → Prop, (∃ m, Wm 0 m (upd H1 D (c.ho P w D))) ∧ ∀ i n H, Wm i n H → (J.stop i H ∧ Q (.ref D) H) ∨ (J.go i H ∧ ∃ Nx : Hp → Prop, (∀ H', Nx H' → ∃ n', n' < n ∧ Wm (i + 1) n' H') ∧
  ∀ x H', J.yld i H x H' → g x (L2.wipe σ vs) H' fun σ2 H2 => L2.wipe σ2 vs = L2.wipe σ vs ∧ tt σ2 H2 fun b H3 => if b = true then body D σ2 H3 Nx else Nx H3)
theorem core_gen {c : Ck} {pins : List (Addr × Obj)} {s : Shared} {σ : L2.St} {Q : VK} {tg iter : Expr} {ifs : List Expr} {rest : List Comprehension} {scope : Scope} {own : List (Str × Nat)} {vd : List Nat} {pos pos' p : Pos} {wi : TI} {g : TG} {tt : TT} {body : Addr → TH} {m : Value → Env → Sem PySem.Fin → Sem PySem.Fin} {use : Option (Value → Sem Unit)} {Qf : Value → Shared → Prop}
    (hc : X.calm = true) (hN : X.N.Nodup) (I : Inv X pins σ H s) (hi : PI X tg iter wi) (ok : BlkOk X.N X.env.scope scope own) (sub : ∀ l ∈ vd, l ∈ own.map (·.2))
    (te : TurnEq (c.ex (⟨tg, iter, ifs, 0⟩ :: rest) scope pos) 0 tg ifs p m)
    (hg : Blks X scope fun Y => PG Y tg g) (ht : Blks X scope fun Y => PTs Y ifs tt) (hm : ∀ D, Blks X scope fun Y => PAct Y vd (m (.ref D) Y.env) (body D)) (hs : ∀ x, foldedSetIterable iter X.env x = pure x)
    (h : tCk X.prog X.w c wi g tt body (own.map (·.2)) σ H Q)
    (hRR : ∀ D C s' m H', Inv X pins σ H' s' → Q (.ref D) H' → s'.heap.Ns C m → FpOk X pins H' C → compPost (model X.prog X.w) X.A X.xe use Qf (.ref D) C (.ok .next) s') :
    wpAny (model X.prog X.w) X.A (comprehension (c.ex (⟨tg, iter, ifs, 0⟩ :: rest) scope pos) scope X.env pos' c.new false (eval iter X.env) use) Qf X.xe s := by
  have hfree : ∀ y ∈ scope.names, y.2 = .free → ∃ z, X.env.cells.lookup y.1 = some z := fun y hy e => (ok.free y hy e).elim (fun k => I.ok.has _ (.inl k)) (fun k => I.ok.has _ (.inr k))
  have hcl : clausesOf (c.ex (⟨tg, iter, ifs, 0⟩ :: rest) scope pos) = ⟨tg, iter, ifs, 0⟩ :: rest := by cases c <;> rfl
  refine wpAny_comprehension_free (use := use) hcl hs (closure_ok hfree) ok.kind (fun y hy e => by rw [ok.uniq y hy, e]) (thn (hi.run pins s σ H _ I h) fun xv s1 h1 => thn h1 fun itv s2 h2 => ?_)
  obtain ⟨it, fp, tn, J, H2, e, I2, T, st2, f2, q⟩ := h2
  subst e
  refine c.new_ok (newEnv_comp ?_)
  generalize hD : s2.heap.objs.size = D
  have hDn : H2 D = none := I2.hok.fresh (Nat.le_of_eq hD)
  obtain ⟨Wm, ⟨m0, w0⟩, turn⟩ := q D hDn
  generalize hs3 : ({ s2 with heap := s2.heap.push (c.obj X.w) } : Shared) = s3
  have h3 : s3.heap = s2.heap.push (c.obj X.w) := by rw [← hs3]
  have I3 : Inv X pins σ (upd H2 D (c.ho X.prog X.w D)) s3 := by
    rw [← hs3]
    refine I2.laid (t' := s2.toks) (fun b o e => Heap.get?_push_of_some _ e) (Nat.le_of_eq hD) ?_
    rw [← hD]
    exact Ck.ok s2.heap I2.big
  have f3 : ∀ b ∈ fp, FpOk X pins (upd H2 D (c.ho X.prog X.w D)) b ∧ b < s3.heap.objs.size := fun b hb => by
    obtain ⟨o, e, _⟩ := T.obj _ _ st2 b hb
    have lt := Heap.lt_size e
    refine ⟨fp_stays (f2 b hb) ?_, by rw [h3, Heap.size_push]; exact Nat.lt_succ_of_lt lt⟩
    rw [upd_ne (by rw [← hD]; exact Nat.ne_of_lt lt)]
    exact (f2 b hb).1
  have st3 : tn 0 s3.heap := T.keep _ _ _ st2 fun b _ o e => by rw [h3]; exact Heap.get?_push_of_some _ e
  have I4 := block_start I3 ok hN f3
  generalize hcells : cellsFrom (s3.heap.objs.size + 1) scope.names (cloFrom X.env.cells scope.names []) = cl at I4
  have pg := hg s3 (upd H2 D (c.ho X.prog X.w D)) s3.heap.objs.size cl fp
  have pt := ht s3 (upd H2 D (c.ho X.prog X.w D)) s3.heap.objs.size cl fp
  have pm := hm D s3 (upd H2 D (c.ho X.prog X.w D)) s3.heap.objs.size cl fp
  show codeAny _ _ (.compStart (c.ex (⟨tg, iter, ifs, 0⟩ :: rest) scope pos) 0 (.ref it) (.ref D) (compEnvC scope cl s3.heap.objs.size X.env)) (compPost (model X.prog X.w) X.A X.xe use Qf (.ref D) s3.heap.objs.size) { s3 with heap := pushCells (s3.heap.push { cls := .type "dict", data := .dict #[] }) scope.names }
  generalize hH3 : upd H2 D (c.ho X.prog X.w D) = H3 at I3 I4 pg pt pm w0 f3
  generalize hs4 : ({ s3 with heap := pushCells (s3.heap.push { cls := .type "dict", data := .dict #[] }) scope.names } : Shared) = s4 at I4 ⊢
  have st4 : tn 0 s4.heap := T.keep _ _ _ st3 fun b _ o e => by rw [← hs4]; exact pushCells_keeps _ _ _ _ (Heap.get?_push_of_some _ e)
  have f4 : ∀ b ∈ fp, FpOk (X.blk s3 H3 scope (compEnvC scope cl s3.heap.objs.size X.env) fp) [] H3 b := fun b hb =>
    ⟨(f3 b hb).1.1, (I4.ok.exf b hb).1, I4.ok.exfs b hb, .inl hb, fun x z e => (I4.ok.exf b hb).2 x z e, fun p hp => absurd (show p ∈ ([] : List (Addr × Obj)) ++ [] from hp) (by simp)⟩
  have loop : codeAny (model X.prog X.w) X.A (.compLoop (c.ex (⟨tg, iter, ifs, 0⟩ :: rest) scope pos) 0 (.ref it) (.ref D) (compEnvC scope cl s3.heap.objs.size X.env)) (compPost (model X.prog X.w) X.A X.xe use Qf (.ref D) s3.heap.objs.size) s4 :=
    loop_gen (Y := X.blk s3 H3 scope (compEnvC scope cl s3.heap.objs.size X.env) fp) (Out := Q (.ref D)) rfl hc te T pg pt pm sub I4 st4 f4 m0 w0 turn fun s6 H6 I6 out => by
      have I7 : Inv X pins σ H6 s6 := I3.call' (ch := fp) I6.os I6.base I6.hok I6.bare fun b hb => ⟨(f3 b hb).1.2.2.2.1, (f3 b hb).1.2.1, (f3 b hb).1.2.2.2.2.1, (f3 b hb).1.2.2.2.2.2⟩
      have nC : H6 s3.heap.objs.size = none := I6.free
      obtain ⟨mm, hn, _⟩ := I6.loc
      exact hRR D s3.heap.objs.size s6 mm H6 I7 out hn (I3.fpOk (Nat.le_refl _) nC)
  exact start_gen rfl loop (T.self X.A 0 _ _ _ st4 loop)
/-- as a value -/
theorem pe_ck {c : Ck} {tg iter : Expr} {ifs : List Expr} {rest : List Comprehension} {scope : Scope} {own : List (Str × Nat)} {vd : List Nat} {pos p : Pos} {wi : TI} {g : TG} {tt : TT} {body : Addr → TH} {m : Value → Env → Sem PySem.Fin → Sem PySem.Fin} (hc : X.calm = true) (hN : X.N.Nodup) (hi : PI X tg iter wi) (ok : BlkOk X.N X.env.scope scope own) (sub : ∀ l ∈ vd, l ∈ own.map (·.2))
    (te : TurnEq (c.ex (⟨tg, iter, ifs, 0⟩ :: rest) scope pos) 0 tg ifs p m) (hg : Blks X scope fun Y => PG Y tg g) (ht : Blks X scope fun Y => PTs Y ifs tt) (hm : ∀ D, Blks X scope fun Y => PAct Y vd (m (.ref D) Y.env) (body D)) (hs : ∀ x, foldedSetIterable iter X.env x = pure x) :
    PE X (c.ex (⟨tg, iter, ifs, 0⟩ :: rest) scope pos) (tCk X.prog X.w c wi g tt body (own.map (·.2))) := by
  have hRR : ∀ {pins σ Q} (D C : Addr) (s' : Shared) (m : Str → Option Value) (H' : Hp), Inv X pins σ H' s' → Q (.ref D) H' → s'.heap.Ns C m → FpOk X pins H' C → compPost (model X.prog X.w) X.A X.xe none (EP X pins σ Q) (.ref D) C (.ok .next) s' := fun {pins σ Q} D C s' m H' I' q hn f => ⟨m, hn, fun h'' sb => by
    obtain ⟨f0, f1, f2, f3, f4, f5⟩ := f
    exact ⟨.ref D, H', I'.turned (t' := s'.toks) (fun b o hb e => (sb.2 b hb).trans e) f0 f1 f3 f4 f5, rfl, q⟩⟩
  cases c with
  | l elt => exact ⟨fun pins s σ H Q I h => by
      show wpAny _ _ (eval (.ListComp elt (⟨tg, iter, ifs, 0⟩ :: rest) scope pos) X.env) _ _ s
      rw [arm_eval_ListComp]
      exact core_gen hc hN I hi ok sub te hg ht hm hs h hRR⟩
  | d k v => exact ⟨fun pins s σ H Q I h => by
      show wpAny _ _ (eval (.DictComp k v (⟨tg, iter, ifs, 0⟩ :: rest) scope pos) X.env) _ _ s
      rw [arm_eval_DictComp]
      exact core_gen hc hN I hi ok sub te hg ht hm hs h hRR⟩
  | s elt => exact ⟨fun pins s σ H Q I h => by
      show wpAny _ _ (eval (.SetComp elt (⟨tg, iter, ifs, 0⟩ :: rest) scope pos) X.env) _ _ s
      rw [arm_eval_SetComp]
      exact core_gen hc hN I hi ok sub te hg ht hm hs h hRR⟩
/-- given a name at once -/
theorem ps_setCk {c : Ck} {i : Nat} {y : Str} {py spos : Pos} {tg iter : Expr} {ifs : List Expr} {rest : List Comprehension} {scope : Scope} {own : List (Str × Nat)} {vd : List Nat} {pos p : Pos} {wi : TI} {g : TG} {tt : TT} {body : Addr → TH} {m : Value → Env → Sem PySem.Fin → Sem PySem.Fin} (hc : X.calm = true) (hN : X.N.Nodup) (hy : X.N[i]? = some y) (hyl : X.env.scope.names.lookup y = some .local)
    (hsw : swapsWith (c.ex (⟨tg, iter, ifs, 0⟩ :: rest) scope pos) (some (.Name y py)) spos.line X.env = pure true) (hi : PI X tg iter wi) (ok : BlkOk X.N X.env.scope scope own) (sub : ∀ l ∈ vd, l ∈ own.map (·.2))
    (te : TurnEq (c.ex (⟨tg, iter, ifs, 0⟩ :: rest) scope pos) 0 tg ifs p m) (hg : Blks X scope fun Y => PG Y tg g) (ht : Blks X scope fun Y => PTs Y ifs tt) (hm : ∀ D, Blks X scope fun Y => PAct Y vd (m (.ref D) Y.env) (body D)) (hs : ∀ x, foldedSetIterable iter X.env x = pure x) :
    PS X (.Assign [.Name y py] (c.ex (⟨tg, iter, ifs, 0⟩ :: rest) scope pos) spos) (tAsg (tCk X.prog X.w c wi g tt body (own.map (·.2))) (gName i)) := by
  refine ⟨fun pins s σ H D I h => ?_⟩
  rw [exec_Assign_Name_used _ _ _ _ hsw]
  refine wpAny_bind (wpAny_standAt (wpAny_bind ?_))
  have h : tCk X.prog X.w c wi g tt body (own.map (·.2)) σ H (fun x H1 => gName i x σ H1 D.nx) := h
  have go := fun hRR => core_gen (Qf := fun _ s' => SP X pins D .next s') (use := some (assign (.Name y py) X.env)) (pos' := iter.pos) hc hN I hi ok sub te hg ht hm hs h hRR
  have fin : wpAny (model X.prog X.w) X.A (comprehension (c.ex (⟨tg, iter, ifs, 0⟩ :: rest) scope pos) scope X.env iter.pos c.new false (eval iter X.env) (some (assign (.Name y py) X.env))) (fun _ s' => SP X pins D .next s') X.xe s := go fun L C s' m H' I' q hn f => by
    show wpAny _ _ (assign (.Name y py) X.env (.ref L)) _ _ _
    refine wpAny_assign_Name (store_ok2 (v := V.ref L) I' hN hy (.inl hyl) rfl (fun s2 I2 ⟨a, sb, ha⟩ => ?_) (.inr hyl))
    obtain ⟨f0, f1, f2, f3, f4, f5⟩ := f
    have ne : C ≠ a := by
      rcases ha with z | z
      · rw [z]; exact f1
      · exact fun e => f4 y a z e.symm
    exact ⟨m, hn.sameBut sb ne, fun h3 sb3 => ⟨_, H', I2.turned (t' := s2.toks) (fun b o hb e => (sb3.2 b hb).trans e) f0 f1 f3 f4 f5, q⟩⟩
  cases c with
  | l elt => exact wpAny_bind (thn fin fun _ s' hq => wpAny_pure (wpAny_pure hq))
  | d k v => exact wpAny_bind (thn fin fun _ s' hq => wpAny_pure (wpAny_pure hq))
  | s elt => exact wpAny_bind (thn fin fun _ s' hq => wpAny_pure (wpAny_pure hq))
end G

set_option Elab.async false
set_option linter.all false
set_option maxRecDepth 100000
set_option maxHeartbeats 4000000
namespace G
open PySem L2 PySem.Spec PyProof.Rows
variable {M : Md} {H H' H1 H2 : Hp} {ι ι' ι1 ι2 : List Addr} {X : Cx} {W' : WX}

/-! ### a pair comes into a comprehension's dict -/
def wDset (n : Nat) (y z : W) (E : Hh) : Option Hh := match wSetN (.ref n) y z E with
  | some E' => some E'
  | none => match dKOf E (.ref n) with
    | some (_, kvs) => match keyOf y with
      | some k => if kvs.length ≤ few then some (E.set n (.dK (putKW kvs k z))) else none
      | none => none
    | none => none
theorem dsetN_ok {pins : List (Addr × Obj)} {σ : L2.St} {s : Shared} {E E' : Hh} {n : Nat} {D : Addr} {y z : W} {yv zv : V} {u r : Value} {Q : Unit → Shared → Prop} {Er : Value → Shared → Prop} (aP : X.prog = M.P) (aw : X.w = M.w) (aK : X.K = M.K) (hu : X.A.units + 65 < cLine) (I : Inv X pins σ H s) (R : Rel M ι E H)
    (hD : ι[n]? = some D) (ry : RelW M H ι y yv) (ryu : RelV yv u) (rz : RelW M H ι z zv) (rzu : RelV zv r) (e : wSetN (.ref n) y z E = some E') (k : ∀ ι' H' s', Ext M ι H ι' H' → Rel M ι' E' H' → Inv X pins σ H' s' → Q () s') :
    wpAny (model X.prog X.w) X.A (dictSet D u r) Q Er s := by
  unfold wSetN at e
  cases e1 : dnOf E (.ref n) with
  | none => rw [e1] at e; cases e
  | some p =>
    obtain ⟨n', kvs⟩ := p
    rw [e1] at e
    dsimp only at e
    split at e
    · rename_i hc
      obtain rfl := Option.some.inj e
      obtain ⟨a, xs, en, ea, d⟩ := dn_ok I aK R e1 (show RelW M H ι (.ref n) (.ref D) from ⟨D, hD, rfl⟩)
      obtain rfl : n = n' := by simpa using en
      obtain rfl : D = a := by simpa using ea
      obtain ⟨b, rfl, rfl, kb⟩ := tk_ok I aK hc.1 ry ryu
      have hl := Paired.length d.ent
      have ko : kOk y = true ∧ (nk y).depth ≤ 8 := by
        cases y with
        | tup ws => have q := hc.1; simp only [tkOk, Bool.and_eq_true, decide_eq_true_eq] at q; exact ⟨by simpa [kOk] using q.1, q.2⟩
        | _ => cases hc.1
      obtain ⟨xs', ex, pe⟩ := put_ok d.ent ry ko.1 ko.2 rz rzu
      obtain ⟨ob, hob, hm⟩ := d.obj
      rw [aP, aw]
      refine wpAny_dictSet_heap (hsz := by rw [ents_len hl]; exact d.len) (knd := nestedKind M.P M.w) (by show X.A.units + 8 < cLine; omega) kb d.dict fun h' dd hs => ?_
      rw [← ex] at dd
      have nd : ((putN kvs y z).map fun p => nk p.1).Nodup := by
        rw [← ents_keys (Paired.length pe)]
        exact dd.nodup
      have len2 : (putN kvs y z).length ≤ sizeLine := Nat.le_trans putN_len (few_lt hc.2)
      have new : ObjOk X.prog X.w (upd H D (DkAt M.P M.w D (ents (putN kvs y z) xs'))) h' D (DkAt M.P M.w D (ents (putN kvs y z) xs')) := by
        rw [aP, aw]
        exact ext_new dd
      have I2 : Inv X pins σ (upd H D (DkAt M.P M.w D (ents (putN kvs y z) xs'))) { s with heap := h', toks := s.toks + (nestedKind M.P M.w).draws (nk y) } :=
        d_write I d.mu hs (by obtain ⟨o, _, _, g1, _⟩ := dd; exact ⟨o, g1⟩) new
      obtain ⟨R2, x2⟩ := Rel.put (o := .dN (putN kvs y z)) (ho := DkAt M.P M.w D (ents (putN kvs y z) xs')) R d.at' hob hm d.nt rfl fun x =>
        ⟨xs', upd_same, len2, d.low, nd, Paired.mapP pe fun p q ⟨⟨a1, a2⟩, a3, a4⟩ => ⟨⟨a1.ext x, a2⟩, a3.ext x, a4⟩⟩
      exact k _ _ _ x2 R2 I2
    · cases e
theorem dset_ok {pins : List (Addr × Obj)} {σ : L2.St} {s : Shared} {E E' : Hh} {n : Nat} {D : Addr} {y z : W} {yv zv : V} {u r : Value} {Q : Unit → Shared → Prop} {Er : Value → Shared → Prop} (aP : X.prog = M.P) (aw : X.w = M.w) (aK : X.K = M.K) (hu : X.A.units + 65 < cLine) (I : Inv X pins σ H s) (R : Rel M ι E H)
    (hD : ι[n]? = some D) (ry : RelW M H ι y yv) (ryu : RelV yv u) (rz : RelW M H ι z zv) (rzu : RelV zv r) (e : wDset n y z E = some E') (k : ∀ ι' H' s', Ext M ι H ι' H' → Rel M ι' E' H' → Inv X pins σ H' s' → Q () s') :
    wpAny (model X.prog X.w) X.A (dictSet D u r) Q Er s := by
  unfold wDset at e
  cases e1 : wSetN (.ref n) y z E with
  | some E2 =>
    rw [e1] at e
    obtain rfl := Option.some.inj e
    exact dsetN_ok aP aw aK hu I R hD ry ryu rz rzu e1 k
  | none =>
    rw [e1] at e
    dsimp only at e
    cases e2 : dKOf E (.ref n) with
    | none => rw [e2] at e; cases e
    | some p =>
      obtain ⟨n', kvs⟩ := p
      rw [e2] at e
      dsimp only at e
      cases e3 : keyOf y with
      | none => rw [e3] at e; cases e
      | some key =>
        rw [e3] at e
        dsimp only at e
        split at e
        · rename_i hl
          obtain rfl := Option.some.inj e
          obtain ⟨a, vs, ha, he, ea, h1, rws⟩ := dK_ok R e2 (show RelW M H ι (.ref n) (.ref D) from ⟨D, hD, rfl⟩)
          obtain rfl : D = a := by simpa using ea
          have nn : n' = n := by
            unfold dKOf at e2
            dsimp only at e2
            split at e2
            · obtain ⟨h1, _⟩ : n = n' ∧ _ := by simpa using e2
              exact h1.symm
            · cases e2
          subst nn
          obtain ⟨us, e4, rus⟩ := putKW_ok (k := key) rz rws
          refine d_dictSet I h1 (by rw [List.length_zip, List.length_map, ← rws.length, List.length_map, Nat.min_self]; exact few_lt hl) (by rw [← keyOf_ok e3 ry]; exact ryu) rzu fun s' I' => ?_
          rw [e4] at I'
          obtain ⟨R', x⟩ := Rel.put (o := .dK (putKW kvs key z)) (ho := .dK (((putKW kvs key z).map (·.1)).zip us)) R ha he rfl (fun q hq => by rw [h1] at hq; cases hq; exact ⟨fun _ z => (nomatch z), fun _ _ z => (nomatch z)⟩) rfl fun x => ⟨us, upd_same, rus.ext x⟩
          exact k _ _ s' x R' I'
        · cases e
/-! ### what a turn does -/
/-- D has the number n -/
def SHd (M : Md) (n : Nat) (D : Addr) (c : ActH) : TH := fun σ H Q => ∃ ι E σE E', ι[n]? = some D ∧ Rel M ι E H ∧ RelS M H ι σE σ ∧ c σE E = some E' ∧ ∀ ι' H', Ext M ι H ι' H' → Rel M ι' E' H' → Q H'
theorem PAct.imp {Y : Cx} {vs : List Nat} {m : Sem PySem.Fin → Sem PySem.Fin} {t t' : TH} (h : PAct Y vs m t) (i : ∀ σ H Q, t' σ H Q → t σ H Q) : PAct Y vs m t' := ⟨fun pins s σ H Q k Qk E I q => h.run pins s σ H Q k Qk E I (i σ H Q q)⟩
theorem act_push {n : Nat} {D : Addr} {elt : Expr} {ce : Act W} (hx : X.xe = fun _ _ => False) (he : PE X elt (SE M noW ce)) : PAct X [] (fun k => Ck.emit (.l elt) (.ref D) X.env >>= fun _ => k) (SHd M n D (pushC n ce)) := ⟨fun pins s σ H Q k Qk Er I ⟨ι, E, σE, E', hD, R, rs, e, kq⟩ hk => by
  have up : ∀ {α : Type} {t : Sem α} {Q Q' : α → Shared → Prop} {E' : Value → Shared → Prop} {s : Shared}, wpAny (model X.prog X.w) X.A t Q X.xe s → (∀ a s, Q a s → Q' a s) → wpAny (model X.prog X.w) X.A t Q' E' s := fun h k => by
    rw [hx] at h
    exact thnF h k
  have h := push_ok (Nx := Q) hD R rs e kq
  refine wpAny_bind (wpAny_bind (up (he.run pins s σ H _ I h) fun x s1 ⟨y, H4, I4, r4, acc, e4, hz, nx⟩ => wpAny_bind (app_ok I4 e4 hz r4 fun s5 I5 => wpAny_pure (hk s5 _ σ I5 rfl nx))))⟩
def putC (n : Nat) (ck cv : Act W) : ActH := fun σ E => match ck σ E with
  | some (.ok y E1) => match cv σ E1 with
    | some (.ok z E2) => wDset n y z E2
    | _ => none
  | _ => none
theorem act_put {Γ : Gm} {n : Nat} {D : Addr} {kx vx : Expr} {ck cv : Act W} (a : At M Γ noW X) (hx : X.xe = fun _ _ => False) (hk' : PE X kx (SE M noW ck)) (hv : PE X vx (SE M noW cv)) : PAct X [] (fun k => Ck.emit (.d kx vx) (.ref D) X.env >>= fun _ => k) (SHd M n D (putC n ck cv)) := ⟨fun pins s σ H Q k Qk Er I ⟨ι, E, σE, E', hD, R, rs, e, kq⟩ hk => by
  have up : ∀ {α : Type} {t : Sem α} {Q Q' : α → Shared → Prop} {E' : Value → Shared → Prop} {s : Shared}, wpAny (model X.prog X.w) X.A t Q X.xe s → (∀ a s, Q a s → Q' a s) → wpAny (model X.prog X.w) X.A t Q' E' s := fun h k => by
    rw [hx] at h
    exact thnF h k
  unfold putC at e
  cases e1 : ck σE E with
  | none => rw [e1] at e; cases e
  | some r1 =>
    cases r1 with
    | ex _ _ => rw [e1] at e; cases e
    | ok y E1 =>
      rw [e1] at e
      dsimp only at e
      cases e2 : cv σE E1 with
      | none => rw [e2] at e; cases e
      | some r2 =>
        cases r2 with
        | ex _ _ => rw [e2] at e; cases e
        | ok z E2 =>
          rw [e2] at e
          dsimp only at e
          have h1 : SE M noW ck σ H fun yv H1 => ∃ ι1, Ext M ι H ι1 H1 ∧ Rel M ι1 E1 H1 ∧ RelW M H1 ι1 y yv := ⟨ι, E, σE, R, rs, .give e1 fun ι1 H1 v x1 R1 ry => ⟨ι1, x1, R1, ry⟩⟩
          show wpAny _ _ ((do
            let kv ← eval kx X.env
            let vv ← holding [kv] (eval vx X.env)
            standAt { kx.pos with endLine := vx.pos.endLine, endCol := vx.pos.endCol }
            holding [kv, vv] (dictSet D kv vv)) >>= fun _ => k) _ _ s
          refine wpAny_bind (wpAny_bind (up (hk'.run pins s σ H _ I h1) fun yu s1 ⟨yv, H1, I1, ryu, ι1, x1, R1, ry⟩ => ?_))
          have h2 : SE M noW cv σ H1 fun zv H2 => ∃ ι2, Ext M ι1 H1 ι2 H2 ∧ Rel M ι2 E2 H2 ∧ RelW M H2 ι2 z zv := ⟨ι1, E1, σE, R1, rs.ext x1, .give e2 fun ι2 H2 v x2 R2 rz => ⟨ι2, x2, R2, rz⟩⟩
          refine wpAny_bind (wpAny_holding (up (hv.run pins s1 σ H1 _ I1 h2) fun zu s2 ⟨zv, H2, I2, rzu, ι2, x2, R2, rz⟩ => wpAny_bind (wpAny_standAt (wpAny_holding ?_))))
          have xx := x1.trans x2
          exact dset_ok a.P a.w a.K a.units I2 R2 (pre_get xx.pre hD) (ry.ext x2) ryu rz rzu e fun ι3 H3 s3 x3 R3 I3 => hk s3 H3 σ I3 rfl (kq ι3 H3 (xx.trans x3) R3)⟩
/-- a text comes into a comprehension's set -/
def addC (n : Nat) (ce : Act W) : ActH := fun σ E => match ce σ E with
  | some (.ok (.str k) E1) => match E1[n]? with
    | some (.txs xs) => if xs.length ≤ 1000 then some (E1.set n (.txs (xs ++ [k]))) else none
    | _ => none
  | _ => none
theorem act_add {Γ : Gm} {n : Nat} {D : Addr} {elt : Expr} {ce : Act W} (a : At M Γ noW X) (hx : X.xe = fun _ _ => False) (he : PE X elt (SE M noW ce)) : PAct X [] (fun k => Ck.emit (.s elt) (.ref D) X.env >>= fun _ => k) (SHd M n D (addC n ce)) := ⟨fun pins s σ H Q k Qk Er I ⟨ι, E, σE, E', hD, R, rs, e, kq⟩ hk => by
  have up : ∀ {α : Type} {t : Sem α} {Q Q' : α → Shared → Prop} {E' : Value → Shared → Prop} {s : Shared}, wpAny (model X.prog X.w) X.A t Q X.xe s → (∀ a s, Q a s → Q' a s) → wpAny (model X.prog X.w) X.A t Q' E' s := fun h k => by
    rw [hx] at h
    exact thnF h k
  unfold addC at e
  cases e1 : ce σE E with
  | none => rw [e1] at e; cases e
  | some r1 =>
    cases r1 with
    | ex _ _ => rw [e1] at e; cases e
    | ok y E1 =>
      rw [e1] at e
      cases y with
      | str t =>
        dsimp only at e
        split at e
        · rename_i xs e3
          split at e
          · rename_i hl
            obtain rfl := Option.some.inj e
            have h1 : SE M noW ce σ H fun yv H1 => ∃ ι1, Ext M ι H ι1 H1 ∧ Rel M ι1 E1 H1 ∧ RelW M H1 ι1 (.str t) yv := ⟨ι, E, σE, R, rs, .give e1 fun ι1 H1 v x1 R1 ry => ⟨ι1, x1, R1, ry⟩⟩
            show wpAny _ _ ((do
              let v ← eval elt X.env
              standAt elt.pos
              let _ ← call (.builtin "set.add") [.ref D, v]) >>= fun _ => k) _ _ s
            refine wpAny_bind (wpAny_bind (up (he.run pins s σ H _ I h1) fun yu s1 ⟨yv, H1, I1, ryu, ι1, x1, R1, ry⟩ => wpAny_bind (wpAny_standAt (wpAny_bind ?_))))
            obtain rfl : yv = .str t := ry
            obtain ⟨tk, rfl⟩ := ryu
            obtain ⟨b, hb, ro⟩ := R1.obj n _ e3
            obtain rfl : D = b := Option.some.inj ((pre_get x1.pre hD).symm.trans hb)
            have ro : H1 D = some (SetLO M.P M.w D xs) := ro
            have rx : SetL M.P M.w s1.heap D xs := (I1.hok D _ ro).1
            rw [a.P, a.w]
            refine setX_call rx (by have := dis_len xs; unfold scanBound; omega) fun h' sb new => ?_
            have new' : SetL M.P M.w h' D (xs ++ [t]) := SetL.put new
            have ob : ∃ u, h'.get? D = some u := by
              obtain ⟨o, _, _, _, ho, _⟩ := new'
              exact ⟨o, ho⟩
            have I2 : Inv X pins σ (upd H1 D (SetLO M.P M.w D (xs ++ [t]))) { s1 with heap := h', toks := s1.toks + 1 } :=
              I1.write (e := D) (t' := s1.toks + 1) (by rw [ro]; trivial) (.inl rfl) (fun b u hb hu => (sb.2 b hb).trans hu) ob ⟨new', ob, fun h1 h2 p k => SetX.stay p k⟩
            obtain ⟨R2, x2⟩ := Rel.put (o := .txs (xs ++ [t])) (ho := SetLO M.P M.w D (xs ++ [t])) R1 hb e3 rfl (fun q hq => by rw [ro] at hq; cases hq; exact ⟨fun _ z => (nomatch z), fun _ _ z => (nomatch z)⟩) rfl fun x => upd_same
            refine wpAny_pure ?_
            have g := hk _ _ σ I2 rfl (kq ι1 _ (x1.trans x2) R2)
            rw [a.P, a.w] at g
            exact g
          · cases e
        · cases e
      | _ => cases e⟩
/-- a further clause, by acts -/
theorem nest_imp {n : Nat} {D : Addr} {ci : Act Src} {vs : List Nat} {g : ActG} {ct : Act Bool} {body : ActH} : ∀ (σ : L2.St) (H : Hp) (Q : Hp → Prop), SHd M n D (nestC ci vs g ct body) σ H Q → nestT (SI M noW ci) (SGv M vs g) (ST M noW ct) (SHd M n D body) vs σ H Q := fun σ H Q ⟨ι, E, σE, E', hD, R, rs, e, kq⟩ => by
  unfold nestC at e
  cases e1 : ci σE E with
  | none => rw [e1] at e; cases e
  | some r =>
    cases r with
    | ex _ _ => rw [e1] at e; cases e
    | ok s E1 =>
      rw [e1] at e
      dsimp only at e
      exact ⟨ι, E, σE, R, rs, .give e1 fun ι1 H1 J x1 R1 wk => clause_ok (tb := fun σ2 H3 Nx => SHd M n D body σ2 H3 Nx) wk (Ext.refl _ _) R1 ((rs.ext x1).wipe vs) e (fun ι2 H2 x2 R2 => kq ι2 H2 (x1.trans x2) R2)
        fun ι2 E2 H2 σ1 σ2 E3 Nx x2 R2 rs2 _ eb nx => ⟨ι2, E2, σ1, E3, pre_get (x1.trans x2).pre hD, R2, rs2, eb, nx⟩⟩
/-- the whole, by acts -/
def ckA (c : Ck) (ci : Act Src) (vs : List Nat) (g : ActG) (ct : Act Bool) (body : Nat → ActH) : Act W := fun σ E => andThen (ci σ E) fun s E1 => match loopC s.ls g ct (body E1.length) (wipeE σ vs) s.ws (E1 ++ [c.ob]) with
  | some E' => some (.ok (.ref E1.length) E')
  | none => none
theorem ck_new {c : Ck} {E : Hh} {D : Addr} (R : Rel M ι E H) (hD : H D = none) : Rel M (ι ++ [D]) (E ++ [c.ob]) (upd H D (c.ho M.P M.w D)) ∧ Ext M ι H (ι ++ [D]) (upd H D (c.ho M.P M.w D)) := by
  cases c with
  | l elt => exact Rel.new (ho := .lst []) (o := .lst []) R hD fun _ => ⟨[], upd_same, rfl⟩
  | d k v => exact Rel.new (ho := .dK []) (o := .dK []) R hD fun _ => ⟨[], upd_same, rfl⟩
  | s elt => exact Rel.new (ho := SetLO M.P M.w D []) (o := .txs []) R hD fun _ => upd_same
theorem ck_imp {c : Ck} {ci : Act Src} {vs : List Nat} {g : ActG} {ct : Act Bool} {body : Nat → ActH} : ∀ (σ : L2.St) (H : Hp) (Q : VK), SE M W' (ckA c ci vs g ct body) σ H Q → tCk M.P M.w c (SI M W' ci) (SGv M vs g) (ST M noW ct) (fun D σ H Q => ∃ n, SHd M n D (body n) σ H Q) vs σ H Q := fun σ H Q ⟨ι, E, σE, R, rs, h⟩ =>
  ⟨ι, E, σE, R, rs, (Rs.bind h).imp fun s E1 h1 => fun ι1 H1 J x1 R1 wk D hD => by
    obtain ⟨Ef, hl, k⟩ := optE h1
    obtain ⟨R2, x2⟩ := ck_new (c := c) R1 hD
    have xx := x1.trans x2
    have hn : (ι1 ++ [D])[E1.length]? = some D := by rw [← R1.len]; simp
    exact clause_ok (tb := fun σ2 H3 Nx => ∃ n, SHd M n D (body n) σ2 H3 Nx) wk x2 R2 ((rs.ext xx).wipe vs) hl (fun ι' H' x' R' => k ι' H' _ (xx.trans x') R' ⟨D, pre_get x'.pre hn, rfl⟩)
      fun ι' E' H' σ1 σ2 E'' Nx x' R' rs' _ e nx => ⟨_, ι', E', σ1, E'', pre_get x'.pre hn, R', rs', e, nx⟩⟩
theorem act_ex {Y : Cx} {vs : List Nat} {m : Sem PySem.Fin → Sem PySem.Fin} {t : Nat → TH} (h : ∀ n, PAct Y vs m (t n)) : PAct Y vs m (fun σ H Q => ∃ n, t n σ H Q) := ⟨fun pins s σ H Q k Qk E I ⟨n, q⟩ hk => (h n).run pins s σ H Q k Qk E I q hk⟩
end G

set_option Elab.async false
set_option linter.all false
set_option maxRecDepth 100000
set_option maxHeartbeats 4000000
namespace G
open PySem L2 PySem.Spec PyProof.Rows
variable {M : Md} {H H' H1 H2 : Hp} {ι ι' ι1 ι2 : List Addr} {X : Cx} {W' : WX}

/-! ### what works things out one step less deep -/
structure Rc where
  ev : Gm → Expr → Act W
  te : Gm → Expr → Act Bool
  src : Gm → Expr → Expr → Act Src
/-- a place where things are worked out -/
structure In (M : Md) (P : Pg) (Γ : Gm) (W' : WX) (X : Cx) : Prop where
  at' : At M Γ W' X
  has : Has M P X
  glob : Glob M P
  wind : Wind W'
  hk : ∀ e c, Γ.hk e = some c → PE X e (SE M W' c)
structure RcOk (M : Md) (P : Pg) (r : Rc) : Prop where
  ev : ∀ {Γ : Gm} {W' : WX} {X : Cx}, In M P Γ W' X → ∀ e, PE X e (SE M W' (r.ev Γ e))
  te : ∀ {Γ : Gm} {W' : WX} {X : Cx}, In M P Γ W' X → ∀ e, PT X e (ST M W' (r.te Γ e))
  src : ∀ {Γ : Gm} {W' : WX} {X : Cx}, In M P Γ W' X → ∀ tg e, plainSrc e = true → PI X tg e (SI M W' (r.src Γ tg e))
theorem in_blk {P : Pg} {Γ : Gm} {scope : Scope} {s : Shared} {cl : List (Str × Addr)} {C : Addr} {fp : List Addr} (i : In M P Γ W' X) (hk : scope.kind = .function) : In M P (blkG Γ scope) noW (X.blk s H scope (compEnvC scope cl C X.env) fp) := ⟨at_blk i.at' hk, has_blk i.has, i.glob, wind_no, fun _ _ h => (nomatch h)⟩
/-! ### comprehensions -/
def slotsOf (N : List Str) (gens : List Comprehension) : List Nat := gens.flatMap fun c => tgIx N 9 c.target
def gensOk (gens : List Comprehension) : Bool := gens.all fun c => (match c.is_async with
  | .ofNat 0 => true
  | _ => false) && plainSrc c.iter
def emitC (r : Rc) (Γ : Gm) (c : Ck) (n : Nat) : ActH := match c with
  | .l elt => pushC n (r.ev Γ elt)
  | .d k v => putC n (r.ev Γ k) (r.ev Γ v)
  | .s elt => addC n (r.ev Γ elt)
def restB (r : Rc) (Γ : Gm) (c : Ck) : List Comprehension → Nat → ActH
  | [], n => emitC r Γ c n
  | g :: rest, n => nestC (r.src Γ g.target g.iter) (slotsOf Γ.N (g :: rest)) (tgV Γ (slotsOf Γ.N (g :: rest)) 9 g.target) (testsA (r.te Γ) g.ifs) (restB r Γ c rest n)
theorem gen_eq {g : Comprehension} (h : (match g.is_async with
  | .ofNat 0 => true
  | _ => false) = true) : g = ⟨g.target, g.iter, g.ifs, 0⟩ := by
  obtain ⟨tg, it, ifs, a⟩ := g
  dsimp only at h
  split at h
  · rfl
  · cases h
theorem act_rest {P : Pg} {r : Rc} {c : Ck} {gens : List Comprehension} {scope : Scope} {pos : Pos} (ok : RcOk M P r) : ∀ (rest : List Comprehension) (j : Nat) (g : Comprehension), gens[j]? = some g → (match g.is_async with
    | .ofNat 0 => true
    | _ => false) = true → gens.drop (j + 1) = rest → gensOk rest = true → ∃ p m, TurnEq (c.ex gens scope pos) j g.target g.ifs p m ∧
      ∀ {Γ : Gm} {Y : Cx}, In M P Γ noW Y → (Y.xe = fun _ _ => False) → ∀ D n, PAct Y (slotsOf Γ.N rest) (m (.ref D) Y.env) (SHd M n D (restB r Γ c rest n))
  | [], j, g, hj, ha, hd, _ => by
    have hn : gens[j + 1]? = none := by
      have z := List.drop_eq_nil_iff.mp hd
      exact List.getElem?_eq_none z
    rw [gen_eq ha] at hj
    refine ⟨_, _, turn_last hj hn, fun {Γ Y} i hx D n => ?_⟩
    cases c with
    | l elt => exact act_push hx (ok.ev i elt)
    | d k v => exact act_put i.at' hx (ok.ev i k) (ok.ev i v)
    | s elt => exact act_add i.at' hx (ok.ev i elt)
  | g1 :: rest, j, g, hj, ha, hd, hg => by
    have h1 : gens[j + 1]? = some g1 := by
      have z : (gens.drop (j + 1))[0]? = some g1 := by rw [hd]; rfl
      rw [List.getElem?_drop] at z
      exact z
    have hd1 : gens.drop (j + 1 + 1) = rest := by
      rw [← List.drop_drop, hd]
      rfl
    simp only [gensOk, List.all_cons, Bool.and_eq_true] at hg
    obtain ⟨⟨ga, gp⟩, gr⟩ := hg
    obtain ⟨p1, m1, te1, hm1⟩ := act_rest ok rest (j + 1) g1 h1 ga hd1 gr
    have hj' := hj
    rw [gen_eq ha] at hj'
    have h1' := h1
    rw [gen_eq ga] at h1'
    refine ⟨_, _, turn_more hj' h1', fun {Γ Y} i hx D n => ?_⟩
    exact PAct.imp (act_more hx i.at'.calm h1' te1 (ok.src i g1.target g1.iter gp) (pg_tgV i.at' 9 g1.target) (pts_G (ok.te i)) (hm1 i hx D n) (fun l hl => List.mem_append_right _ hl) (plainSrc_ok gp Y.env)) nest_imp
/-- a comprehension's value -/
def ckE (r : Rc) (Γ : Gm) (c : Ck) (gens : List Comprehension) (scope : Scope) : Act W := match gens with
  | [] => fun _ _ => none
  | g :: rest => fun σ E => if blkB Γ scope = true ∧ gensOk (g :: rest) = true ∧ ((slotsOf Γ.N rest).all fun i => ((ownIx Γ.N scope).map (·.2)).contains i) = true then
      ckA c (r.src Γ g.target g.iter) ((ownIx Γ.N scope).map (·.2)) (tgV (blkG Γ scope) ((ownIx Γ.N scope).map (·.2)) 9 g.target) (testsA (r.te (blkG Γ scope)) g.ifs) (restB r (blkG Γ scope) c rest) σ E
    else none
section
variable {P : Pg} {r : Rc} {Γ : Gm} {c : Ck} {gens : List Comprehension} {scope : Scope} {pos spos py : Pos} {y : Str}
theorem pe_ckG (ok : RcOk M P r) (i : In M P Γ W' X) : PE X (c.ex gens scope pos) (SE M W' (ckE r Γ c gens scope)) := by
  cases gens with
  | nil => exact pe_no fun _ _ => rfl
  | cons g rest =>
    by_cases hb : blkB Γ scope = true ∧ gensOk (g :: rest) = true ∧ ((slotsOf Γ.N rest).all fun i => ((ownIx Γ.N scope).map (·.2)).contains i) = true
    · have okb := blkB_ok i.at' hb.1
      have hg := hb.2.1
      simp only [gensOk, List.all_cons, Bool.and_eq_true] at hg
      obtain ⟨⟨ga, gp⟩, gr⟩ := hg
      obtain ⟨p, m, te, hm⟩ := act_rest (c := c) (scope := scope) (pos := pos) ok rest 0 g (gens := g :: rest) rfl ga rfl gr
      have eg := gen_eq ga
      have sub : ∀ l ∈ slotsOf Γ.N rest, l ∈ (ownIx Γ.N scope).map (·.2) := fun l hl => by
        have z := List.all_eq_true.mp hb.2.2 l hl
        simpa using z
      have main : PE X (c.ex (⟨g.target, g.iter, g.ifs, 0⟩ :: rest) scope pos) _ := pe_ck (m := m) (p := p) (vd := slotsOf Γ.N rest) (c := c) (pos := pos) (body := fun D σ H Q => ∃ n, SHd M n D (restB r (blkG Γ scope) c rest n) σ H Q) i.at'.calm (by rw [i.at'.N]; exact i.at'.nd)
        (ok.src i g.target g.iter gp) okb sub (by rw [← eg]; exact te) (fun s H C cl fp => pg_tgV (vs := (ownIx Γ.N scope).map (·.2)) (at_blk i.at' okb.kind) 9 g.target) (fun s H C cl fp => pts_G (ok.te (in_blk i okb.kind))) (fun D s H C cl fp => act_ex fun n => hm (in_blk i okb.kind) rfl D n) (plainSrc_ok gp X.env)
      rw [← eg] at main
      refine PE.imp main fun σ H Q q => ?_
      rw [i.at'.P, i.at'.w]
      refine ck_imp σ H Q ?_
      obtain ⟨ι, E, σE, R, rs, h⟩ := q
      unfold ckE at h
      dsimp only at h
      rw [if_pos hb] at h
      exact ⟨ι, E, σE, R, rs, h⟩
    · exact pe_no fun σ E => by unfold ckE; dsimp only; rw [if_neg hb]
theorem sw_sc {elt : Expr} (a : At M Γ W' X) {gs : List Comprehension} {l : Nat} : swapsWith (.SetComp elt gs scope pos) (some (.Name y py)) l X.env = pure (swB Γ y py pos scope) := by
  have hb : X.env.blockKind = .function := by unfold Env.blockKind; rw [a.kind]; rfl
  unfold swapsWith swB Env.kindOf
  simp only [hb, a.names, Expr.pos]
  rfl
theorem sw_ck (a : At M Γ W' X) {l : Nat} : swapsWith (c.ex gens scope pos) (some (.Name y py)) l X.env = pure (swB Γ y py pos scope) := by
  cases c with
  | l elt => exact sw_lc a
  | d k v => exact sw_dc a
  | s elt => exact sw_sc a
/-- x = [..], x = {..} -/
theorem ps_ckG (ok : RcOk M P r) (i : In M P Γ W' X) : PS X (.Assign [.Name y py] (c.ex gens scope pos) spos) (SS M W' (nameS Γ y (ckE r Γ c gens scope))) := by
  cases hs : swB Γ y py pos scope with
  | false =>
    have nt : swappedStores [.Name y py] (c.ex gens scope pos) X.env = pure none := by cases c <;> rfl
    exact PS.imp (ps_asg (pe_ckG ok i) (pg_nameG i.at') ((sw_ck (gens := gens) (pos := pos) (py := py) (scope := scope) (l := spos.line) i.at').trans (by rw [hs])) nt) fun D σ H q => by
      obtain ⟨_, _, _, k, _⟩ := nameS_key q
      exact k
  | true =>
    have hyl : X.env.scope.names.lookup y = some .local := by
      unfold swB at hs
      rw [Bool.and_eq_true, Bool.and_eq_true] at hs
      rw [i.at'.names]
      simpa using hs.1.1
    cases gens with
    | nil =>
      exact ps_no fun σ E => by
        unfold nameS asgS ckE
        split <;> rfl
    | cons g rest =>
      by_cases hl : ∃ l, ixOf y Γ.N = some l
      · obtain ⟨l, hix⟩ := hl
        by_cases hb : blkB Γ scope = true ∧ gensOk (g :: rest) = true ∧ ((slotsOf Γ.N rest).all fun i => ((ownIx Γ.N scope).map (·.2)).contains i) = true
        · have okb := blkB_ok i.at' hb.1
          have hg := hb.2.1
          simp only [gensOk, List.all_cons, Bool.and_eq_true] at hg
          obtain ⟨⟨ga, gp⟩, gr⟩ := hg
          obtain ⟨p, m, te, hm⟩ := act_rest (c := c) (scope := scope) (pos := pos) ok rest 0 g (gens := g :: rest) rfl ga rfl gr
          have eg := gen_eq ga
          have sub : ∀ l ∈ slotsOf Γ.N rest, l ∈ (ownIx Γ.N scope).map (·.2) := fun l hl => by
            have z := List.all_eq_true.mp hb.2.2 l hl
            simpa using z
          have main : PS X (.Assign [.Name y py] (c.ex (⟨g.target, g.iter, g.ifs, 0⟩ :: rest) scope pos) spos) _ := ps_setCk (i := l) (m := m) (p := p) (vd := slotsOf Γ.N rest) (c := c) (pos := pos) (body := fun D σ H Q => ∃ n, SHd M n D (restB r (blkG Γ scope) c rest n) σ H Q) i.at'.calm (by rw [i.at'.N]; exact i.at'.nd)
            (by rw [i.at'.N]; exact ixOf_ok hix) hyl (by rw [sw_ck i.at', hs]) (ok.src i g.target g.iter gp) okb sub (by rw [← eg]; exact te) (fun s H C cl fp => pg_tgV (vs := (ownIx Γ.N scope).map (·.2)) (at_blk i.at' okb.kind) 9 g.target) (fun s H C cl fp => pts_G (ok.te (in_blk i okb.kind)))
            (fun D s H C cl fp => act_ex fun n => hm (in_blk i okb.kind) rfl D n) (plainSrc_ok gp X.env)
          rw [← eg] at main
          refine PS.imp main fun D σ H q => ?_
          obtain ⟨l', _, hl', _, k⟩ := nameS_key q
          obtain rfl : l = l' := Option.some.inj (hix.symm.trans hl')
          obtain ⟨ι, E, σE, R, rs, h⟩ := k
          unfold ckE at h
          dsimp only at h
          rw [if_pos hb] at h
          show tCk X.prog X.w c _ _ _ _ _ σ H _
          rw [i.at'.P, i.at'.w]
          exact ck_imp σ H _ ⟨ι, E, σE, R, rs, h⟩
        · refine ps_no fun σ E => ?_
          unfold nameS asgS ckE
          dsimp only
          split
          · first | rfl | (rw [if_neg hb]; rfl)
          · rfl
      · refine ps_no fun σ E => ?_
        unfold nameS
        rw [if_neg fun h => hl (Option.isSome_iff_exists.mp h.2)]
end
end G

set_option Elab.async false
set_option linter.all false
set_option maxRecDepth 100000
set_option maxHeartbeats 4000000
namespace G
open PySem L2 PySem.Spec PyProof.Rows
variable {M : Md} {H H' H1 H2 : Hp} {ι ι' ι1 ι2 : List Addr} {X : Cx} {W' : WX}

/-! ### arguments and items, some of them starred -/
def wArgsS (ev : Expr → Act W) : List Expr → Act (List W)
  | [] => fun _ E => some (.ok [] E)
  | .Starred e _ :: es => fun σ E => andThen (ev e σ E) fun x E1 => match seqOf E1 x with
    | some ws => andThen (wArgsS ev es σ E1) fun xs E2 => some (.ok (ws ++ xs) E2)
    | none => none
  | e :: es => fun σ E => andThen (ev e σ E) fun x E1 => andThen (wArgsS ev es σ E1) fun xs E2 => some (.ok (x :: xs) E2)
theorem wArgsS_plain {ev : Expr → Act W} {e : Expr} {es : List Expr} (h : plainArg e = true) : wArgsS ev (e :: es) = fun σ E => andThen (ev e σ E) fun x E1 => andThen (wArgsS ev es σ E1) fun xs E2 => some (.ok (x :: xs) E2) := by
  cases e <;> first | rfl | cases h
theorem pa_argsS {ev : Expr → Act W} (aK : X.K = M.K) (h : ∀ e, PE X e (SE M W' (ev e))) : ∀ es, PA X es (SA M W' (wArgsS ev es))
  | [] => PA.imp pa_nil fun σ H Q ⟨ι, E, σE, R, rs, k⟩ => k.ok ι H [] (Ext.refl _ _) R rfl
  | e :: es => by
    by_cases hp : plainArg e = true
    · refine PA.imp (pa_cons (h e) (pa_argsS aK h es) (starEach_cons hp)) fun σ H Q ⟨ι, E, σE, R, rs, k⟩ => ?_
      rw [wArgsS_plain hp] at k
      exact ⟨ι, E, σE, R, rs, (Rs.bind k).imp fun x E1 h1 => fun ι1 H1 v x1 R1 rx => ⟨ι1, E1, σE, R1, rs.ext x1, (h1.bind.ext x1).imp fun xs E2 h2 => fun ι2 H2 vs x2 R2 rxs =>
        h2.ok ι2 H2 (v :: vs) (x1.trans x2) R2 ⟨v, vs, rfl, rx.ext x2, rxs⟩⟩⟩
    · cases e with
      | Starred e p =>
        refine PA.imp (StX.pa_star (h e) (pa_argsS aK h es) rfl) fun σ H Q ⟨ι, E, σE, R, rs, k⟩ => ⟨ι, E, σE, R, rs, (Rs.bind k).imp fun x E1 h1 => fun ι1 H1 v x1 R1 rx => ?_⟩
        cases es1 : seqOf E1 x with
        | none => rw [es1] at h1; exact h1.none.elim
        | some ws =>
          rw [es1] at h1
          obtain ⟨a, us, rfl, hs, rws⟩ := seq_ok R1 es1 rx
          refine ⟨a, us, rfl, by rw [aK]; exact hs.symm, ι1, E1, σE, R1, rs.ext x1, ((Rs.bind h1).ext x1).imp fun xs E2 h2 => fun ι2 H2 vs x2 R2 rxs => ?_⟩
          exact h2.ok ι2 H2 _ (x1.trans x2) R2 ((rws.ext x2).append rxs)
      | _ => exact absurd rfl hp
/-! ### {} -/
theorem pe_dnewG {pos : Pos} : PE X (.Dict [] [] pos) (SE M W' fun _ E => some (.ok (.ref E.length) (E ++ [.dK []]))) :=
  PE.imp pe_dnewK fun σ H Q ⟨ι, E, σE, R, rs, k⟩ p hp => by
    obtain ⟨R', x⟩ := Rel.new (ho := .dK []) (o := .dK []) R hp fun _ => ⟨[], upd_same, rfl⟩
    exact k.ok _ _ _ x R' ⟨p, by rw [← R.len]; simp, rfl⟩
/-! ### a list or a tuple is taken apart -/
theorem PG.or2 {e : Expr} {t1 t2 : TG} (h1 : PG X e t1) (h2 : PG X e t2) : PG X e (fun v σ H Q => t1 v σ H Q ∨ t2 v σ H Q) := ⟨fun pins s σ H v u Q I r q => q.elim (h1.run pins s σ H v u Q I r) (h2.run pins s σ H v u Q I r)⟩
def unG (n : Nat) (d : ActGs) : ActG := fun w σ E => match seqOf E w with
  | some ws => if ws.length = n then d ws σ E else none
  | none => none
theorem pg_unG {es : List Expr} {k : Nat} {pos : Pos} {d : ActGs} (aK : X.K = M.K) (hc : X.calm = true) (hp : es.all plainTg = true) (h : PGs X es (SGs M W' d)) : PG X (.Tuple es k pos) (SG M W' (unG es.length d)) :=
  PG.imp (PG.or2 (pg_tup hc h assignEach_len (assignEach_plain hp)) (pg_lst hc h assignEach_len (assignEach_plain hp))) fun v σ H Q ⟨ι, E, σE, w, R, rs, rw', k⟩ => by
    unfold unG at k
    cases e : seqOf E w with
    | none => rw [e] at k; exact k.none.elim
    | some ws =>
      rw [e] at k
      dsimp only at k
      split at k
      · rename_i hl
        obtain ⟨a, us, rfl, hs, rws⟩ := seq_ok R e rw'
        rcases hs with hs | hs
        · exact .inr ⟨a, us, rfl, by rw [aK]; exact hs, by rw [← rws.length]; exact hl, ι, E, σE, ws, R, rs, rws, k⟩
        · exact .inl ⟨a, us, rfl, by rw [aK]; exact hs, by rw [← rws.length]; exact hl, ι, E, σE, ws, R, rs, rws, k⟩
      · exact k.none.elim
/-! ### a, b = x, y -/
def isStarE : Expr → Bool
  | .Starred _ _ => true
  | _ => false
def lnOf (ts : List Expr) : Nat := (ts.head?.map (·.pos.line)).getD 0
def nmsOf (names : List (Str × NameKind)) (ts : List Expr) : List Str := ts.filterMap fun
  | .Name id pos => if (names.lookup id == some .local && pos.line == lnOf ts) = true then some id else none
  | _ => none
def swF (names : List (Str × NameKind)) (ts vs : List Expr) : Option (Option (List Str)) :=
  if (!(ts.length == 2 || ts.length == 3) || vs.length != ts.length) = true then some none
  else if vs.any isStarE = true then some none
  else if ((nmsOf names ts).length != ts.length || (nmsOf names ts).eraseDups.length != (nmsOf names ts).length) = true then some none
  else if vs.all (foldedForSure 8) = true then some none
  else if vs.all (constantsAlone 8) = true then none
  else some (some (nmsOf names ts))
def nmsX (env : Env) (ts : List Expr) : List Str := ts.filterMap fun
  | .Name id pos => if (env.kindOf id == some .local && pos.line == lnOf ts) = true then some id else none
  | _ => none
theorem sw_st {Γ : Gm} {ts vs : List Expr} {kt k2 : Nat} {pt pt2 : Pos} {o : Option (List Str)} (a : At M Γ W' X) (h : swF Γ.names ts vs = some o) : swappedStores [.Tuple ts kt pt] (.Tuple vs k2 pt2) X.env = pure o := by
  have hb : X.env.blockKind = .function := by unfold Env.blockKind; rw [a.kind]; rfl
  have hn : nmsX X.env ts = nmsOf Γ.names ts := by
    unfold nmsX nmsOf Env.kindOf
    rw [a.names]
  unfold swF at h
  unfold swappedStores
  dsimp only
  rw [hb]
  split at h
  · rename_i c
    obtain rfl := Option.some.inj h
    have c' : (!(ts.length == 2 || ts.length == 3) || vs.length != ts.length || ScopeKind.function != ScopeKind.function) = true := by rw [c]; rfl
    rw [if_pos c']
  · rename_i c
    have c' : ¬ (!(ts.length == 2 || ts.length == 3) || vs.length != ts.length || ScopeKind.function != ScopeKind.function) = true := by
      rw [Bool.or_eq_true]
      rintro (z | z)
      · exact c z
      · cases z
    rw [if_neg c']
    change (if vs.any isStarE = true then (pure none : Sem (Option (List Str))) else if ((nmsX X.env ts).length != ts.length || (nmsX X.env ts).eraseDups.length != (nmsX X.env ts).length) = true then pure none else if vs.all (foldedForSure 8) = true then pure none
      else if vs.all (constantsAlone 8) = true then _ else pure (some (nmsX X.env ts))) = _
    rw [hn]
    split at h
    · rename_i c1
      obtain rfl := Option.some.inj h
      rw [if_pos c1]
    · rename_i c1
      rw [if_neg c1]
      split at h
      · rename_i c2
        obtain rfl := Option.some.inj h
        rw [if_pos c2]
      · rename_i c2
        rw [if_neg c2]
        split at h
        · rename_i c3
          obtain rfl := Option.some.inj h
          rw [if_pos c3]
        · rename_i c3
          rw [if_neg c3]
          split at h
          · cases h
          · rename_i c4
            obtain rfl := Option.some.inj h
            rw [if_neg c4]
/-- where the names' slots lie -/
def par2 (Γ : Gm) (x y : Str) (ca : Act (List W)) : ActS := fun σ E => match ixOf x Γ.N, ixOf y Γ.N with
  | some i, some j => if i ≠ j ∧ (Γ.names.lookup x == some .local && Γ.names.lookup y == some .local) = true then andThen (ca σ E) fun ws E1 => match ws with
    | [v, w] => some (.ok (.nx ((σ.set i (some v)).set j (some w))) E1)
    | _ => none
    else none
  | _, _ => none
theorem ps_par2G {Γ : Gm} {x y : Str} {e f : Expr} {px py pt pt2 pos : Pos} {kt k2 : Nat} {ca : Act (List W)} (a : At M Γ W' X) (hsw : swF Γ.names [.Name x px, .Name y py] [e, f] = some (some [x, y])) (ha : PA X [e, f] (SA M W' ca)) :
    PS X (.Assign [.Tuple [.Name x px, .Name y py] kt pt] (.Tuple [e, f] k2 pt2) pos) (SS M W' (par2 Γ x y ca)) := by
  cases hx : ixOf x Γ.N with
  | none => exact ps_no fun σ E => by unfold par2; rw [hx]
  | some i =>
    cases hy : ixOf y Γ.N with
    | none => exact ps_no fun σ E => by unfold par2; rw [hx, hy]
    | some j =>
      by_cases hc : i ≠ j ∧ (Γ.names.lookup x == some .local && Γ.names.lookup y == some .local) = true
      · have h2 := hc.2
        rw [Bool.and_eq_true] at h2
        refine PS.imp (ps_par (i := i) (j := j) a.calm (by rw [a.N]; exact a.nd) (by rw [a.N]; exact ixOf_ok hx) (by rw [a.N]; exact ixOf_ok hy) hc.1 (by rw [a.names]; simpa using h2.1) (by rw [a.names]; simpa using h2.2) ha (sw_st a hsw) rfl) fun D σ H ⟨ι, E, σE, R, rs, k⟩ => ?_
        unfold par2 at k
        rw [hx, hy] at k
        dsimp only at k
        rw [if_pos hc] at k
        refine ⟨ι, E, σE, R, rs, (Rs.bind k).imp fun ws E1 h1 => fun ι1 H1 vs x1 R1 rws => ?_⟩
        match ws, rws, h1 with
        | [v, w], rws, h1 =>
          obtain ⟨vv, wv, rfl, rv, rw'⟩ := two_ok rws
          exact ⟨vv, wv, rfl, h1.ok ι1 H1 x1 R1 _ (((rs.ext x1).set rv).set rw')⟩
        | [], rws, h1 => exact h1.none.elim
        | [_], rws, h1 => exact h1.none.elim
        | _ :: _ :: _ :: _, rws, h1 => exact h1.none.elim
      · exact ps_no fun σ E => by unfold par2; rw [hx, hy]; dsimp only; rw [if_neg hc]
/-- the pair is made, and taken apart -/
theorem ps_tupG {Γ : Gm} {ts vs : List Expr} {pt pt2 pos : Pos} {kt k2 : Nat} {ca : Act W} {g : ActG} (a : At M Γ W' X) (hsw : swF Γ.names ts vs = some none) (he : PE X (.Tuple vs k2 pt2) (SE M W' ca)) (hg : PG X (.Tuple ts kt pt) (SG M W' g)) :
    PS X (.Assign [.Tuple ts kt pt] (.Tuple vs k2 pt2) pos) (SS M W' (asgS ca g)) :=
  PS.imp (ps_asg he hg rfl (sw_st a hsw) rfl) fun D σ H ⟨ι, E, σE, R, rs, k⟩ => ⟨ι, E, σE, R, rs, (Rs.bind k).imp fun w E1 h1 => fun ι1 H1 v x1 R1 rv =>
    ⟨ι1, E1, σE, w, R1, rs.ext x1, rv, (h1.bind.ext x1).imp fun σ1 E2 h2 => fun ι2 H2 σ' x2 R2 rs2 => h2.ok ι2 H2 (x1.trans x2) R2 σ' rs2⟩⟩
end G

set_option Elab.async false
set_option linter.all false
set_option maxRecDepth 100000
set_option maxHeartbeats 4000000
namespace G
open PySem L2 PySem.Spec PyProof.Rows
variable {M : Md} {H H' H1 H2 : Hp} {ι ι' ι1 ι2 : List Addr} {X : Cx} {W' : WX}

/-! ### any and all, by the items' truth -/
/-- truth, at any depth of the stack -/
theorem tru_at {pins : List (Addr × Obj)} {σ : L2.St} {s : Shared} {x : V} {v : Value} {b : Bool} {A : Around} {E : Value → Shared → Prop} {Q : Bool → Shared → Prop} (I : Inv X pins σ H s) (r : RelV x v) (e : TruV X.K x H b) (k : ∀ t, Q b { s with toks := t }) : wpAny (model X.prog X.w) A (truthy v) Q E s := by
  have hs : sizeLine = 16777216 := sizeLine_eq
  cases x with
  | non =>
    cases r
    obtain rfl : b = false := e
    exact truthy_none (k s.toks)
  | bl c =>
    cases r
    obtain rfl : b = c := e
    exact wpAny_truthy_bool (k s.toks)
  | int i =>
    obtain ⟨t, rfl⟩ := r
    obtain rfl : b = (i != 0) := e
    exact PySem.P.truthy_int (k s.toks)
  | str y =>
    obtain ⟨t, rfl⟩ := r
    obtain ⟨hy, rfl⟩ : y.length ≤ sizeLine ∧ b = ((y.length : Int) != 0) := e
    exact PySem.P.truthy_str (by omega) (k _)
  | byt y =>
    obtain ⟨t, rfl⟩ := r
    obtain ⟨hy, rfl⟩ : y.size ≤ sizeLine ∧ b = ((y.size : Int) != 0) := e
    exact PySem.W.truthy_bytes (by omega) (k _)
  | ref p =>
    cases r
    have e : (∃ xs, SqL X.K H p xs ∧ b = !xs.isEmpty) ∨ (∃ xs, SqT X.K H p xs ∧ b = !xs.isEmpty) ∨ ∃ kvs, H p = some (.dK kvs) ∧ b = !kvs.isEmpty := e
    rcases e with ⟨xs, hx, rfl⟩ | ⟨xs, hx, rfl⟩ | ⟨kvs, hx, rfl⟩
    · obtain ⟨its, r, pl, hz⟩ := I.list hx
      have hlen := r.length
      exact wpAny_truthy_list pl.isList (by simp only [List.size_toArray]; omega) (by rw [isEmpty_of r]; exact k _)
    · obtain ⟨its, r, pl, hz⟩ := I.tuple hx
      have hlen := r.length
      exact truthy_tuple pl (by simp only [List.size_toArray]; omega) (by rw [isEmpty_of r]; exact k _)
    · obtain ⟨hz, hS, vs, r, m⟩ : kvs.length ≤ sizeLine ∧ (p == sysModules) = false ∧ ∃ vs, KV kvs vs ∧ s.heap.DictOf (mixKind X.prog X.w) p vs := I.hok p _ hx
      have hlen : kvs.length = vs.length := Paired.length r
      exact wpAny_truthy_dict hS m (by omega) (by rw [isEmpty_kv r]; exact k _)
  | _ => exact (show False from e).elim
section
variable {P : Program} {w : World} {A : Around} {R : Result → Shared → Prop} {it : Addr} {fp wr : List Addr} {n : Nat} {Pi : Nat → Value → Prop} {St : Nat → Heap → Prop} {tr : Nat → Bool} {s0 : Shared}
/-- the state s0, walked on -/
def Onw (wr : List Addr) (s0 s : Shared) : Prop := ∃ h' tk, s = { s0 with heap := h', toks := tk } ∧ ∀ b o, b ∉ wr → s0.heap.get? b = some o → h'.get? b = some o
abbrev TruOn (P : Program) (w : World) (A : Around) (wr : List Addr) (s0 : Shared) (Pi : Nat → Value → Prop) (tr : Nat → Bool) : Prop := ∀ i v (s : Shared) (Q : Bool → Shared → Prop) (E : Value → Shared → Prop), Pi i v → Onw wr s0 s → (∀ t, Q (tr i) { s with toks := t }) → wpAny (model P w) A (truthy v) Q E s
theorem any_loop (Wk : PySem.Walks P w A.in1 it fp wr n Pi St) (htr : TruOn P w A.in1 wr s0 Pi tr) : ∀ (k i : Nat) (s : Shared), n - i = k → i ≤ n → St i s.heap → Onw wr s0 s →
    (∀ s', Onw wr s0 s' → R (.ok (.ret (.bool (((List.range n).drop i).any tr)))) s') → codeAny (model P w) A (.builtin "any.loop" ⟨[.ref it], []⟩) R s
  | 0, i, s, hk, hi, st, on, hR => by
    obtain rfl : i = n := by omega
    refine codeAny_builtin PySem.F.entry_any_loop ?_
    rw [Around.under_plainId PySem.F.plain_any_loop _]
    show wpAny _ A.in1 (pyNext (.ref it) >>= _) _ _ s
    refine wpAny_bind (Wk.done s _ _ st fun h' tk hk' => wpAny_bind (wpAny_rule (wpAny_pure ?_)))
    obtain ⟨h0, t0, rfl, e0⟩ := on
    have z := hR _ ⟨h', tk, rfl, fun b o hb e => hk' b o hb (e0 b o hb e)⟩
    rw [List.drop_of_length_le (by simp)] at z
    exact z
  | k + 1, i, s, hk, hi, st, on, hR => by
    have hlt : i < n := by omega
    have hd : (List.range n).drop i = i :: (List.range n).drop (i + 1) := by
      rw [List.drop_eq_getElem_cons (by simpa using hlt)]; simp
    refine codeAny_builtin PySem.F.entry_any_loop ?_
    rw [Around.under_plainId PySem.F.plain_any_loop _]
    show wpAny _ A.in1 (pyNext (.ref it) >>= _) _ _ s
    refine wpAny_bind (Wk.item i s _ _ hlt st fun v h' tk hP st' hk' => ?_)
    obtain ⟨h0, t0, rfl, e0⟩ := on
    have on' : ∀ t, Onw wr s0 { s0 with heap := h', toks := t } := fun t => ⟨h', t, rfl, fun b o hb e => hk' b o hb (e0 b o hb e)⟩
    refine wpAny_bind (wpAny_holding (htr i v _ _ _ hP (on' tk) fun t => wpAny_bind (wpAny_letGo ?_)))
    cases hb : tr i with
    | false =>
      rw [if_neg Bool.false_ne_true]
      refine wpAny_pure ⟨plainId_quiet PySem.F.plain_any_loop _, any_loop Wk htr k (i + 1) _ (by omega) hlt st' (on' t) fun s' q => ?_⟩
      have z := hR s' q
      rw [hd, List.any_cons, hb, Bool.false_or] at z
      exact z
    | true =>
      rw [if_pos rfl]
      refine wpAny_bind (wpAny_rule (wpAny_pure ?_))
      have z := hR _ (on' t)
      rw [hd, List.any_cons, hb, Bool.true_or] at z
      exact z
theorem all_loop (Wk : PySem.Walks P w A.in1 it fp wr n Pi St) (htr : TruOn P w A.in1 wr s0 Pi tr) : ∀ (k i : Nat) (s : Shared), n - i = k → i ≤ n → St i s.heap → Onw wr s0 s →
    (∀ s', Onw wr s0 s' → R (.ok (.ret (.bool (((List.range n).drop i).all tr)))) s') → codeAny (model P w) A (.builtin "all.loop" ⟨[.ref it], []⟩) R s
  | 0, i, s, hk, hi, st, on, hR => by
    obtain rfl : i = n := by omega
    refine codeAny_builtin PySem.F.entry_all_loop ?_
    rw [Around.under_plainId PySem.F.plain_all_loop _]
    show wpAny _ A.in1 (pyNext (.ref it) >>= _) _ _ s
    refine wpAny_bind (Wk.done s _ _ st fun h' tk hk' => wpAny_bind (wpAny_rule (wpAny_pure ?_)))
    obtain ⟨h0, t0, rfl, e0⟩ := on
    have z := hR _ ⟨h', tk, rfl, fun b o hb e => hk' b o hb (e0 b o hb e)⟩
    rw [List.drop_of_length_le (by simp)] at z
    exact z
  | k + 1, i, s, hk, hi, st, on, hR => by
    have hlt : i < n := by omega
    have hd : (List.range n).drop i = i :: (List.range n).drop (i + 1) := by
      rw [List.drop_eq_getElem_cons (by simpa using hlt)]; simp
    refine codeAny_builtin PySem.F.entry_all_loop ?_
    rw [Around.under_plainId PySem.F.plain_all_loop _]
    show wpAny _ A.in1 (pyNext (.ref it) >>= _) _ _ s
    refine wpAny_bind (Wk.item i s _ _ hlt st fun v h' tk hP st' hk' => ?_)
    obtain ⟨h0, t0, rfl, e0⟩ := on
    have on' : ∀ t, Onw wr s0 { s0 with heap := h', toks := t } := fun t => ⟨h', t, rfl, fun b o hb e => hk' b o hb (e0 b o hb e)⟩
    refine wpAny_bind (wpAny_holding (htr i v _ _ _ hP (on' tk) fun t => wpAny_bind (wpAny_letGo ?_)))
    cases hb : tr i with
    | true =>
      rw [if_pos rfl]
      refine wpAny_pure ⟨plainId_quiet PySem.F.plain_all_loop _, all_loop Wk htr k (i + 1) _ (by omega) hlt st' (on' t) fun s' q => ?_⟩
      have z := hR s' q
      rw [hd, List.all_cons, hb, Bool.true_and] at z
      exact z
    | false =>
      rw [if_neg Bool.false_ne_true]
      refine wpAny_bind (wpAny_rule (wpAny_pure ?_))
      have z := hR _ (on' t)
      rw [hd, List.all_cons, hb, Bool.false_and] at z
      exact z
end
def rTruths (K : PySem.W.Frag) (f : List Bool → Bool) : List V → Hp → VK → Prop := fun vs H Q => ∃ (a : Addr) (xs : List V) (bs : List Bool), vs = [V.ref a] ∧ SqL K H a xs ∧ Paired (fun x b => TruV K x H b) xs bs ∧ Q (.bl (f bs)) H
theorem truths_on {pins : List (Addr × Obj)} {σ : L2.St} {s : Shared} {xs : List V} {its : List Value} {bs : List Bool} {A : Around} {s2 : Shared} {it : Addr} (I : Inv X pins σ H s) (rv : Vals xs its) (pb : Paired (fun x b => TruV X.K x H b) xs bs) (hit : it = s.heap.objs.size) (e2 : ∀ h' tk, { s2 with heap := h', toks := tk } = ({ s with heap := h', toks := tk } : Shared)) (k2 : ∀ b o, s.heap.get? b = some o → s2.heap.get? b = some o) :
    TruOn X.prog X.w A [it] s2 (fun i v => its.toArray[i]? = some v) (fun i => bs.getD i false) := fun i v s' Q E hv ⟨h', tk, es, hk⟩ kq => by
  subst es
  have hv' : its[i]? = some v := by simpa using hv
  have hi : i < xs.length := by rw [rv.length]; exact (List.getElem?_eq_some_iff.mp hv').1
  obtain ⟨b, hb, tb⟩ := paired_get pb (List.getElem?_eq_getElem hi)
  obtain ⟨u, hu, ru⟩ := rv.get (List.getElem?_eq_getElem hi)
  obtain rfl : u = v := Option.some.inj (hu.symm.trans hv')
  have hg : bs.getD i false = b := by rw [List.getD_eq_getElem?_getD, hb]; rfl
  rw [e2]
  have I' : Inv X pins σ H { s with heap := h', toks := tk } := I.kept fun b o eo => hk b o (fun hm => by
    rw [List.mem_singleton.mp hm, hit] at eo
    exact absurd (Heap.lt_size eo) (Nat.lt_irrefl _)) (k2 b o eo)
  refine tru_at I' ru tb fun t => ?_
  have z := kq t
  simp only [hg] at z
  rw [e2] at z
  exact z
theorem cr_anyT (hc : X.calm = true) : CallR X (.builtin "any") (rTruths X.K fun bs => bs.any id) := by
  intro pins s σ H vs us Q I r ⟨a, xs, bs, ev, hs, pb, q⟩
  subst ev
  obtain ⟨its, rv, hl, _⟩ := I.list hs
  rw [Vals.ref1 r]
  refine call_function_tree PySem.F.kind_any PySem.F.plain_any PySem.F.entry_any (PySem.F.args_any1 _) ?_
  unfold Builtin.«any»
  refine wpAny_bind (m := oneArg "any" _) (wpAny_pure ?_)
  refine wpAny_bind (iter_any hl.isList fun s₂ e2 st hne => ?_)
  have k2 : ∀ b o, s.heap.get? b = some o → s₂.heap.get? b = some o := fun b o e => by rw [e2]; exact Heap.get?_push_of_some _ e
  refine wpAny_pure ⟨plainId_quiet PySem.F.plain_any_loop _, any_loop (s0 := s₂) (tr := fun i => bs.getD i false) (PySem.Walks.list (A := X.A.in1) (I.ok.hd hc) _ a hne its.toArray) (truths_on I rv pb rfl (fun h' tk => by rw [e2]) k2) _ 0 s₂ rfl (Nat.zero_le _) st ⟨s₂.heap, s₂.toks, rfl, fun _ _ _ e => e⟩ fun s' on => ?_⟩
  obtain ⟨h', tk, es, hk⟩ := on
  subst es
  rw [show ({ s₂ with heap := h', toks := tk } : Shared) = { s with heap := h', toks := tk } by rw [e2]]
  refine ⟨.bl _, H, I.kept fun b o eo => hk b o (fun hm => ?_) (k2 b o eo), ?_, q⟩
  · rw [List.mem_singleton.mp hm] at eo
    exact absurd (Heap.lt_size eo) (Nat.lt_irrefl _)
  · show Value.bool _ = Value.bool _
    show Value.bool _ = Value.bool (bs.any id)
    rw [← any_range bs, List.size_toArray, ← rv.length, Paired.length pb]
    rfl
theorem cr_allT (hc : X.calm = true) : CallR X (.builtin "all") (rTruths X.K fun bs => bs.all id) := by
  intro pins s σ H vs us Q I r ⟨a, xs, bs, ev, hs, pb, q⟩
  subst ev
  obtain ⟨its, rv, hl, _⟩ := I.list hs
  rw [Vals.ref1 r]
  refine call_function_tree PySem.F.kind_all PySem.F.plain_all PySem.F.entry_all (PySem.F.args_all1 _) ?_
  unfold Builtin.«all»
  refine wpAny_bind (m := oneArg "all" _) (wpAny_pure ?_)
  refine wpAny_bind (iter_any hl.isList fun s₂ e2 st hne => ?_)
  have k2 : ∀ b o, s.heap.get? b = some o → s₂.heap.get? b = some o := fun b o e => by rw [e2]; exact Heap.get?_push_of_some _ e
  refine wpAny_pure ⟨plainId_quiet PySem.F.plain_all_loop _, all_loop (s0 := s₂) (tr := fun i => bs.getD i false) (PySem.Walks.list (A := X.A.in1) (I.ok.hd hc) _ a hne its.toArray) (truths_on I rv pb rfl (fun h' tk => by rw [e2]) k2) _ 0 s₂ rfl (Nat.zero_le _) st ⟨s₂.heap, s₂.toks, rfl, fun _ _ _ e => e⟩ fun s' on => ?_⟩
  obtain ⟨h', tk, es, hk⟩ := on
  subst es
  rw [show ({ s₂ with heap := h', toks := tk } : Shared) = { s with heap := h', toks := tk } by rw [e2]]
  refine ⟨.bl _, H, I.kept fun b o eo => hk b o (fun hm => ?_) (k2 b o eo), ?_, q⟩
  · rw [List.mem_singleton.mp hm] at eo
    exact absurd (Heap.lt_size eo) (Nat.lt_irrefl _)
  · show Value.bool _ = Value.bool _
    show Value.bool _ = Value.bool (bs.all id)
    rw [← all_range bs, List.size_toArray, ← rv.length, Paired.length pb]
    rfl
end G

set_option Elab.async false
set_option linter.all false
set_option maxRecDepth 100000
set_option maxHeartbeats 4000000
namespace G
open PySem L2 PySem.Spec PyProof.Rows
variable {M : Md} {H H' H1 H2 : Hp} {ι ι' ι1 ι2 : List Addr} {X : Cx} {W' : WX}

/-! ### calls of what is built in, once more -/
def trus (E : Hh) (ws : List W) : Option (List Bool) := match ws with
  | [] => some []
  | w :: r => match wTru w E, trus E r with
    | some b, some bs => some (b :: bs)
    | _, _ => none
theorem trus_ok {E : Hh} (R : Rel M ι E H) : ∀ {ws : List W} {bs : List Bool} {vs : List V}, trus E ws = some bs → RelWs M H ι ws vs → Paired (fun x b => TruV M.K x H b) vs bs
  | [], bs, vs, h, r => by
    obtain rfl : [] = bs := Option.some.inj h
    rw [show vs = [] from r]
    exact .nil
  | w :: ws, bs, vs, h, r => by
    obtain ⟨v, us, rfl, r1, r2⟩ := r
    unfold trus at h
    cases e1 : wTru w E with
    | none => rw [e1] at h; cases h
    | some b =>
      cases e2 : trus E ws with
      | none => rw [e1, e2] at h; cases h
      | some cs =>
        rw [e1, e2] at h
        obtain rfl : b :: cs = bs := Option.some.inj h
        exact .cons (tru_okW e1 R r1) (trus_ok R e2 r2)
def wBiX (f : Bi) (xs : List W) (E : Hh) : Option (W × Hh) := match f, xs with
  | .len, [x] => match dnOf E x with
    | some (_, kvs) => some (.int kvs.length, E)
    | none => wBi .len xs E
  | .any, [x] => match lstOf E x with
    | some (_, ws) => match trus E ws with
      | some bs => some (.bl (bs.any id), E)
      | none => none
    | none => none
  | .all, [x] => match lstOf E x with
    | some (_, ws) => match trus E ws with
      | some bs => some (.bl (bs.all id), E)
      | none => none
    | none => none
  | f, xs => wBi f xs E
def rBiX (M : Md) (f : Bi) : List V → Hp → VK → Prop := fun xs H Q => (match f with
  | .len => rLenN M xs H Q
  | .any => rTruths M.K (fun bs => bs.any id) xs H Q
  | .all => rTruths M.K (fun bs => bs.all id) xs H Q
  | _ => False) ∨ rBi M.K f xs H Q
theorem cr_biX {Γ : Gm} (a : At M Γ W' X) (f : Bi) : CallR X f.val (rBiX M f) := by
  have base := cr_bi a.calm f
  rw [a.K] at base
  intro pins s σ H xs us Q I r h
  rcases h with h | h
  · cases f with
    | len => exact cr_lenN a.K pins s σ H xs us Q I r h
    | any => exact cr_anyT a.calm pins s σ H xs us Q I r (by rw [a.K]; exact h)
    | all => exact cr_allT a.calm pins s σ H xs us Q I r (by rw [a.K]; exact h)
    | _ => exact h.elim
  · exact base pins s σ H xs us Q I r h
theorem biX_ok {f : Bi} {E E' : Hh} {xs : List W} {z : W} {vs : List V} {Q : VK} (h : wBiX f xs E = some (z, E')) (R : Rel M ι E H) (r : RelWs M H ι xs vs) (k : Fin M ι H z E' Q) : rBiX M f vs H Q := by
  unfold wBiX at h
  split at h
  · rename_i x
    split at h
    · rename_i n kvs e
      obtain ⟨rfl, rfl⟩ : (.int kvs.length : W) = z ∧ E = E' := by simpa using h
      obtain ⟨v, rfl, rx⟩ := one_ok r
      exact .inl ⟨ι, E, v, x, n, kvs, rfl, R, rx, e, k.now R rfl⟩
    · exact .inr (bi_ok (f := .len) h R r k)
  · rename_i x
    split at h
    · rename_i n ws e
      split at h
      · rename_i bs e2
        obtain ⟨rfl, rfl⟩ : (.bl (bs.any id) : W) = z ∧ E = E' := by simpa using h
        obtain ⟨v, rfl, rx⟩ := one_ok r
        obtain ⟨a, us, _, _, _, rfl, h1, rws⟩ := lst_ok R e rx
        exact .inl ⟨a, us, bs, rfl, SqL.of h1, trus_ok R e2 rws, k.now R rfl⟩
      · cases h
    · cases h
  · rename_i x
    split at h
    · rename_i n ws e
      split at h
      · rename_i bs e2
        obtain ⟨rfl, rfl⟩ : (.bl (bs.all id) : W) = z ∧ E = E' := by simpa using h
        obtain ⟨v, rfl, rx⟩ := one_ok r
        obtain ⟨a, us, _, _, _, rfl, h1, rws⟩ := lst_ok R e rx
        exact .inl ⟨a, us, bs, rfl, SqL.of h1, trus_ok R e2 rws, k.now R rfl⟩
      · cases h
    · cases h
  · exact .inr (bi_ok h R r k)
def wBiXA (f : Bi) (ca : Act (List W)) : Act W := fun σ E => andThen (ca σ E) fun ws E1 => lift (wBiX f ws E1)
theorem pe_biXG {Γ : Gm} {x : Str} {p pos : Pos} {f : Bi} {e : Expr} {es : List Expr} {ca : Act (List W)} (a : At M Γ W' X) (hb : biOf x = some f) (hg : Gl X x) (hm : X.mg x = none) (hp : (e :: es).all plainArg = true) (ha : PA X (e :: es) (SA M W' ca)) :
    PE X (.Call (.Name x p) (e :: es) [] pos) (SE M W' (wBiXA f ca)) := by
  rw [List.all_cons, Bool.and_eq_true] at hp
  have t : ∀ (σ : L2.St) (H : Hp) (Q : VK), SE M W' (wBiXA f ca) σ H Q → tCB (rBiX M f) (SA M W' ca) σ H Q := fun σ H Q ⟨ι, E, σE, R, rs, k⟩ => ⟨ι, E, σE, R, rs, (Rs.bind k).imp fun ws E1 h1 => fun ι1 H1 vs x1 R1 rws => by
    obtain ⟨w, E', e, g⟩ := h1.lift
    exact biX_ok e R1 rws fun ι2 H2 u x2 => g ι2 H2 u (x1.trans x2)⟩
  have ex : x = "len" ∧ f = .len ∨ x = "isinstance" ∧ f = .isi ∨ x = "all" ∧ f = .all ∨ x = "any" ∧ f = .any ∨ x = "sum" ∧ f = .sum ∨ x = "abs" ∧ f = .abs ∨ x = "int" ∧ f = .int ∨ x = "list" ∧ f = .list ∨ x = "tuple" ∧ f = .tuple := by
    unfold biOf at hb
    repeat' split at hb
    all_goals first | (cases hb; done) | (obtain rfl := Option.some.inj hb; simp [*])
  have cr := cr_biX a f
  rcases ex with ⟨rfl, rfl⟩ | ⟨rfl, rfl⟩ | ⟨rfl, rfl⟩ | ⟨rfl, rfl⟩ | ⟨rfl, rfl⟩ | ⟨rfl, rfl⟩ | ⟨rfl, rfl⟩ | ⟨rfl, rfl⟩ | ⟨rfl, rfl⟩
  · exact PE.imp (pe_callB cr hg hm PySem.boot_len ha (by decide +kernel) (by decide +kernel) (starEach_cons hp.1) (starEach_plain hp.2)) t
  · exact PE.imp (pe_callB cr hg hm (by decide +kernel) ha (by decide +kernel) (by decide +kernel) (starEach_cons hp.1) (starEach_plain hp.2)) t
  · exact PE.imp (pe_callB cr hg hm (by decide +kernel) ha (by decide +kernel) (by decide +kernel) (starEach_cons hp.1) (starEach_plain hp.2)) t
  · exact PE.imp (pe_callB cr hg hm (by decide +kernel) ha (by decide +kernel) (by decide +kernel) (starEach_cons hp.1) (starEach_plain hp.2)) t
  · exact PE.imp (pe_callB cr hg hm (by decide +kernel) ha (by decide +kernel) (by decide +kernel) (starEach_cons hp.1) (starEach_plain hp.2)) t
  · exact PE.imp (pe_callB cr hg hm (by decide +kernel) ha (by decide +kernel) (by decide +kernel) (starEach_cons hp.1) (starEach_plain hp.2)) t
  · exact PE.imp (pe_callTy cr hg hm (by decide +kernel) ha (by decide +kernel) (by decide +kernel) (starEach_cons hp.1) (starEach_plain hp.2)) t
  · exact PE.imp (pe_callTy cr hg hm (by decide +kernel) ha (by decide +kernel) (by decide +kernel) (starEach_cons hp.1) (starEach_plain hp.2)) t
  · exact PE.imp (pe_callTy cr hg hm (by decide +kernel) ha (by decide +kernel) (by decide +kernel) (starEach_cons hp.1) (starEach_plain hp.2)) t
end G

set_option Elab.async false
set_option linter.all false
set_option maxRecDepth 100000
set_option maxHeartbeats 4000000
namespace G
open PySem L2 PySem.Spec PyProof.Rows
variable {M : Md} {H H' H1 H2 : Hp} {ι ι' ι1 ι2 : List Addr} {X : Cx} {W' : WX}

/-! ### raise -/
def raiseS (P : Pg) (x : Str) : ActS := fun _ E => if P.exc x = true ∧ ¬ x = dbg then some (.ex x E) else none
theorem ps_raiseG {P : Pg} {Γ : Gm} {x m : Str} {j : Nat} {p p2 pos pos2 : Pos} (i : In M P Γ W' X) (hg : Gl X x) : PS X (.Raise (some (.Call (.Name x p) [.Constant (.str m) j p2] [] pos)) none pos2) (SS M W' (raiseS P x)) := by
  by_cases hx : P.exc x = true ∧ ¬ x = dbg
  · obtain ⟨C, hm, ec⟩ := i.glob.exc x hx.1
    have aK := i.at'.K
    refine PS.imp (L2N.ps_raise i.at'.calm i.at'.tk (L2N.pmk_own PySem.F.excBase_ValueError (C := C) (by rw [aK]; exact ec.make) (by rw [i.at'.mg]; exact hm) (by rw [aK]; exact ec.kp) (raises_own (by rw [aK]; exact ec.sub) (by rw [aK]; exact ec.ty)) hg (str_ne hx.2))) fun D σ H ⟨ι, E, σE, R, rs, k⟩ => ?_
    unfold raiseS at k
    rw [if_pos hx] at k
    rcases k with ⟨_, _, e, _⟩ | ⟨y, E', e, g⟩
    · cases e
    · cases e
      obtain ⟨C', h1, h2⟩ := g ι H (Ext.refl _ _) R
      rw [hm] at h1
      cases h1
      exact h2
  · exact ps_no fun σ E => by unfold raiseS; rw [if_neg hx]
end G

set_option Elab.async false
set_option linter.all false
set_option maxRecDepth 100000
set_option maxHeartbeats 4000000
namespace G
open PySem L2 PySem.Spec PyProof.Rows
variable {M : Md} {H H' H1 H2 : Hp} {ι ι' ι1 ι2 : List Addr} {X : Cx} {W' : WX}

/-! ### D.get(e), D a dict that the module's text writes -/
def getK (kvs : List (Str × W)) : W → Option W
  | .str z => some ((kvs.lookup z).getD .non)
  | _ => none
theorem getK_ok {kvs : List (Str × W)} {y w : W} (h : getK kvs y = some w) : ∃ z, y = .str z ∧ w = (kvs.lookup z).getD .non := by
  cases y with
  | str z =>
    unfold getK at h
    exact ⟨z, rfl, (Option.some.inj h).symm⟩
  | _ => cases h
def kgetA (kvs : List (Str × W)) (ca : Act W) : Act W := fun σ E => andThen (ca σ E) fun y E1 => lift ((getK kvs y).map fun w => (w, E1))
theorem pe_kgetG {Γ : Gm} {x : Str} {e : Expr} {p apos cpos : Pos} {kvs : List (Str × W)} {a : Addr} {ca : Act W} (at' : At M Γ W' X) (hg : Gl X x) (hm : M.mg x = some (.ref a)) (hd : (x == ("__debug__" : Str)) = false) (hk : Kd M a kvs) (hp : plainArg e = true) (hline : (apos.endLine == cpos.line) = true) (he : PE X e (SE M W' ca)) :
    PE X (.Call (.Attribute (.Name x p) "get" apos) [e] [] cpos) (SE M W' (kgetA kvs ca)) := by
  refine ⟨fun pins s σ H Q I ⟨ι, E, σE, R, rs, k⟩ => ?_⟩
  obtain ⟨es, n, hl, hkl, hz⟩ := hk.at_
  rw [← at'.K] at hl
  rw [← at'.w] at hkl
  have trees : backTo cpos (starEach [e] X.env) = [(false, eval e X.env)] := by
    rw [starEach_cons hp]
    rfl
  refine wpAny_Call_method (plainBase_ok rfl) (by rw [trees]; rfl) hline PySem.F.plainAttrs_dict PySem.F.slot_dict_get PySem.F.type_dict_get (thn ((pe_glob (v := .ref a) (u := .ref a) (pos := p) hg (by rw [at'.mg]; exact hm) rfl hd).run pins s σ H (fun v H1 => v = .ref a ∧ H1 = H) I ⟨rfl, rfl⟩) fun u s1 ⟨x', H1, I1, rx, ex, eH⟩ => ?_)
  subst ex
  subst eH
  obtain rfl : u = Value.ref a := rx
  have hm1 := PySem.W.mapOf_K (prog := X.prog) (w := X.w) I1.kIn hl hkl
  refine ⟨hm1.typeIs, hm1.noDict, ?_⟩
  rw [trees]
  refine Calls.callWith_builtin rfl (Calls.evalArgs_plain (Calls.spliced_cons (thn (he.run pins s1 σ H1 (fun v H2 => ∃ ι2 E2 y w, Ext M ι H1 ι2 H2 ∧ Rel M ι2 E2 H2 ∧ RelW M H2 ι2 y v ∧ getK kvs y = some w ∧ Fin M ι H1 w E2 Q) I1 ⟨ι, E, σE, R, rs, (Rs.bind k).imp fun y E2 h1 => fun ι2 H2 v x2 R2 ry => by
    obtain ⟨w, E3, ew, kq⟩ := h1.lift
    cases eg : getK kvs y with
    | none => rw [eg] at ew; cases ew
    | some w' =>
      rw [eg] at ew
      obtain ⟨rfl, rfl⟩ : w' = w ∧ E2 = E3 := by simpa using ew
      exact ⟨ι2, E2, y, w', x2, R2, ry, eg, kq⟩⟩) fun iv s2 ⟨yv, H2, I2, ry, ι2, E2, y, w, x2, R2, rw2, eg, kq⟩ => Calls.spliced_nil ?_)))
  obtain ⟨z, rfl, rfl⟩ := getK_ok eg
  obtain rfl : yv = V.str z := rw2
  obtain ⟨t, rfl⟩ := (show ∃ t, iv = Value.str z t from ry)
  have hm2 := PySem.W.mapOf_K (prog := X.prog) (w := X.w) I2.kIn hl hkl
  obtain ⟨r, er, hv⟩ := hz z
  rw [← at'.K] at er
  refine call_meetsIn PySem.F.slot_dict_get hm2.typeIs PySem.F.entry_dict_get (PySem.F.args_dict_get_2 _ _) (meets_dict_get (strKind X.prog X.w) a (strKind_is X.prog X.w z t) hk.low) ⟨_, hm2, ?_⟩
  rw [PySem.W.find_K hl er]
  unfold KdV at hv
  cases ez : kvs.lookup z with
  | none =>
    rw [ez] at hv kq
    subst hv
    exact ⟨.non, H2, I2.tok _, rfl, kq ι2 H2 .non x2 R2 rfl⟩
  | some w =>
    rw [ez] at hv kq
    obtain ⟨u, v, rfl, rv, rw3⟩ := hv
    exact ⟨v, H2, I2.tok _, rv, kq ι2 H2 v x2 R2 (rw3 H2 ι2)⟩
end G

set_option Elab.async false
set_option linter.all false
set_option maxRecDepth 100000
set_option maxHeartbeats 4000000
namespace G
open PySem L2 PySem.Spec PyProof.Rows
variable {M : Md} {H H' H1 H2 : Hp} {ι ι' ι1 ι2 : List Addr} {X : Cx} {W' : WX}

/-! ### a statement under a lock -/
theorem PS.or2 {s : Stmt} {t1 t2 : TS} (h1 : PS X s t1) (h2 : PS X s t2) : PS X s (fun D σ H => t1 D σ H ∨ t2 D σ H) := ⟨fun pins s σ H D I q => q.elim (h1.run pins s σ H D I) (h2.run pins s σ H D I)⟩
theorem RelS.tps {σE : Sg} {σ : L2.St} (tp : ∀ b xs, SqT M.K H b xs → SqT M.K H' b xs) (rs : RelS M H ι σE σ) : RelS M H' ι σE σ := ⟨rs.1, fun i w e => by
  obtain ⟨v, ev, rv⟩ := rs.2 i w e
  exact ⟨v, ev, RelW.tps tp rv⟩⟩
def lockS (ix : Sg → Hh → Option Nat) (ca : ActS) : ActS := fun σ E => match (ix σ E).bind fun i => ((E : List O)[i]?).bind fun o => (lockO o).map fun o' => (i, o') with
  | some (i, o') => andThen (ca σ (E.set i o')) fun f E1 => match ((E1 : List O)[i]?).bind freeO with
    | some u => some (.ok f (E1.set i u))
    | none => none
  | none => ca σ E
theorem ps_lockG {st : Stmt} {ix : Sg → Hh → Option Nat} {ca : ActS} (h : PS X st (SS M W' ca)) : PS X st (SS M W' (lockS ix ca)) := by
  refine PS.imp (PS.or2 h (ps_lock h)) fun D σ H ⟨ι, E, σE, R, rs, k⟩ => ?_
  unfold lockS at k
  split at k
  · rename_i p i o' hp
    right
    obtain ⟨i0, _, hp⟩ := Option.bind_eq_some_iff.mp hp
    obtain ⟨o, he, hp⟩ := Option.bind_eq_some_iff.mp hp
    obtain ⟨o1, hl, hp⟩ := Option.map_eq_some_iff.mp hp
    obtain ⟨rfl, rfl⟩ : i0 = i ∧ o1 = o' := by simpa using hp
    obtain ⟨a, ha, ro⟩ := R.obj i0 o he
    obtain ⟨u, hu, du, lk⟩ := lock_rel R ha he hl
    have h0 : ∀ q w, H a ≠ some (.frz q w) := fun q w z => by
      rw [hu] at z
      cases z
      exact du.nt.2.1 _ _ rfl
    refine ⟨a, u, hu, du.mut, fun od => ?_⟩
    obtain ⟨R0, x0⟩ := lk od
    refine ⟨ι, E.set i0 o1, σE, R0, rs.ext x0, ((Rs.bind k).ext x0).imp fun f E1 h1 => fun ι1 H1 x1 R1 => ?_⟩
    have hf : H1 a = some (.frz od u) := x1.frz _ _ _ upd_same
    have ha1 := pre_get x1.pre ha
    cases e1 : (E1 : List O)[i0]? with
    | none => rw [e1] at h1; exact h1.none.elim
    | some o2 =>
      rw [e1] at h1
      dsimp only [Option.bind] at h1
      cases e2 : freeO o2 with
      | none => rw [e2] at h1; exact h1.none.elim
      | some o3 =>
        rw [e2] at h1
        obtain ⟨R2, x2⟩ := free_rel R1 ha1 e1 e2 hf du (x0.trans x1) h0
        have tp : ∀ b xs, SqT M.K H1 b xs → SqT M.K (upd H1 a u) b xs := fun b xs h => by
          obtain ⟨n1, n2, n3⟩ := du.nt
          rcases h with (h | ⟨ob, h⟩) | h
          · exact .inl (.inl (by rw [upd_ne (fun z => by rw [z, hf] at h; cases h)]; exact h))
          · exact .inl (.inr ⟨ob, by rw [upd_ne (fun z => by rw [z, hf] at h; cases h; exact n1 _ rfl)]; exact h⟩)
          · exact .inr h
        have g := h1.ok ι1 _ x2 R2
        cases f with
        | nx σ1 => exact fun σ' rs' => ⟨hf, g σ' (RelS.tps tp rs')⟩
        | rt w => exact fun v rv => ⟨hf, g v (RelW.tps tp rv)⟩
        | bk σ1 => exact fun σ' rs' => ⟨hf, g σ' (RelS.tps tp rs')⟩
        | ct σ1 => exact fun σ' rs' => ⟨hf, g σ' (RelS.tps tp rs')⟩
  · exact .inl ⟨ι, E, σE, R, rs, k⟩
end G

set_option Elab.async false
set_option linter.all false
set_option maxRecDepth 100000
set_option maxHeartbeats 4000000
namespace G
open PySem L2 PySem.Spec PyProof.Rows
variable {M : Md} {H H' H1 H2 : Hp} {ι ι' ι1 ι2 : List Addr} {X : Cx} {W' : WX}

/-! ### x, y, z = a, b, c -/
theorem three_ok {x y z : W} {vs : List V} (r : RelWs M H ι [x, y, z] vs) : ∃ a b c, vs = [a, b, c] ∧ RelW M H ι x a ∧ RelW M H ι y b ∧ RelW M H ι z c := by
  obtain ⟨a, r1, rfl, h1, h2⟩ := r
  obtain ⟨b, c, rfl, h3, h4⟩ := two_ok h2
  exact ⟨a, b, c, rfl, h1, h3, h4⟩
def okPar3 (Γ : Gm) (x y z : Str) (i j l : Nat) : Bool := decide (i ≠ j) && decide (i ≠ l) && decide (j ≠ l) && (Γ.names.lookup x == some .local) && (Γ.names.lookup y == some .local) && (Γ.names.lookup z == some .local)
def par3 (Γ : Gm) (x y z : Str) (ca : Act (List W)) : ActS := fun σ E => match ixOf x Γ.N, ixOf y Γ.N, ixOf z Γ.N with
  | some i, some j, some l => if okPar3 Γ x y z i j l = true then andThen (ca σ E) fun ws E1 => match ws with
    | [u, v, w] => some (.ok (.nx (((σ.set i (some u)).set j (some v)).set l (some w))) E1)
    | _ => none
    else none
  | _, _, _ => none
theorem ps_par3G {Γ : Gm} {x y z : Str} {e f g : Expr} {px py pz pt pt2 pos : Pos} {kt k2 : Nat} {ca : Act (List W)} (a : At M Γ W' X) (hsw : swF Γ.names [.Name x px, .Name y py, .Name z pz] [e, f, g] = some (some [x, y, z])) (ha : PA X [e, f, g] (SA M W' ca)) :
    PS X (.Assign [.Tuple [.Name x px, .Name y py, .Name z pz] kt pt] (.Tuple [e, f, g] k2 pt2) pos) (SS M W' (par3 Γ x y z ca)) := by
  have no : ∀ {c : Prop}, (¬ c → ∀ σ E, par3 Γ x y z ca σ E = none) → (c → PS X (.Assign [.Tuple [.Name x px, .Name y py, .Name z pz] kt pt] (.Tuple [e, f, g] k2 pt2) pos) (SS M W' (par3 Γ x y z ca))) → PS X (.Assign [.Tuple [.Name x px, .Name y py, .Name z pz] kt pt] (.Tuple [e, f, g] k2 pt2) pos) (SS M W' (par3 Γ x y z ca)) := fun {c} h1 h2 => by
    by_cases h : c
    · exact h2 h
    · exact ps_no (h1 h)
  refine no (c := ∃ i j l, ixOf x Γ.N = some i ∧ ixOf y Γ.N = some j ∧ ixOf z Γ.N = some l ∧ okPar3 Γ x y z i j l = true) (fun h σ E => ?_) fun ⟨i, j, l, hx, hy, hz, hc⟩ => ?_
  · unfold par3
    split
    · rename_i i j l hx hy hz
      exact if_neg fun hc => h ⟨i, j, l, hx, hy, hz, hc⟩
    · rfl
  · have h2 := hc
    simp only [okPar3, Bool.and_eq_true, decide_eq_true_eq, beq_iff_eq] at h2
    obtain ⟨⟨⟨⟨⟨n1, n2⟩, n3⟩, l1⟩, l2⟩, l3⟩ := h2
    refine PS.imp (ps_par3 (i := i) (j := j) (l := l) a.calm (by rw [a.N]; exact a.nd) (by rw [a.N]; exact ixOf_ok hx) (by rw [a.N]; exact ixOf_ok hy) (by rw [a.N]; exact ixOf_ok hz) n1 n2 n3 (by rw [a.names]; exact l1) (by rw [a.names]; exact l2) (by rw [a.names]; exact l3) ha (sw_st a hsw) rfl) fun D σ H ⟨ι, E, σE, R, rs, k⟩ => ?_
    unfold par3 at k
    rw [hx, hy, hz] at k
    dsimp only at k
    rw [if_pos hc] at k
    refine ⟨ι, E, σE, R, rs, (Rs.bind k).imp fun ws E1 h1 => fun ι1 H1 vs x1 R1 rws => ?_⟩
    match ws, rws, h1 with
    | [u, v, w], rws, h1 =>
      obtain ⟨uu, vv, ww, rfl, ru, rv, rw'⟩ := three_ok rws
      exact ⟨uu, vv, ww, rfl, h1.ok ι1 H1 x1 R1 _ ((((rs.ext x1).set ru).set rv).set rw')⟩
    | [], rws, h1 => exact h1.none.elim
    | [_], rws, h1 => exact h1.none.elim
    | [_, _], rws, h1 => exact h1.none.elim
    | _ :: _ :: _ :: _ :: _, rws, h1 => exact h1.none.elim
end G

set_option Elab.async false
set_option linter.all false
set_option maxRecDepth 100000
set_option maxHeartbeats 4000000
namespace G
open PySem L2 PySem.Spec PyProof.Rows
variable {M : Md} {H H' H1 H2 : Hp} {ι ι' ι1 ι2 : List Addr} {X : Cx} {W' : WX}

/-! ### max -/
def topI : Int → List Int → Int
  | m, [] => m
  | m, n :: r => topI (if n > m then n else m) r
theorem topI_ge : ∀ (r : List Int) (m : Int), m ≤ topI m r ∧ ∀ y ∈ r, y ≤ topI m r
  | [], m => ⟨Int.le_refl _, fun y h => nomatch h⟩
  | n :: r, m => by
    obtain ⟨h1, h2⟩ := topI_ge r (if n > m then n else m)
    have h0 : m ≤ (if n > m then n else m) ∧ n ≤ (if n > m then n else m) := by split <;> omega
    refine ⟨Int.le_trans h0.1 h1, fun y hy => ?_⟩
    rcases List.mem_cons.mp hy with rfl | hy
    · exact Int.le_trans h0.2 h1
    · exact h2 y hy
theorem topI_mem : ∀ (r : List Int) (m : Int), topI m r = m ∨ topI m r ∈ r
  | [], m => .inl rfl
  | n :: r, m => by
    unfold topI
    rcases topI_mem r (if n > m then n else m) with h | h
    · split at h
      · rename_i c
        rw [if_pos c]
        exact .inr (by rw [h]; exact List.mem_cons_self)
      · rename_i c
        rw [if_neg c]
        exact .inl h
    · exact .inr (List.mem_cons_of_mem _ h)
def wMax (xs : List W) (E : Hh) : Option (W × Hh) := match xs with
  | [.int i, .int j] => some (.int (if j > i then j else i), E)
  | [x] => match lstOf E x with
    | some (_, ws) => match ws.mapM intW with
      | some (n :: ns) => some (.int (topI n ns), E)
      | _ => none
    | none => none
  | _ => none
def rMaxG (K : PySem.W.Frag) : List V → Hp → VK → Prop := fun vs H Q => (∃ i j, vs = [.int i, .int j] ∧ Q (.int (if j > i then j else i)) H) ∨ rMax K vs H Q
theorem max_ok {E E' : Hh} {xs : List W} {z : W} {vs : List V} {Q : VK} (h : wMax xs E = some (z, E')) (R : Rel M ι E H) (r : RelWs M H ι xs vs) (k : Fin M ι H z E' Q) : rMaxG M.K vs H Q := by
  unfold wMax at h
  split at h
  · rename_i i j
    obtain ⟨v, u, rfl, rv, ru⟩ := two_ok r
    obtain ⟨rfl, rfl⟩ : (.int (if j > i then j else i) : W) = z ∧ E = E' := by simpa using h
    rw [show v = .int i from rv, show u = .int j from ru]
    exact .inl ⟨i, j, rfl, k.now R rfl⟩
  · rename_i x
    obtain ⟨v, rfl, rx⟩ := one_ok r
    split at h
    · rename_i p i ws e
      split at h
      · rename_i n ns e2
        obtain ⟨rfl, rfl⟩ : (.int (topI n ns) : W) = z ∧ E = E' := by simpa using h
        obtain ⟨a, us, _, _, _, rfl, h1, rw⟩ := lst_ok R e rx
        rw [ints_ok e2 rw] at h1
        refine .inr ⟨a, n :: ns, rfl, SqL.of h1, Nat.succ_pos _, fun m hm hall => ?_⟩
        have g := topI_ge ns n
        have e3 : topI n ns = m := by
          have a1 : topI n ns ≤ m := hall _ (by
            rcases topI_mem ns n with h | h
            · rw [h]; exact List.mem_cons_self
            · exact List.mem_cons_of_mem _ h)
          have a2 : m ≤ topI n ns := by
            rcases List.mem_cons.mp hm with rfl | hm
            · exact g.1
            · exact g.2 m hm
          omega
        rw [← e3]
        exact k.now R rfl
      · cases h
    · cases h
  · cases h
theorem cr_maxG (hc : X.calm = true) : CallR X (.builtin "max") (rMaxG X.K) := fun pins s σ H vs us Q I r h => h.elim (call_max2 hc pins s σ H vs us Q I r) (cr_max hc pins s σ H vs us Q I r)
def wMaxA (ca : Act (List W)) : Act W := fun σ E => andThen (ca σ E) fun ws E1 => lift (wMax ws E1)
theorem pe_maxG {Γ : Gm} {p pos : Pos} {e : Expr} {es : List Expr} {ca : Act (List W)} (a : At M Γ W' X) (hg : Gl X "max") (hm : X.mg "max" = none) (hp : (e :: es).all plainArg = true) (ha : PA X (e :: es) (SA M W' ca)) :
    PE X (.Call (.Name "max" p) (e :: es) [] pos) (SE M W' (wMaxA ca)) := by
  rw [List.all_cons, Bool.and_eq_true] at hp
  refine PE.imp (pe_callB (cr_maxG a.calm) hg hm boot_max ha (by decide +kernel) (by decide +kernel) (starEach_cons hp.1) (starEach_plain hp.2)) fun σ H Q ⟨ι, E, σE, R, rs, k⟩ => ⟨ι, E, σE, R, rs, (Rs.bind k).imp fun ws E1 h1 => fun ι1 H1 vs x1 R1 rws => ?_⟩
  obtain ⟨w, E', e, g⟩ := h1.lift
  rw [a.K]
  exact max_ok e R1 rws fun ι2 H2 u x2 => g ι2 H2 u (x1.trans x2)
end G

set_option Elab.async false
set_option linter.all false
set_option maxRecDepth 100000
set_option maxHeartbeats 4000000
namespace G
open PySem L2 PySem.Spec PyProof.Rows
section
variable {P0 : Program} {w : World} {A : Around} {E : Value → Shared → Prop} {s : Shared}

/-! ### list(enumerate(x)): the walk, whose pairs are kept -/
/-- the object of an enumerate whose last pair, at a, is kept by someone (f: it has noticed) -/
def enO (it : Addr) (i : Nat) (a : Addr) (f : Bool) (old : Value) : Obj := { cls := .type "enumerate", dict := none, data := .fields #[rawInt a, .bool f, .ref it, rawInt i, .none, old], slots := #[] }
def EnS (h : Heap) (e it S : Addr) (i : Nat) : Prop :=
  (i = 0 ∧ ∃ old, IsEnum h e it 0 old) ∨ ∃ a f old oa, h.get? e = some (enO it i a f old) ∧ h.get? a = some oa ∧ a ≠ e ∧ a ≠ it ∧ a ≠ S
theorem en_out {e it a : Addr} {fp : List Addr} {n i : Nat} {P : Nat → Value → Prop} {St : Nat → Heap → Prop} {old : Value} {f : Bool} {oa : Obj} {Q : Option Value → Shared → Prop}
    (D : Draws P0 w A.in1 it fp n P St) (he : s.heap.get? e = some (enO it i a f old)) (ha : s.heap.get? a = some oa) (hae : a ≠ e) (hai : a ≠ it) (hst : St i s.heap) (hlt : i < n) (hne : e ≠ it) (hef : e ∉ fp)
    (hQ : ∀ x h' tk, P i x → h'.get? e = some (enO it (i + 1) a true old) → St (i + 1) h' → h'.get? s.heap.objs.size = some { cls := .type "tuple", data := .seq #[.int i tk, x] } → h'.objs.size = s.heap.objs.size + 1 →
      (∀ b o, b ≠ e → b ≠ it → s.heap.get? b = some o → h'.get? b = some o) → Q (some (.ref s.heap.objs.size)) { s with heap := h', toks := tk + 1 }) :
    wpAny (model P0 w) A (pyNext (.ref e)) Q E s := by
  obtain ⟨h0, gn, dr, t0, os⟩ := s
  have hT : Shared.TypeIs ⟨h0, gn, dr, t0, os⟩ (.ref e) "enumerate" := ⟨_, he, rfl⟩
  unfold pyNext
  refine wpAny_bind (wpAny_attempt (wpAny_callSpecial?_slot (name := Str.ofString "__next__") hT F.slot_enumerate_next (wpAny_call_entry F.slot_enumerate_next hT F.entry_enumerate_next ?_ (F.args_enumerate_next_1 _))))
  have lte : e < h0.objs.size := Heap.lt_size he
  refine wpAny_bind (wpAny_pure ?_)
  refine wpAny_bind (wpAny_field he rfl (x := .ref it) rfl ?_)
  refine wpAny_bind (D.item i _ _ _ hlt hst fun x h1 tk px st1 sb1 => ?_)
  replace sb1 : Heap.SameBut it h0 h1 := sb1
  have e1 : h1.get? e = some (enO it i a f old) := (sb1.2 e hne).trans he
  refine wpAny_bind (wpAny_field (s := ⟨h1, gn, dr, tk, os⟩) e1 rfl (x := rawInt i) rfl ?_)
  refine wpAny_bind (wpAny_field (s := ⟨h1, gn, dr, tk, os⟩) e1 rfl (x := .none) rfl ?_)
  refine wpAny_bind (m := mkInt i) (wpAny_mkInt ?_)
  refine wpAny_bind (wpAny_setField_rec (s := ⟨h1, gn, dr, tk + 1, os⟩) e1 (by simp) fun h2 e2 sb2 => ?_)
  replace sb2 : Heap.SameBut e h1 h2 := sb2
  replace e2 : h2.get? e = some (enO it (i + 1) a f old) := by
    have z : ((i + 1 : Nat) : Int) = (i : Int) + 1 := by omega
    unfold enO; rw [z]; simpa [rawInt, enO] using e2
  refine wpAny_bind (wpAny_setField_rec (s := ⟨h2, gn, dr, tk + 1, os⟩) e2 (by simp) fun h3 e3 sb3 => ?_)
  replace sb3 : Heap.SameBut e h2 h3 := sb3
  replace e3 : h3.get? e = some (enO it (i + 1) a f old) := e3
  refine wpAny_bind (m := newTuple [.int i tk, x]) (wpAny_newTuple ?_)
  show wpAny _ _ (Builtin.SmallTypes.ownedTupleIsFree (.ref e) >>= _) _ _ ⟨h3.push { cls := .type "tuple", data := .seq #[.int i tk, x] }, gn, dr, tk + 1, os⟩
  have e4 : (h3.push { cls := .type "tuple", data := .seq #[.int i tk, x] }).get? e = some (enO it (i + 1) a f old) := Heap.get?_push_of_some _ e3
  generalize q4 : h3.push { cls := .type "tuple", data := .seq #[.int i tk, x] } = h4 at e4 ⊢
  have sz3 : h3.objs.size = h0.objs.size := by rw [sb3.1, sb2.1, sb1.1]
  have tup4 : h4.get? h0.objs.size = some { cls := .type "tuple", data := .seq #[.int i tk, x] } := by rw [← q4, ← sz3]; exact Heap.get?_push_size _ rfl
  have sz4 : h4.objs.size = h0.objs.size + 1 := by rw [← q4, Heap.size_push, sz3]
  have kp4 : ∀ b o, b ≠ e → b ≠ it → h0.get? b = some o → h4.get? b = some o := fun b o n1 n2 z => by
    rw [← q4]
    exact Heap.get?_push_of_some _ (sb3.extBut b o n1 (sb2.extBut b o n1 (sb1.extBut b o n2 z)))
  have st4 : St (i + 1) h4 := D.frame _ _ _ st1 fun b hb o y => by
    have n1 : b ≠ e := fun z => hef (z ▸ hb)
    rw [← q4]
    exact Heap.get?_push_of_some _ (sb3.extBut b o n1 (sb2.extBut b o n1 y))
  rw [sz3]
  clear q4 e3 sb3 e2 sb2 e1 sb1 st1 sz3 h3 h2 h1
  have a4 : h4.get? a = some oa := kp4 a oa hae hai ha
  have fin : ∀ h5 : Heap, h5.get? e = some (enO it (i + 1) a true old) → Heap.SameBut e h4 h5 → Q (some (.ref h0.objs.size)) ⟨h5, gn, dr, tk + 1, os⟩ := fun h5 e5 sb5 =>
    hQ x h5 tk px e5 (D.frame _ _ _ st4 fun b hb o y => sb5.extBut b o (fun z => hef (z ▸ hb)) y) (sb5.extBut _ _ (Nat.ne_of_gt lte) tup4) (by show h5.objs.size = h0.objs.size + 1; rw [sb5.1, sz4]) fun b o n1 n2 y => sb5.extBut b o n1 (kp4 b o n1 n2 y)
  refine wpAny_bind (m := Builtin.SmallTypes.ownedTupleIsFree (.ref e)) ?_
  unfold Builtin.SmallTypes.ownedTupleIsFree
  refine wpAny_bind (wpAny_field (s := ⟨h4, gn, dr, tk + 1, os⟩) e4 rfl (x := rawInt a) rfl ?_)
  show wpAny _ _ (loadIfAlive ((a : Int).toNat) >>= _) _ _ _
  rw [Int.toNat_natCast]
  refine wpAny_bind (PySem.W.kdx_alive a4 ?_)
  simp only [Option.isNone_some, Bool.false_eq_true, if_false]
  refine wpAny_bind (wpAny_field (s := ⟨h4, gn, dr, tk + 1, os⟩) e4 rfl (x := .bool f) rfl ?_)
  cases f with
  | true =>
    rw [if_neg (show ¬ ((Value.bool true != Value.bool true) = true) from Bool.false_ne_true)]
    refine wpAny_pure ?_
    simp only [Bool.false_eq_true, if_false]
    exact wpAny_pure ⟨_, rfl, wpAny_pure (fin h4 e4 (Heap.SameBut.refl _ _))⟩
  | false =>
    rw [if_pos (show (Value.bool false != Value.bool true) = true from rfl)]
    refine wpAny_bind (wpAny_setField_rec (s := ⟨h4, gn, dr, tk + 1, os⟩) e4 (by simp) fun h5 e5 sb5 => ?_)
    refine wpAny_pure ?_
    simp only [Bool.false_eq_true, if_false]
    exact wpAny_pure ⟨_, rfl, wpAny_pure (fin h5 e5 sb5)⟩
theorem en_end {e it a : Addr} {fp : List Addr} {n i : Nat} {P : Nat → Value → Prop} {St : Nat → Heap → Prop} {old : Value} {f : Bool} {Q : Option Value → Shared → Prop}
    (D : Draws P0 w A.in1 it fp n P St) (he : s.heap.get? e = some (enO it i a f old)) (hst : St n s.heap) (hQ : ∀ h', Heap.ExtBut it s.heap h' → Q none { s with heap := h' }) : wpAny (model P0 w) A (pyNext (.ref e)) Q E s := by
  have hT : s.TypeIs (.ref e) "enumerate" := ⟨_, he, rfl⟩
  unfold pyNext
  refine wpAny_bind (wpAny_attempt (wpAny_callSpecial?_slot (name := Str.ofString "__next__") hT F.slot_enumerate_next (wpAny_call_entry F.slot_enumerate_next hT F.entry_enumerate_next ?_ (F.args_enumerate_next_1 _))))
  refine wpAny_bind (wpAny_pure ?_)
  refine wpAny_bind (wpAny_field he rfl (x := .ref it) rfl ?_)
  refine wpAny_bind (D.done _ _ _ hst fun h' x k1 ⟨o, ho, hc⟩ => ?_)
  exact wpAny_bind (wpAny_isInstance (T := "StopIteration") (b := true) ⟨o, ho, hc⟩ isSubtype_stop (wpAny_pure (hQ _ k1)))
theorem EnS.keep {h h' : Heap} {e it S : Addr} {i : Nat} (x : EnS h e it S i) (k : ∀ b o, b ≠ S → h.get? b = some o → h'.get? b = some o) (ne : e ≠ S) : EnS h' e it S i := by
  rcases x with ⟨z, old, q⟩ | ⟨a, f, old, oa, q, qa, n1, n2, n3⟩
  · exact .inl ⟨z, old, k _ _ ne q⟩
  · exact .inr ⟨a, f, old, oa, k _ _ ne q, k _ _ n3 qa, n1, n2, n3⟩
theorem en_item {e it S : Addr} {fp : List Addr} {n i : Nat} {P : Nat → Value → Prop} {St : Nat → Heap → Prop} {Q : Option Value → Shared → Prop}
    (D : Draws P0 w A.in1 it fp n P St) (x : EnS s.heap e it S i) (hS : S < s.heap.objs.size) (hit : it < s.heap.objs.size) (hst : St i s.heap) (hlt : i < n) (hne : e ≠ it) (hef : e ∉ fp)
    (hQ : ∀ x h' tk, P i x → EnS h' e it S (i + 1) → St (i + 1) h' → h'.get? s.heap.objs.size = some { cls := .type "tuple", data := .seq #[.int i tk, x] } → h'.objs.size = s.heap.objs.size + 1 →
      (∀ b o, b ≠ e → b ≠ it → s.heap.get? b = some o → h'.get? b = some o) → Q (some (.ref s.heap.objs.size)) { s with heap := h', toks := tk + 1 }) :
    wpAny (model P0 w) A (pyNext (.ref e)) Q E s := by
  rcases x with ⟨rfl, old, q⟩ | ⟨a, f, old, oa, q, qa, n1, n2, n3⟩
  · refine wpAny_pyNext_enum_itemD D q hst hlt hne hef fun x h' tk px o1 st tup sz k => hQ x h' tk px (.inr ⟨s.heap.objs.size, false, x, _, ?_, tup, Nat.ne_of_gt (Heap.lt_size q), Nat.ne_of_gt hit, Nat.ne_of_gt hS⟩) st tup sz k
    simpa [enO] using o1
  · exact en_out D q qa n1 n2 hst hlt hne hef fun x h' tk px o1 st tup sz k => hQ x h' tk px (.inr ⟨a, true, old, oa, o1, k a oa n1 n2 qa, n1, n2, n3⟩) st tup sz k
theorem en_done {e it S : Addr} {fp : List Addr} {n : Nat} {P : Nat → Value → Prop} {St : Nat → Heap → Prop} {Q : Option Value → Shared → Prop}
    (D : Draws P0 w A.in1 it fp n P St) (x : EnS s.heap e it S n) (hst : St n s.heap) (hQ : ∀ h', Heap.ExtBut it s.heap h' → Q none { s with heap := h' }) : wpAny (model P0 w) A (pyNext (.ref e)) Q E s := by
  rcases x with ⟨z, old, q⟩ | ⟨a, f, old, oa, q, qa, n1, n2, n3⟩
  · exact wpAny_pyNext_enum_endD D q hst hQ
  · exact en_end D q hst hQ
/-- the pairs so far -/
structure EnG (P : Nat → Value → Prop) (lo : Addr) (h : Heap) (as : List Addr) : Prop where
  up : as.Pairwise (· < ·)
  ab : ∀ a ∈ as, lo < a
  is : ∀ (j : Nat) (a : Addr), as[j]? = some a → ∃ t x, P j x ∧ h.get? a = some { cls := .type "tuple", data := .seq #[.int j t, x] }
theorem EnG.lt {P : Nat → Value → Prop} {lo : Addr} {h : Heap} {as : List Addr} (g : EnG P lo h as) {a : Addr} (ha : a ∈ as) : a < h.objs.size := by
  obtain ⟨j, hj⟩ := List.mem_iff_getElem?.mp ha
  obtain ⟨_, _, _, z⟩ := g.is j a hj
  exact Heap.lt_size z
theorem en_loop {R : Result → Shared → Prop} {S e it : Addr} {fp : List Addr} {n : Nat} {P : Nat → Value → Prop} {St : Nat → Heap → Prop} (D : Draws P0 w A.in1.in1 it fp n P St) (heS : e < S) (hie : it < e) (hSi : S ≠ it) (hSf : S ∉ fp) (hef : e ∉ fp) (hn : n ≤ sizeLine) (res : Value) {h₁ : Heap}
    (hR : ∀ h' tk acc c as, (∀ b o, b ≠ S → b ≠ e → b ≠ it → h₁.get? b = some o → h'.get? b = some o) → h'.get? S = some { cls := .type "list", dict := none, data := .seq acc c, slots := #[] } → as.length = n → EnG P S h' as →
      acc.toList = as.map Value.ref → R (.ok (.ret res)) { s with heap := h', toks := tk }) :
    ∀ (k i : Nat) (h : Heap) (tk c : Nat) (acc : Array Value) (as : List Addr), n - i = k → i ≤ n → EnS h e it S i → St i h → (∀ b o, b ≠ S → b ≠ e → b ≠ it → h₁.get? b = some o → h.get? b = some o) →
      h.get? S = some { cls := .type "list", dict := none, data := .seq acc c, slots := #[] } → acc.toList = as.map Value.ref → as.length = i → EnG P S h as →
      codeAny (model P0 w) A (.builtin "list.extend.loop" ⟨[.ref S, .ref e, res], []⟩) R { s with heap := h, toks := tk } := by
  have nSe : S ≠ e := Nat.ne_of_gt heS
  have nei : e ≠ it := Nat.ne_of_gt hie
  intro k
  induction k with
  | zero =>
    intro i h tk c acc as hk hi x st kp hS ha hl g
    obtain rfl : i = n := by omega
    refine codeAny_builtin PySem.F.entry_extend_loop ?_
    rw [Around.under_plainId PySem.F.plain_extend_loop _]
    refine wpAny_bind (m := pyNext (.ref e)) (en_done (s := { s with heap := h, toks := tk }) (A := A.in1) D x st fun h' z => ?_)
    refine wpAny_pure (hR h' tk acc c as (fun b o n1 n2 n3 q => z b o n3 (kp b o n1 n2 n3 q)) (z S _ hSi hS) hl ⟨g.up, g.ab, fun j a hj => ?_⟩ ha)
    obtain ⟨t, y, py, q⟩ := g.is j a hj
    exact ⟨t, y, py, z a _ (Nat.ne_of_gt (Nat.lt_trans hie (Nat.lt_trans heS (g.ab a (List.mem_of_getElem? hj))))) q⟩
  | succ k ih =>
    intro i h tk c acc as hk hi x st kp hS ha hl g
    have hlt : i < n := by omega
    have sz : acc.size = i := by rw [← Array.length_toList, ha, List.length_map, hl]
    refine codeAny_builtin PySem.F.entry_extend_loop ?_
    rw [Around.under_plainId PySem.F.plain_extend_loop _]
    refine wpAny_bind (m := pyNext (.ref e)) (en_item (s := { s with heap := h, toks := tk }) (A := A.in1) (S := S) D x (Heap.lt_size hS) (Nat.lt_trans (Nat.lt_trans hie heS) (Heap.lt_size hS)) st hlt nei hef fun y h' t py x' st' tup sz' kp' => ?_)
    dsimp only at tup sz' kp' ⊢
    have hS' := kp' S _ nSe hSi hS
    have upS : ∀ b o, b ≠ S → h'.get? b = some o → (h'.update S (Obj.mapSeq (·.push (Value.ref h.objs.size)))).get? b = some o := fun b o n1 q => (Heap.get?_update_other _ _ (Ne.symm n1)).trans q
    have ltS : S < h.objs.size := Heap.lt_size hS
    refine wpAny_bind (m := updateSeq S (·.push (Value.ref h.objs.size))) ?_
    refine wpAny_updateSeq (s := { s with heap := h', toks := t + 1 }) hS' rfl (wpAny_pure ⟨plainId_quiet PySem.F.plain_extend_loop _, ih (i + 1) _ (t + 1) _ (acc.push (Value.ref h.objs.size)) (as ++ [h.objs.size]) (by omega) hlt (x'.keep upS nSe.symm)
      (D.frame _ _ _ st' fun b hb o q => upS b o (fun z => hSf (z ▸ hb)) q) (fun b o n1 n2 n3 q => upS b o n1 (kp' b o n2 n3 (kp b o n1 n2 n3 q))) (Heap.get?_update_self _ hS' rfl) (by rw [Array.toList_push, ha, List.map_append]; rfl) (by rw [List.length_append, hl]; rfl) ⟨?_, ?_, ?_⟩⟩) (by rw [sz]; omega)
      (by show (acc.push (Value.ref h.objs.size)).size ≤ sizeLine + 1; rw [Array.size_push, sz]; omega)
    · exact List.pairwise_append.mpr ⟨g.up, List.pairwise_singleton _ _, fun a h1 b h2 => by rw [List.mem_singleton.mp h2]; exact g.lt h1⟩
    · intro a h1
      rcases List.mem_append.mp h1 with h1 | h1
      · exact g.ab a h1
      · rw [List.mem_singleton.mp h1]; exact Heap.lt_size hS
    · intro j b hj
      by_cases h1 : j < as.length
      · rw [List.getElem?_append_left h1] at hj
        obtain ⟨t', y', py', q⟩ := g.is j b hj
        have gb := g.ab b (List.mem_of_getElem? hj)
        exact ⟨t', y', py', upS b _ (Nat.ne_of_gt gb) (kp' b _ (Nat.ne_of_gt (Nat.lt_trans heS gb)) (Nat.ne_of_gt (Nat.lt_trans hie (Nat.lt_trans heS gb))) q)⟩
      · have h2 : j = i := by
          have z := (List.getElem?_eq_some_iff.mp hj).1
          rw [List.length_append, List.length_singleton] at z
          omega
        subst h2
        rw [List.getElem?_append_right (by omega), hl, Nat.sub_self] at hj
        obtain rfl : h.objs.size = b := by simpa using hj
        exact ⟨t, y, py, upS _ _ (Nat.ne_of_gt ltS) tup⟩
end
end G

set_option Elab.async false
set_option linter.all false
set_option maxRecDepth 100000
set_option maxHeartbeats 4000000
namespace G
open PySem L2 PySem.Spec PyProof.Rows
section
variable {P0 : Program} {w : World} {κ : Type} [DecidableEq κ] {knd : PySem.KeyKind P0 w κ} {A : Around} {E : Value → Shared → Prop} {s : Shared}

/-! ### {**a, **b}: a dict goes into another one -/
theorem put_one {d : Addr} {kvs : List (κ × Value)} {k : κ} {key v : Value} {Q : Unit → Shared → Prop} (hkey : knd.is k key = true) (hm : s.heap.DictOf knd d kvs) (hsz : kvs.length ≤ sizeLine)
    (hQ : ∀ h', h'.DictOf knd d (stored kvs k v) → Heap.SameBut d s.heap h' → Q () { s with heap := h' }) : wpAny (model P0 w) A (dictPut d (knd.hash k) key v) Q E s := by
  obtain ⟨o, es, ep, ho, hc, hd, hk, hp, hn⟩ := hm
  have few : es.size ≤ sizeLine := by
    have z := hp.length
    rw [Array.length_toList] at z
    omega
  unfold dictPut
  refine wpAny_bind (wpAny_dictFind_of hkey ho hd hk ?_)
  have same : (es.findIdx? fun e => knd.is k e.key) = kvs.findIdx? fun kv => decide (kv.1 = k) := by
    rw [← hp.findIdx k]
    obtain ⟨l⟩ := es
    simp
  cases hi : es.findIdx? fun e => knd.is k e.key with
  | some i =>
    refine wpAny_updateDict ho hd (hQ _ ⟨_, _, ep, Heap.get?_update_self _ ho (Obj.isFreed_of_dict (Obj.data_mapDict hd _)), hc.mapDict _, Obj.data_mapDict hd _, hk.modify _ _, ?_, ?_⟩ (Heap.SameBut.update ..))
    · rw [stored, if_pos (any_of_findIdx_some (same ▸ hi))]
      have hl : (es.toList.findIdx? fun e => knd.is k e.key) = some i := by
        rw [← hi]
        obtain ⟨l⟩ := es
        simp
      have z := hp.modify hn hl v
      obtain ⟨l⟩ := es
      simpa using z
    · rw [stored, if_pos (any_of_findIdx_some (same ▸ hi)), keys_map_store]
      exact hn
  | none =>
    have out : k ∉ kvs.map (·.1) := not_mem_of_findIdx_none (same ▸ hi)
    have no : ¬ (kvs.any fun kv => decide (kv.1 = k)) = true := fun z => by
      obtain ⟨kv, m, q⟩ := List.any_eq_true.mp z
      exact out (List.mem_map.mpr ⟨kv, m, of_decide_eq_true q⟩)
    refine wpAny_updateDictKeys (hz := few) ho hd (hQ _ ⟨_, _, ep + 1, Heap.get?_update_self _ ho (Obj.isFreed_of_dict (Obj.data_mapDictKeys hd _)), hc.mapDictKeys _, Obj.data_mapDictKeys hd _, hk.push hkey _, ?_, ?_⟩ (Heap.SameBut.update ..))
    · rw [stored, if_neg no]
      have z := hp.append hkey (knd.hash k) v
      obtain ⟨l⟩ := es
      simpa using z
    · rw [stored, if_neg no, List.map_append, List.nodup_append]
      refine ⟨hn, by simp, fun a ha b hb => ?_⟩
      obtain rfl : b = k := by simpa using hb
      exact fun z => out (z ▸ ha)
theorem merge_in {d o : Addr} {kvs more : List (κ × Value)} {Q : Unit → Shared → Prop} (nr : ∀ k a, knd.is k (.ref a) = false) (hdo : d ≠ o) (hoS : (o == sysModules) = false) (hd : s.heap.DictOf knd d kvs) (ho : s.heap.DictOf knd o more) (hsz : kvs.length + more.length ≤ sizeLine)
    (hQ : ∀ h', h'.DictOf knd d (merged kvs more) → Heap.SameBut d s.heap h' → Q () { s with heap := h' }) : wpAny (model P0 w) A (mergeMapping d (.ref o) false) Q E s := by
  obtain ⟨od, esd, epd, hod, hcd, hdd, hkd, hpd, hnd⟩ := id hd
  obtain ⟨oo, es, ep, hoo, hco, hdo', hko, hpo, hno⟩ := id ho
  unfold mergeMapping
  refine wpAny_bind (wpAny_isInstance ho.typeIs isSubtype_dict_dict ?_)
  rw [if_pos rfl]
  refine wpAny_bind (wpAny_specialOf ho.typeIs F.slot_dict_iter.lookup ?_)
  rw [show (some (Value.builtin "dict.__iter__") == some (Value.builtin "dict.__iter__")) = true from by decide +kernel]
  refine wpAny_bind (wpAny_pure ?_)
  dsimp only
  rw [hoS, if_neg Bool.false_ne_true]
  have len : more.length = es.size := by rw [← hpo.length]; simp
  have keys : ∀ e ∈ es, ∀ a, e.key ≠ .ref a := fun e he a z => by
    obtain ⟨k, hk, _⟩ := hko e he
    rw [z, nr] at hk
    cases hk
  have rest : wpAny (model P0 w) A (do
      let size := (← dictEntries o).size
      let epoch ← dictEpoch o
      for i in List.range size do
        let some e := (← dictEntries o)[i]? | unsupported "dict.changed-during-merge"
        holding [e.key, e.val] do
          if false then
            if (← dictFind d e.key e.hash).isSome then rule "dict.merge.duplicate-key"; raiseNew (← newExc (.type "KeyError") [e.key])
          dictPut d e.hash e.key e.val
        if (← dictEpoch o) != epoch then unsupported "dict.changed-during-merge") Q E s := by
    refine wpAny_bind (wpAny_dictEntries hoo hdo' ?_)
    refine wpAny_bind (wpAny_dictEpoch hoo hdo' ?_)
    refine wpAny_bind ?_
    refine wpAny_forIn_list _ (fun l _ s' => ∃ h' i, s' = { s with heap := h' } ∧ l = List.range' i (es.size - i) ∧ i ≤ es.size ∧ h'.DictOf knd d (merged kvs (more.take i)) ∧ h'.get? o = some oo ∧ Heap.SameBut d s.heap h') _ ?_ ?_ _ _
      ⟨s.heap, 0, rfl, by rw [List.range_eq_range', Nat.sub_zero], Nat.zero_le _, by simpa [merged] using hd, hoo, Heap.SameBut.refl _ _⟩
    · rintro x l b s' ⟨h', i, rfl, hr, hi, hd', hoo', hs'⟩
      have lt : i < es.size := Nat.lt_of_not_ge fun z => by rw [Nat.sub_eq_zero_of_le z] at hr; simp at hr
      obtain ⟨rfl, hl⟩ : x = i ∧ l = List.range' (i + 1) (es.size - (i + 1)) := by
        rw [show es.size - i = (es.size - (i + 1)) + 1 by omega, List.range'_succ] at hr
        exact List.cons.inj hr
      refine wpAny_bind (wpAny_dictEntries hoo' hdo' ?_)
      rw [Array.getElem?_eq_getElem lt]
      obtain ⟨⟨k, v⟩, hkv⟩ : ∃ kv, more[x]? = some kv := ⟨more[x]'(by rw [len]; exact lt), List.getElem?_eq_getElem _⟩
      obtain ⟨hkey, hval⟩ := hpo.get? (e := es[x]) (by simp [lt]) hkv
      obtain ⟨k', hkey', hhash⟩ := hko es[x] (Array.getElem_mem lt)
      obtain rfl : k' = k := knd.inj _ _ _ hkey' hkey
      dsimp only
      rw [hhash, hval]
      have mx : (merged kvs (more.take x)).length ≤ sizeLine := by
        have e1 := merged_length_le kvs (more.take x)
        have e2 : (more.take x).length ≤ more.length := by rw [List.length_take]; omega
        omega
      refine wpAny_bind (wpAny_holding ?_)
      simp only [Bool.false_eq_true, if_false]
      first
        | refine put_one (s := { s with heap := h' }) hkey hd' mx fun h2 hd2 sb2 => ?_
        | refine wpAny_bind (wpAny_pure (put_one (s := { s with heap := h' }) hkey hd' mx fun h2 hd2 sb2 => ?_))
      have hoo2 : h2.get? o = some oo := (sb2.2 o (Ne.symm hdo)).trans hoo'
      refine wpAny_bind (wpAny_dictEpoch hoo2 hdo' ?_)
      rw [if_neg (by simp)]
      exact wpAny_pure ⟨h2, x + 1, rfl, hl, lt, by rw [merged_take_succ kvs more x (k', v) hkv]; exact hd2, hoo2, hs'.trans sb2⟩
    · rintro b s' ⟨h', i, rfl, hr, hi, hd', hoo', hs'⟩
      have hin : i = es.size := Nat.le_antisymm hi (Nat.le_of_not_lt fun z => by
        rw [show es.size - i = (es.size - (i + 1)) + 1 by omega, List.range'_succ] at hr
        cases hr)
      refine wpAny_pure (hQ h' ?_ hs')
      rw [hin, ← len, List.take_length] at hd'
      exact hd'
  refine wpAny_bind (wpAny_dictEntries hod hdd ?_)
  by_cases he : esd.isEmpty = true
  · rw [if_pos he]
    refine wpAny_bind (wpAny_dictEntries hoo hdo' ?_)
    refine wpAny_bind ?_
    refine PySem.MeetsSeq2.wpAny_forIn_array _ (fun l _ s' => s' = s ∧ ∀ e ∈ l, e ∈ es) _ ?_ ?_ _ _ ⟨rfl, fun e he => by simpa using he⟩
    · rintro e l b s' ⟨rfl, hl⟩
      have ne := keys e (hl e List.mem_cons_self)
      split
      · rename_i a z
        exact absurd z (ne a)
      · exact wpAny_pure ⟨rfl, fun e' h' => hl e' (List.mem_cons_of_mem _ h')⟩
    · rintro b s' ⟨rfl, _⟩
      exact rest
  · rw [if_neg he]
    exact rest
end
end G

set_option Elab.async false
set_option linter.all false
set_option maxRecDepth 100000
set_option maxHeartbeats 4000000
namespace G
open PySem L2 PySem.Spec PyProof.Rows
theorem dd_two {M : PySem.Model} {A : Around} {E : Value → Shared → Prop} {s : Shared} {v1 v2 : Sem Value} {Q : Value → Shared → Prop}
    (h : wpAny M A v1 (fun m1 s1 => wpAny M A (mergeMapping s.heap.objs.size m1 false) (fun _ s2 => wpAny M A v2 (fun m2 s3 => wpAny M A (mergeMapping s.heap.objs.size m2 false) (fun _ s4 => Q (.ref s.heap.objs.size) s4) (fun _ _ => False) s3) E s2) (fun _ _ => False) s1) E
      { s with heap := s.heap.push { cls := .type "dict", data := .dict #[] } }) : wpAny M A (dictDisplay [(none, v1), (none, v2)]) Q E s := by
  have no : ∀ {α : Type} {m : Sem α} {Q : α → Shared → Prop} {E : Value → Shared → Prop} {s : Shared}, wpAny M A m Q (fun _ _ => False) s → wpAny M A m Q E s := fun h => wpAny_mono h (fun _ _ x => x) fun _ _ x => x.elim
  unfold dictDisplay
  refine wpAny_bind ?_
  rw [List.forIn_cons]
  refine wpAny_bind ?_
  refine wpAny_bind (wpAny_pure ?_)
  refine wpAny_bind (wpAny_alloc ?_)
  refine wpAny_bind (wpAny_holding (wpAny_mono h (fun m1 s1 h1 => ?_) fun _ _ x => x))
  refine wpAny_bind (wpAny_onRaise (wpAny_tryCatch (wpAny_onRaise (wpAny_holding (no (wpAny_mono h1 (fun _ s2 h2 => ?_) fun _ _ x => x))))))
  refine wpAny_pure ?_
  dsimp only
  rw [List.forIn_cons]
  refine wpAny_bind ?_
  refine wpAny_bind (wpAny_pure ?_)
  refine wpAny_bind (wpAny_pure ?_)
  refine wpAny_bind (wpAny_holding (wpAny_mono h2 (fun m2 s3 h3 => ?_) fun _ _ x => x))
  refine wpAny_bind (wpAny_onRaise (wpAny_tryCatch (wpAny_onRaise (wpAny_holding (no (wpAny_mono h3 (fun _ s4 h4 => ?_) fun _ _ x => x))))))
  refine wpAny_pure ?_
  dsimp only
  rw [List.forIn_nil]
  refine wpAny_pure ?_
  refine wpAny_bind (wpAny_pure ?_)
  exact wpAny_pure h4
end G

set_option Elab.async false
set_option linter.all false
set_option maxRecDepth 100000
set_option maxHeartbeats 4000000
namespace G
open PySem L2 PySem.Spec PyProof.Rows
theorem en_nolen : typeLookup (.type "enumerate") "__len__" = pure none := by rw [typeLookup_type, builtinLookup_eq_fast]; kernel_rfl
theorem en_nohint : typeLookup (.type "enumerate") "__length_hint__" = pure none := by rw [typeLookup_type, builtinLookup_eq_fast]; kernel_rfl
section
variable {P0 : Program} {w : World} {A : Around} {E : Value → Shared → Prop} {s : Shared}
theorem en_hint {e : Addr} {Q : Bool → Shared → Prop} (hT : s.TypeIs (.ref e) "enumerate") (h : Q true s) : wpAny (model P0 w) A (Builtin.List.listLengthHint (.ref e)) Q E s := by
  unfold Builtin.List.listLengthHint
  refine wpAny_bind (wpAny_specialOf hT en_nolen ?_)
  refine PySem.W.KFB.if_not rfl ?_
  refine PySem.W.KFB.if_not rfl ?_
  refine wpAny_bind (wpAny_specialOf hT en_nohint ?_)
  exact wpAny_pure h
theorem EnS.type {e it S : Addr} {i : Nat} (x : EnS s.heap e it S i) : s.TypeIs (.ref e) "enumerate" := by
  rcases x with ⟨_, _, q⟩ | ⟨_, _, _, _, q, _⟩
  · exact ⟨_, q, rfl⟩
  · exact ⟨_, q, rfl⟩
theorem en_list {e it : Addr} {fp : List Addr} {n : Nat} {P : Nat → Value → Prop} {St : Nat → Heap → Prop} {old : Value} {Q : Value → Shared → Prop} (D : Draws P0 w A.in1.in1.in1 it fp n P St) (he : IsEnum s.heap e it 0 old) (hst : St 0 s.heap) (hie : it < e) (hef : e ∉ fp) (hfp : ∀ b ∈ fp, b < s.heap.objs.size) (hn : n ≤ sizeLine)
    (hQ : ∀ h' tk acc c as, (∀ b o, b ≠ e → b ≠ it → s.heap.get? b = some o → h'.get? b = some o) → h'.get? s.heap.objs.size = some { cls := .type "list", dict := none, data := .seq acc c, slots := #[] } → as.length = n → EnG P s.heap.objs.size h' as →
      acc.toList = as.map Value.ref → Q (.ref s.heap.objs.size) { s with heap := h', toks := tk }) :
    wpAny (model P0 w) A (call (.type "list") [.ref e]) Q E s := by
  have lte : e < s.heap.objs.size := Heap.lt_size he
  refine callType_codes (Q₁ := fun obj s₁ => obj = .ref s.heap.objs.size ∧ s₁ = { s with heap := s.heap.push { cls := .type "list", data := .seq #[] } }) PySem.F.called_list (PySem.F.typeCall_list_1 _) PySem.F.entry_list_init (code_list_new _ ⟨rfl, rfl⟩) fun obj s₁ h₁ => ?_
  obtain ⟨rfl, rfl⟩ := h₁
  have hS : (s.heap.push { cls := .type "list", data := .seq #[] }).get? s.heap.objs.size = some { cls := .type "list", data := .seq #[] } := Heap.get?_push_size _ rfl
  refine ⟨⟨_, hS, rfl⟩, PySem.F.args_list_init_2 _ _, ?_⟩
  have neS : e ≠ s.heap.objs.size := Nat.ne_of_lt lte
  have nfS : s.heap.objs.size ∉ fp := fun z => Nat.lt_irrefl _ (hfp _ z)
  show wpAny _ _ (do let old ← Builtin.List.listItems (.ref s.heap.objs.size); Builtin.List.listUpdate (.ref s.heap.objs.size) (fun _ => #[]); letGo old.toList.reverse; Builtin.List.listExtendWith (.ref s.heap.objs.size) (.ref e) .none) _ _ _
  refine wpAny_bind ?_
  unfold Builtin.List.listItems
  refine wpAny_bind (wpAny_seqItems hS rfl (wpAny_pure ?_))
  show wpAny _ _ (updateSeq s.heap.objs.size (fun _ => #[]) >>= fun _ => letGo (#[] : Array Value).toList.reverse >>= fun _ => Builtin.List.listExtendWith (.ref s.heap.objs.size) (.ref e) .none) _ _ _
  refine wpAny_bind (wpAny_updateSeq hS rfl ?_)
  have hS2 := Heap.get?_update_self (Obj.mapSeq (fun _ => (#[] : Array Value))) hS rfl
  have k2 : ∀ b o, b ≠ s.heap.objs.size → s.heap.get? b = some o → ((s.heap.push { cls := .type "list", data := .seq #[] }).update s.heap.objs.size (Obj.mapSeq (fun _ => (#[] : Array Value)))).get? b = some o := fun b o nb q => (Heap.get?_update_other _ _ (Ne.symm nb)).trans (Heap.get?_push_of_some _ q)
  generalize (s.heap.push { cls := .type "list", data := .seq #[] }).update s.heap.objs.size (Obj.mapSeq (fun _ => (#[] : Array Value))) = h2 at hS2 k2 ⊢
  refine wpAny_bind (wpAny_letGo ?_)
  have e2 : IsEnum h2 e it 0 old := k2 _ _ neS he
  have T2 : Shared.TypeIs { s with heap := h2 } (.ref e) "enumerate" := ⟨_, e2, rfl⟩
  have st2 : St 0 h2 := D.frame _ _ _ hst fun b hb o q => k2 b o (fun z => nfS (z ▸ hb)) q
  unfold Builtin.List.listExtendWith
  refine wpAny_bind (wpAny_typeOf T2 ?_)
  have ns : Builtin.List.listSameRef (.ref s.heap.objs.size) (.ref e) = false := by simp [Builtin.List.listSameRef, Ne.symm neS]
  have nl : (Value.type "enumerate" == Value.type "list") = false := by decide
  have nt : (Value.type "enumerate" == Value.type "tuple") = false := by decide
  simp only [ns, nl, nt, Bool.or_false, Bool.false_eq_true, if_false]
  refine wpAny_bind (wpAny_pyIter_enum e2 ?_)
  have hit : it < s.heap.objs.size := Nat.lt_trans hie lte
  have go : ∀ (h : Heap) (c tk : Nat), EnS h e it s.heap.objs.size 0 → St 0 h → (∀ b o, b ≠ s.heap.objs.size → h2.get? b = some o → h.get? b = some o) → h.get? s.heap.objs.size = some { cls := .type "list", data := .seq #[] c } →
      codeAny (model P0 w) A.in1 (.builtin "list.extend.loop" ⟨[.ref s.heap.objs.size, .ref e, .none], []⟩) (wants (fun r s₂ => r = Value.none ∧ Q (Value.ref s.heap.objs.size) s₂) E) { s with heap := h, toks := tk } := fun h c tk x st kp hSx =>
    en_loop (A := A.in1) D lte hie (Nat.ne_of_gt hit) nfS hef hn .none (h₁ := h2) (fun h' tk' acc c' as kk hS' hl g ha => ⟨rfl, hQ h' tk' acc c' as (fun b o n1 n2 q => kk b o (Nat.ne_of_lt (Heap.lt_size q)) n1 n2 (k2 b o (Nat.ne_of_lt (Heap.lt_size q)) q)) hS' hl g ha⟩)
      n 0 h tk c #[] [] (by omega) (Nat.zero_le _) x st (fun b o n1 n2 n3 q => kp b o n1 q) hSx rfl rfl ⟨.nil, fun a ha => (by simp at ha), fun j a hj => (by simp at hj)⟩
  refine wpAny_bind (wpAny_holding (en_hint T2 ?_))
  refine wpAny_ite_split (fun _ => ?_) (fun no => absurd rfl no)
  refine wpAny_bind (wpAny_rule ?_)
  refine wpAny_bind ?_
  show wpAny _ _ (updateSeq s.heap.objs.size (·.push .none) >>= fun _ => updateSeq s.heap.objs.size (·.pop)) _ _ _
  refine wpAny_bind (wpAny_updateSeq hS2 rfl ?_)
  have hS3 := Heap.get?_update_self (Obj.mapSeq (·.push Value.none)) hS2 rfl
  refine wpAny_updateSeq (hz := by seq_fits) hS3 rfl ?_
  have hS4 := Heap.get?_update_self (Obj.mapSeq (·.pop)) hS3 rfl
  have k4 : ∀ b o, b ≠ s.heap.objs.size → h2.get? b = some o → ((h2.update s.heap.objs.size (Obj.mapSeq (·.push Value.none))).update s.heap.objs.size (Obj.mapSeq (·.pop))).get? b = some o := fun b o nb q =>
    (Heap.get?_update_other _ _ (Ne.symm nb)).trans ((Heap.get?_update_other _ _ (Ne.symm nb)).trans q)
  exact wpAny_pure ⟨plainId_quiet PySem.F.plain_extend_loop _, go _ _ _ (.inl ⟨rfl, old, k4 _ _ neS e2⟩) (D.frame _ _ _ st2 fun b hb o q => k4 b o (fun z => nfS (z ▸ hb)) q) k4 hS4⟩
end
end G

set_option Elab.async false
set_option linter.all false
set_option maxRecDepth 100000
set_option maxHeartbeats 4000000
namespace G
open PySem L2 PySem.Spec PyProof.Rows
variable {M : Md} {H H' H1 H2 : Hp} {ι ι' ι1 ι2 : List Addr} {X : Cx} {W' : WX}

/-! ### {**a, **b}: the rule -/
def mrgW (kvs more : List (Key × W)) : List (Key × W) := more.foldl (fun acc p => putKW acc p.1 p.2) kvs
theorem mrgW_ok : ∀ {more kvs : List (Key × W)} {vs us : List V}, RelWs M H ι (kvs.map (·.2)) vs → RelWs M H ι (more.map (·.2)) us →
    ∃ rs, mergeK ((kvs.map (·.1)).zip vs) ((more.map (·.1)).zip us) = ((mrgW kvs more).map (·.1)).zip rs ∧ RelWs M H ι ((mrgW kvs more).map (·.2)) rs
  | [], kvs, vs, us, r, q => ⟨vs, rfl, r⟩
  | (k, w) :: more, kvs, vs, us, r, q => by
    obtain ⟨u, us', rfl, q1, q2⟩ := q
    obtain ⟨zs, e, rz⟩ := putKW_ok (k := k) q1 r
    obtain ⟨rs, e2, rr⟩ := mrgW_ok (more := more) rz q2
    refine ⟨rs, ?_, rr⟩
    rw [← e] at e2
    exact e2
theorem putKW_len (kvs : List (Key × W)) (k : Key) (w : W) : (putKW kvs k w).length ≤ kvs.length + 1 := by
  unfold putKW
  split
  · rw [List.length_map]; omega
  · rw [List.length_append]; exact Nat.le_refl _
def mrgO (E : Hh) (d : Nat) (x : W) : Option Hh := match dKOf E (.ref d), dKOf E x with
  | some (_, kvs), some (i, more) => if kvs.length + more.length ≤ few ∧ i ≠ d then some (E.set d (.dK (mrgW kvs more))) else none
  | _, _ => none
theorem zipK_len {κ : Type} {kvs : List (κ × W)} {vs : List V} (r : RelWs M H ι (kvs.map (·.2)) vs) : ((kvs.map (·.1)).zip vs).length = kvs.length := by
  have z := r.length
  rw [List.length_map] at z
  rw [List.length_zip, List.length_map, ← z, Nat.min_self]
theorem mix_noref {P : Program} {w : World} : ∀ k a, (mixKind P w).is k (.ref a) = false := fun k a => by
  cases e : (mixKind P w).is k (.ref a) with
  | false => rfl
  | true =>
    rcases keyIs_shape (show keyIs k (.ref a) = true from e) with ⟨_, _, _, z⟩ | ⟨_, _, _, z⟩ <;> cases z
theorem mrg_step {pins : List (Addr × Obj)} {σ : L2.St} {s : Shared} {E E2 : Hh} {d : Nat} {p : Addr} {x : W} {v : V} {u : Value} {Q : Unit → Shared → Prop} {Ex : Value → Shared → Prop} (I : Inv X pins σ H s) (R : Rel M ι E H) (rx : RelW M H ι x v) (ru : RelV v u) (hp : ι[d]? = some p)
    (h : mrgO E d x = some E2) (q : ∀ s2 H2, Inv X pins σ H2 s2 → Ext M ι H ι H2 → Rel M ι E2 H2 → Q () s2) : wpAny (model X.prog X.w) X.A (mergeMapping p u false) Q Ex s := by
  unfold mrgO at h
  split at h
  · rename_i j kvs i more e1 e2
    split at h
    · rename_i hc
      obtain rfl := Option.some.inj h
      have rd : RelW M H ι (.ref d) (.ref p) := ⟨p, hp, rfl⟩
      obtain ⟨p', vs, hp', he', z, h1, r1⟩ := dK_ok R e1 rd
      obtain rfl : p = p' := V.ref.inj z
      have jd : j = d := by
        unfold dKOf at e1
        dsimp only at e1
        split at e1
        · cases e1; rfl
        · cases e1
      subst jd
      obtain ⟨o, us, ho, heo, rfl, h2, r2⟩ := dK_ok R e2 rx
      obtain rfl : u = Value.ref o := ru
      obtain ⟨z1, hd1, rs1, k1, dd1⟩ := dk_of I.hok h1
      obtain ⟨z2, hd2, rs2, k2, dd2⟩ := dk_of I.hok h2
      have ne : p ≠ o := fun z => hc.2 (R.inj i j p _ _ (z ▸ ho) hp heo he' rfl rfl)
      have l1 : rs1.length = kvs.length := by rw [← k1.length, zipK_len r1]
      have l2 : rs2.length = more.length := by rw [← k2.length, zipK_len r2]
      refine merge_in mix_noref ne hd2 dd1 dd2 (by rw [l1, l2]; exact few_le hc.1) fun h' dd' hs => ?_
      obtain ⟨ws, ew, rw'⟩ := mrgW_ok r1 r2
      have fin : mergeK ((kvs.map (·.1)).zip vs) ((more.map (·.1)).zip us) = ((mrgW kvs more).map (·.1)).zip ws := ew
      have hz : (mergeK ((kvs.map (·.1)).zip vs) ((more.map (·.1)).zip us)).length ≤ sizeLine := by
        have a1 := length_mergeK ((more.map (·.1)).zip us) ((kvs.map (·.1)).zip vs)
        rw [zipK_len r1, zipK_len r2] at a1
        exact Nat.le_trans a1 (few_le hc.1)
      have he : ∃ q, h'.get? p = some q := let ⟨q, _, _, hq, _⟩ := dd'; ⟨q, hq⟩
      have I2 := d_write (t' := s.toks) (ob := .dK (mergeK ((kvs.map (·.1)).zip vs) ((more.map (·.1)).zip us))) I (by rw [h1]; exact True.intro) hs he (dk_new hz hd1 (k2.merge k1) dd')
      obtain ⟨R', x'⟩ := Rel.put (o := .dK (mrgW kvs more)) (ho := .dK (mergeK ((kvs.map (·.1)).zip vs) ((more.map (·.1)).zip us))) R hp he' rfl (fun q hq => by rw [h1] at hq; cases hq; exact ⟨fun _ z => (nomatch z), fun _ _ z => (nomatch z)⟩) rfl
        fun x => ⟨ws, by rw [upd_same, fin], rw'.ext x⟩
      exact q _ _ I2 x' R'
    · cases h
  · cases h
def ddA (ca cb : Act W) : Act W := fun σ E => andThen (ca σ (E ++ [.dK []])) fun x E1 => match mrgO E1 E.length x with
  | some E2 => andThen (cb σ E2) fun y E3 => match mrgO E3 E.length y with
    | some E4 => some (.ok (.ref E.length) E4)
    | none => none
  | none => none
theorem pe_ddG {a b : Expr} {ca cb : Act W} {pos : Pos} (ha : PE X a (SE M W' ca)) (hb : PE X b (SE M W' cb)) : PE X (.Dict [none, none] [a, b] pos) (SE M W' (ddA ca cb)) := by
  refine ⟨fun pins s σ H Q I ⟨ι, E, σE, R, rs, k⟩ => ?_⟩
  show wpAny _ _ (standAt pos >>= fun _ => dictDisplay [(none, (do let x ← eval a X.env; standAt pos; pure x)), (none, (do let x ← eval b X.env; standAt pos; pure x))]) _ _ s
  refine wpAny_bind (wpAny_standAt (dd_two ?_))
  have hn := I.hok.fresh (Nat.le_refl s.heap.objs.size)
  have I0 := I.laid (a := s.heap.objs.size) (o := .dK []) (h' := s.heap.push { cls := .type "dict", data := .dict #[] }) (t' := s.toks) (fun _ _ q => Heap.get?_push_of_some _ q) (Nat.le_refl _) (dk_empty s.heap I.big)
  obtain ⟨R0, x0⟩ := Rel.new (ho := .dK []) (o := .dK []) R hn fun _ => ⟨[], upd_same, rfl⟩
  have p0 : (ι ++ [s.heap.objs.size])[E.length]? = some s.heap.objs.size := by rw [← R.len]; simp
  refine wpAny_bind (thn (ha.run pins _ σ _ (fun v H1 => ∃ ι1 E1 x, Ext M (ι ++ [s.heap.objs.size]) (upd H s.heap.objs.size (.dK [])) ι1 H1 ∧ Rel M ι1 E1 H1 ∧ RelW M H1 ι1 x v ∧ Rs M W' ι σ H (match mrgO E1 E.length x with
    | some E2 => andThen (cb σE E2) fun y E3 => match mrgO E3 E.length y with
      | some E4 => some (.ok (.ref E.length) E4)
      | none => none
    | none => none) fun w E' => Fin M ι H w E' Q) I0 ⟨ι ++ [s.heap.objs.size], E ++ [.dK []], σE, R0, rs.ext x0, ((Rs.bind k).ext x0).imp fun x E1 h1 => fun ι1 H1 v x1 R1 rx => ⟨ι1, E1, x, x1, R1, rx, h1⟩⟩) fun u1 s1 ⟨v1, H1, I1, ru1, ι1, E1, x, x1, R1, rx, h1⟩ => ?_)
  refine wpAny_bind (wpAny_standAt (wpAny_pure ?_))
  cases e1 : mrgO E1 E.length x with
  | none => rw [e1] at h1; exact h1.none.elim
  | some E2 =>
    rw [e1] at h1
    refine mrg_step I1 R1 rx ru1 (pre_get x1.pre p0) e1 fun s2 H2 I2 x2 R2 => ?_
    have xx := (x0.trans x1).trans x2
    refine wpAny_bind (thn (hb.run pins s2 σ H2 (fun v H3 => ∃ ι3 E3 y, Ext M ι1 H2 ι3 H3 ∧ Rel M ι3 E3 H3 ∧ RelW M H3 ι3 y v ∧ Rs M W' ι σ H (match mrgO E3 E.length y with
      | some E4 => some (.ok (.ref E.length) E4)
      | none => none) fun w E' => Fin M ι H w E' Q) I2 ⟨ι1, E2, σE, R2, rs.ext xx, (h1.bind.ext xx).imp fun y E3 h2 => fun ι3 H3 v x3 R3 ry => ⟨ι3, E3, y, x3, R3, ry, h2⟩⟩) fun u2 s3 ⟨v2, H3, I3, ru2, ι3, E3, y, x3, R3, ry, h2⟩ => ?_)
    refine wpAny_bind (wpAny_standAt (wpAny_pure ?_))
    cases e2 : mrgO E3 E.length y with
    | none => rw [e2] at h2; exact h2.none.elim
    | some E4 =>
      rw [e2] at h2
      have p3 := pre_get x3.pre (pre_get x1.pre p0)
      refine mrg_step I3 R3 ry ru2 p3 e2 fun s4 H4 I4 x4 R4 => ?_
      exact ⟨.ref s.heap.objs.size, H4, I4, rfl, h2.ok ι3 H4 _ ((xx.trans x3).trans x4) R4 ⟨_, p3, rfl⟩⟩
end G

set_option Elab.async false
set_option linter.all false
set_option maxRecDepth 100000
set_option maxHeartbeats 4000000
namespace G
open PySem L2 PySem.Spec PyProof.Rows
variable {M : Md} {H H' H1 H2 : Hp} {ι ι' ι1 ι2 : List Addr} {X : Cx} {W' : WX}

/-! ### many new objects are told at once -/
def updL (H : Hp) : List (Addr × HO) → Hp
  | [] => H
  | p :: L => updL (upd H p.1 p.2) L
theorem updL_out {b : Addr} : ∀ {L : List (Addr × HO)} {H : Hp}, b ∉ L.map (·.1) → updL H L b = H b
  | [], _, _ => rfl
  | p :: L, H, h => by
    rw [List.map_cons, List.mem_cons, not_or] at h
    show updL (upd H p.1 p.2) L b = H b
    rw [updL_out h.2, upd_ne h.1]
theorem updL_in {b : Addr} {u : HO} : ∀ {L : List (Addr × HO)} {H : Hp}, updL H L b = some u → (b, u) ∈ L ∨ H b = some u
  | [], _, h => .inr h
  | p :: L, H, h => by
    rcases updL_in (L := L) (H := upd H p.1 p.2) h with h | h
    · exact .inl (List.mem_cons_of_mem _ h)
    · by_cases e : b = p.1
      · subst e
        rw [upd_same] at h
        exact .inl (by rw [← Option.some.inj h]; exact List.mem_cons_self)
      · rw [upd_ne e] at h
        exact .inr h
theorem updL_at : ∀ {L : List (Addr × HO)} {H : Hp} {p : Addr × HO}, (L.map (·.1)).Nodup → p ∈ L → updL H L p.1 = some p.2
  | q :: L, H, p, nd, h => by
    rw [List.map_cons, List.nodup_cons] at nd
    show updL (upd H q.1 q.2) L p.1 = some p.2
    rcases List.mem_cons.mp h with e | h
    · subst e
      rw [updL_out nd.1, upd_same]
    · exact updL_at nd.2 h
theorem updL_app : ∀ (L K : List (Addr × HO)) (H : Hp), updL H (L ++ K) = updL (updL H L) K
  | [], _, _ => rfl
  | p :: L, K, H => updL_app L K (upd H p.1 p.2)
theorem inv_laidL {pins : List (Addr × Obj)} {σ : L2.St} {s : Shared} {h' : Heap} {t' : Nat} {L : List (Addr × HO)} (I : Inv X pins σ H s) (k : ∀ b u, s.heap.get? b = some u → h'.get? b = some u) (hp : ∀ p ∈ L, s.heap.objs.size ≤ p.1)
    (new : ∀ p ∈ L, ObjOk X.prog X.w (updL H L) h' p.1 p.2) : Inv X pins σ (updL H L) { s with heap := h', toks := t' } := by
  have out : ∀ b u, s.heap.get? b = some u → b ∉ L.map (·.1) := fun b u e z => by
    obtain ⟨p, hp', rfl⟩ := List.mem_map.mp z
    exact Nat.lt_irrefl _ (Nat.lt_of_lt_of_le (Heap.lt_size e) (hp p hp'))
  have oth : ∀ b u, H b = some u → updL H L b = some u := fun b u e => by
    rw [updL_out fun z => ?_]
    · exact e
    · obtain ⟨p, hp', rfl⟩ := List.mem_map.mp z
      exact Nat.lt_irrefl _ (Nat.lt_of_lt_of_le (I.hok.lt e) (hp p hp'))
  refine I.un ⟨fun b u q _ _ _ => k b u q, fun b u q _ _ _ => ⟨u.slots, k b u q⟩, fun b u q n _ => ?_, fun b u q _ => ⟨u, k b u q⟩, fun b xs q => oth _ _ q, fun b o u q => oth _ _ q, fun b ps q => ⟨#[], by rw [oth _ _ q]; simp⟩⟩ fun b u e => ?_
  · rw [updL_out (out b u q)]
    exact n
  · rcases updL_in e with h | h
    · exact new (b, u) h
    · exact (I.hok b u h).stay (fun c v _ q => k c v q) (fun c q => oth _ _ q) fun c xs q => oth _ _ q
theorem rel_tups {E : Hh} : ∀ {L : List (Addr × HO)} {H : Hp}, Rel M ι E H → (L.map (·.1)).Nodup → (∀ p ∈ L, H p.1 = none) → Rel M ι E (updL H L) ∧ Ext M ι H ι (updL H L)
  | [], H, R, _, _ => ⟨R, Ext.refl _ _⟩
  | p :: L, H, R, nd, hn => by
    rw [List.map_cons, List.nodup_cons] at nd
    obtain ⟨R1, x1⟩ := Rel.newT (ho := p.2) R (hn p List.mem_cons_self)
    obtain ⟨R2, x2⟩ := rel_tups (L := L) R1 nd.2 fun q hq => by
      rw [upd_ne (fun z => nd.1 (by rw [← z]; exact List.mem_map_of_mem hq))]
      exact hn q (List.mem_cons_of_mem _ hq)
    exact ⟨R2, x1.trans x2⟩

/-! ### list(enumerate(x)) -/
def pl : Nat → List Addr → List V → List (Addr × HO)
  | i, a :: as, x :: xs => (a, .tup [.int i, x]) :: pl (i + 1) as xs
  | _, _, _ => []
def wPair (i : Nat) (w : W) : W := .tup [.int i, w]
theorem pl_keys : ∀ (i : Nat) {as : List Addr} {xs : List V}, as.length = xs.length → (pl i as xs).map (·.1) = as
  | _, [], [], _ => rfl
  | i, a :: as, x :: xs, h => by
    show a :: (pl (i + 1) as xs).map (·.1) = a :: as
    rw [pl_keys (i + 1) (by simpa using h)]
theorem pl_mem : ∀ (i : Nat) {as : List Addr} {xs : List V} {p : Addr × HO}, p ∈ pl i as xs → ∃ j x, as[j]? = some p.1 ∧ xs[j]? = some x ∧ p.2 = .tup [.int (i + j : Nat), x]
  | _, [], _, p, h => by simp [pl] at h
  | _, _ :: _, [], p, h => by simp [pl] at h
  | i, a :: as, x :: xs, p, h => by
    rcases List.mem_cons.mp h with e | h
    · subst e
      exact ⟨0, x, rfl, rfl, rfl⟩
    · obtain ⟨j, y, e1, e2, e3⟩ := pl_mem (i + 1) h
      exact ⟨j + 1, y, e1, e2, by rw [e3, show i + 1 + j = i + (j + 1) by omega]⟩
theorem pl_rel : ∀ (i : Nat) {as : List Addr} {ws : List W} {vs : List V}, as.length = vs.length → RelWs M H ι ws vs → (∀ p ∈ pl i as vs, H p.1 = some p.2) → RelWs M H ι (ws.mapIdx fun j w => wPair (i + j) w) (as.map .ref)
  | _, [], [], vs, h, r, q => rfl
  | _, a :: as, [], vs, h, r, q => by rw [show vs = [] from r] at h; simp at h
  | _, [], w :: ws, vs, h, r, q => by obtain ⟨v, rs, rfl, _, _⟩ := r; simp at h
  | i, a :: as, w :: ws, vs, h, r, q => by
    obtain ⟨v, rs, rfl, r1, r2⟩ := r
    have e : H a = some (.tup [.int i, v]) := q (a, .tup [.int i, v]) List.mem_cons_self
    have ih := pl_rel (i + 1) (as := as) (by simpa using h) r2 fun p hp => q p (List.mem_cons_of_mem _ hp)
    rw [List.mapIdx_cons]
    refine ⟨.ref a, as.map .ref, rfl, ⟨a, _, rfl, SqT.of e, .int i, [v], rfl, rfl, v, [], rfl, r1, rfl⟩, ?_⟩
    rw [show (fun j w => wPair (i + (j + 1)) w) = (fun j w => wPair (i + 1 + j) w) by funext j w; rw [show i + (j + 1) = i + 1 + j by omega]]
    exact ih
theorem vals_refs : ∀ as : List Addr, Vals (as.map V.ref) (as.map Value.ref)
  | [] => .nil
  | a :: r => .cons rfl (vals_refs r)
def enuLA (ca : Act W) : Act W := fun σ E => andThen (ca σ E) fun x E1 => match seqOf E1 x with
  | some ws => if ws.length ≤ few then some (.ok (.ref E1.length) (E1 ++ [.lst (ws.mapIdx fun i w => wPair i w)])) else none
  | none => none
theorem pe_enuL {e : Expr} {p p2 q pos : Pos} {ca : Act W} (at' : X.K = M.K) (hc : X.calm = true) (hg : Gl X "list") (hm : X.mg "list" = none) (hg2 : Gl X "enumerate") (hm2 : X.mg "enumerate" = none) (hp : plainArg e = true) (ha : PE X e (SE M W' ca)) :
    PE X (.Call (.Name "list" p) [.Call (.Name "enumerate" p2) [e] [] q] [] pos) (SE M W' (enuLA ca)) := by
  refine ⟨fun pins s σ H Q I ⟨ι, E, σE, R, rs, k⟩ => ?_⟩
  refine Call_ (ld_blt I hg hm PyProof.Rows.boot_list (callWith_type1 (args_cons (Call_ (ld_blt I hg2 hm2 PyProof.Rows.boot_enumerate (callWith_type1 (args_cons (thn (ha.run pins s σ H (fun v H1 => ∃ ι1 E1 x, Ext M ι H ι1 H1 ∧ Rel M ι1 E1 H1 ∧ RelW M H1 ι1 x v ∧ Rs M W' ι σ H (match seqOf E1 x with
    | some ws => if ws.length ≤ few then some (.ok (.ref E1.length) (E1 ++ [.lst (ws.mapIdx fun i w => wPair i w)])) else none
    | none => none) fun w E' => Fin M ι H w E' Q) I ⟨ι, E, σE, R, rs, (Rs.bind k).imp fun x E1 h1 => fun ι1 H1 v x1 R1 rx => ⟨ι1, E1, x, x1, R1, rx, h1⟩⟩) fun v s1 hh => args_nil ?_) (starEach_cons hp)) (starEach_cons hp) rfl))) rfl) rfl rfl))
  obtain ⟨xv, H1, I1, ru, ι1, E1, x, x1, R1, rx, h1⟩ := hh
  cases e1 : seqOf E1 x with
  | none => rw [e1] at h1; exact h1.none.elim
  | some ws =>
    rw [e1] at h1
    dsimp only at h1
    by_cases hl : ws.length ≤ few
    · rw [if_pos hl] at h1
      obtain ⟨a, vs, rfl, hs, rws⟩ := seq_ok R1 e1 rx
      obtain rfl : v = Value.ref a := ru
      obtain ⟨kb, hs'⟩ : ∃ kb, SqB X.K kb H1 a vs := by
        rw [at']
        rcases hs with hs | hs
        · exact ⟨false, hs⟩
        · exact ⟨true, hs⟩
      obtain ⟨us, rv, px⟩ := seqB_of I1 hs'
      have l1 := isB_lt px
      refine enum_beginsB (beginsB kb a _) px fun h' z' j1 hk => args_nil ?_
      have zl : vs.length = us.length := rv.length
      have hh0 : X.A.handled = none := I1.ok.hd hc
      refine en_list (s := { s1 with heap := h' }) (drawsB (by simp [hh0]) kb s1.heap.objs.size a (Nat.ne_of_lt l1) us.toArray) z' ⟨itB_new j1, ?_⟩ (Nat.lt_succ_self _) (fun z => ?_) (fun b hb => ?_) ?_ fun h2 tk acc c as kp hS hla g hacc => ?_
      · cases kb with
        | true => obtain ⟨o, e, z⟩ := px; exact ⟨o, hk _ _ e, z⟩
        | false => obtain ⟨o, e, z⟩ := px; exact ⟨o, hk _ _ e, z⟩
      · rcases List.mem_cons.mp z with z | z
        · exact absurd z (Nat.succ_ne_self _)
        · rw [List.mem_singleton] at z
          rw [← z] at l1
          exact absurd l1 (Nat.not_lt.mpr (Nat.le_succ _))
      · rcases List.mem_cons.mp hb with rfl | hb
        · exact Heap.lt_size j1
        · rw [List.mem_singleton.mp hb]
          exact Nat.lt_of_lt_of_le l1 (Nat.le_of_lt (Heap.lt_size j1))
      · rw [List.size_toArray, ← zl, ← rws.length]
        exact few_le hl
      dsimp only at kp hS g ⊢
      have lo : s1.heap.objs.size ≤ h'.objs.size := Nat.le_of_lt (Heap.lt_size j1)
      have kk : ∀ b o, s1.heap.get? b = some o → h2.get? b = some o := fun b o q => kp b o (Nat.ne_of_lt (Nat.lt_succ_of_lt (Heap.lt_size q))) (Nat.ne_of_lt (Heap.lt_size q)) (hk b o q)
      have la : as.length = vs.length := by rw [hla, List.size_toArray, zl]
      have ks := pl_keys 0 la
      have nd : ((pl 0 as vs).map (·.1)).Nodup := by rw [ks]; exact g.up.imp fun h => Nat.ne_of_lt h
      have nS : h'.objs.size ∉ as := fun z => Nat.lt_irrefl _ (g.ab _ z)
      have H2S : updL H1 (pl 0 as vs ++ [(h'.objs.size, .lst (as.map V.ref))]) = upd (updL H1 (pl 0 as vs)) h'.objs.size (.lst (as.map V.ref)) := updL_app _ _ _
      have hi : ∀ p ∈ pl 0 as vs ++ [(h'.objs.size, HO.lst (as.map V.ref))], s1.heap.objs.size ≤ p.1 := fun p hp => by
        rcases List.mem_append.mp hp with hp | hp
        · obtain ⟨j, x, e, _⟩ := pl_mem 0 hp
          exact Nat.le_of_lt (Nat.lt_of_le_of_lt lo (g.ab _ (List.mem_of_getElem? e)))
        · rw [List.mem_singleton.mp hp]; exact lo
      have I2 : Inv X pins σ (updL H1 (pl 0 as vs ++ [(h'.objs.size, .lst (as.map V.ref))])) { s1 with heap := h2, toks := tk } := inv_laidL I1 kk hi fun p hp => by
        rcases List.mem_append.mp hp with hp | hp
        · obtain ⟨j, x, ea, ex, e2⟩ := pl_mem 0 hp
          rw [e2]
          obtain ⟨t, y, py, q⟩ := g.is j _ ea
          have py : us[j]? = some y := by simpa using py
          obtain ⟨y', ey, ry⟩ := rv.get ex
          rw [py] at ey
          obtain rfl := Option.some.inj ey
          refine ⟨by rw [sizeLine_eq]; simp, [.int j t, y], .cons ⟨t, by simp⟩ (.cons ry .nil), _, q, rfl, _, rfl⟩
        · rw [List.mem_singleton.mp hp]
          refine ⟨by rw [List.length_map, la, ← rws.length]; exact few_le hl, as.map Value.ref, c, vals_refs as, by rw [hS, ← hacc]⟩
      have hnone : ∀ p ∈ pl 0 as vs, H1 p.1 = none := fun p hp => I1.hok.fresh (hi p (List.mem_append_left _ hp))
      obtain ⟨R2, x2⟩ := rel_tups R1 nd hnone
      have rel := pl_rel 0 la (rws.ext x2) fun p hp => updL_at nd hp
      have nS2 : updL H1 (pl 0 as vs) h'.objs.size = none := by
        rw [updL_out (by rw [ks]; exact nS)]
        exact I1.hok.fresh lo
      rw [H2S] at I2
      refine ⟨.ref h'.objs.size, _, I2, rfl, ?_⟩
      have rel' : RelWs M (updL H1 (pl 0 as vs)) ι1 (ws.mapIdx fun i w => wPair i w) (as.map .ref) := by simpa using rel
      exact Fin.lst (M := M) (fun ι' H' v x' R' rv' => h1.ok ι' H' v ((x1.trans x2).trans x') R' rv') R2 rel' _ nS2
    · rw [if_neg hl] at h1
      exact h1.none.elim
end G

set_option Elab.async false
set_option linter.all false
set_option maxRecDepth 100000
set_option maxHeartbeats 4000000
namespace G
open PySem L2 PySem.Spec PyProof.Rows PySem.W
variable {M : Md} {H H' H1 H2 : Hp} {ι ι' ι1 ι2 : List Addr} {X : Cx} {W' : WX}

/-! ### list(d.values()), d with tuples as keys -/
theorem ent_vals : ∀ {kvs : List (W × W)} {xs : List (Addr × V × Value)}, Paired (EntR M H ι) kvs xs → RelWs M H ι (kvs.map (·.2)) (xs.map (·.2.1)) ∧ Vals (xs.map (·.2.1)) ((ents kvs xs).map (·.2.2))
  | [], [], _ => ⟨rfl, .nil⟩
  | p :: kvs, q :: xs, h => by
    cases h with
    | cons e r =>
      obtain ⟨h1, h2⟩ := ent_vals r
      exact ⟨⟨q.2.1, _, rfl, e.2.1, h1⟩, .cons e.2.2 h2⟩
def valLA (ca : Act W) : Act W := fun σ E => andThen (ca σ E) fun x E1 => match dnOf E1 x with
  | some (_, kvs) => if kvs.length ≤ few then some (.ok (.ref E1.length) (E1 ++ [.lst (kvs.map (·.2))])) else none
  | none => none
theorem pe_valL {Γ : Gm} {o : Expr} {p apos cpos pos : Pos} {ca : Act W} (a : At M Γ W' X) (hg : Gl X "list") (hm : X.mg "list" = none) (hb : plainBase o = true) (hline : (apos.endLine == cpos.line) = true) (ho : PE X o (SE M W' ca)) :
    PE X (.Call (.Name "list" p) [.Call (.Attribute o "values" apos) [] [] cpos] [] pos) (SE M W' (valLA ca)) := by
  refine ⟨fun pins s σ H Q I ⟨ι, E, σE, R, rs, k⟩ => ?_⟩
  refine Call_ (ld_blt I hg hm PyProof.Rows.boot_list (callWith_type1 (args_cons (wpAny_Call_method (T := "dict") (id := "dict.values") (plainBase_ok hb) rfl hline PySem.F.plainAttrs_dict PySem.F.slot_dict_values PySem.F.type_dict_values (thn (ho.run pins s σ H (fun v H1 => ∃ ι1 E1 x, Ext M ι H ι1 H1 ∧ Rel M ι1 E1 H1 ∧ RelW M H1 ι1 x v ∧ Rs M W' ι σ H (match dnOf E1 x with
    | some (_, kvs) => if kvs.length ≤ few then some (.ok (.ref E1.length) (E1 ++ [.lst (kvs.map (·.2))])) else none
    | none => none) fun w E' => Fin M ι H w E' Q) I ⟨ι, E, σE, R, rs, (Rs.bind k).imp fun x E1 h1 => fun ι1 H1 v x1 R1 rx => ⟨ι1, E1, x, x1, R1, rx, h1⟩⟩) fun v s1 hh => ?_)) rfl) rfl rfl))
  obtain ⟨xv, H1, I1, ru, ι1, E1, x, x1, R1, rx, h1⟩ := hh
  cases e1 : dnOf E1 x with
  | none => rw [e1] at h1; exact h1.none.elim
  | some pk =>
    obtain ⟨i, kvs⟩ := pk
    rw [e1] at h1
    dsimp only at h1
    by_cases hl : kvs.length ≤ few
    · rw [if_pos hl] at h1
      obtain ⟨d, xs, rfl, rfl, D⟩ := dn_ok I1 a.K R1 e1 rx
      obtain rfl : v = Value.ref d := ru
      obtain ⟨es, ep, raw, hs, he⟩ := D.dict.raw
      refine ⟨raw.typeIs, fun b z => ?_, ?_⟩
      · cases z
        obtain ⟨ob, hob, hx, _⟩ := raw
        exact ⟨ob, hob, hx.2.1⟩
      · refine method_meetsIn PySem.F.slot_dict_values PySem.F.entry_dict_values rfl (PySem.evalArgs_none ⟨rfl, raw.typeIs, PySem.F.args_dict_values_1 _, _, meets_dict_values_raw d D.low, ⟨⟨es, ep, raw⟩, ?_⟩⟩)
        refine args_nil ?_
        have hd : X.A.handled = none := I1.ok.hd a.calm
        have zl := Paired.length D.ent
        have n1 : es.size = kvs.length := by rw [hs, ents_len zl]
        refine kdl_call (s := { s1 with heap := s1.heap.push { cls := .type "dict_values", data := .fields #[.ref d] } }) (KdlSrc.rawValues (es := es) (ep := ep)) hd ⟨⟨_, Heap.get?_push_size _ rfl, rfl, rfl⟩, raw.push _⟩ (by rw [n1]; exact few_le hl) fun h' tk acc c kp hS hit => ?_
        dsimp only at kp hS ⊢
        obtain ⟨rw', rv⟩ := ent_vals D.ent
        have ea : acc.toList = (ents kvs xs).map (·.2.2) := by
          obtain ⟨sz, itm⟩ := hit
          refine List.ext_getElem? fun j => ?_
          by_cases hj : j < es.size
          · obtain ⟨y, ey, _, ev, _⟩ := he j hj
            have hj' : j < acc.size := by rw [sz]; exact hj
            obtain ⟨_, z⟩ := itm j acc[j] (Array.getElem?_eq_getElem hj')
            rw [List.getElem?_map, ey, Array.getElem?_toList, Array.getElem?_eq_getElem hj', z, ev]
            rfl
          · rw [List.getElem?_eq_none (by rw [Array.length_toList, sz]; omega), List.getElem?_eq_none (by rw [List.length_map, ← hs]; omega)]
        rw [← ea] at rv
        have lo : s1.heap.objs.size ≤ (s1.heap.push { cls := .type "dict_values", data := .fields #[.ref d] }).objs.size := by rw [Heap.size_push]; exact Nat.le_succ _
        have hn := I1.hok.fresh lo
        have few' : (xs.map (·.2.1)).length ≤ sizeLine := by rw [List.length_map, ← zl]; exact few_le hl
        have I2 := I1.laid (t' := tk) (o := .lst (xs.map (·.2.1))) (h' := h') (fun b u q => kp b u (Heap.get?_push_of_some _ q)) lo ⟨few', acc.toList, c, rv, by rw [hS]⟩
        refine ⟨.ref _, _, I2, rfl, ?_⟩
        exact Fin.lst (M := M) (fun ι' H' v x' R' rv' => h1.ok ι' H' v (x1.trans x') R' rv') R1 rw' _ hn
    · rw [if_neg hl] at h1
      exact h1.none.elim
end G

set_option Elab.async false
set_option linter.all false
set_option maxRecDepth 100000
set_option maxHeartbeats 4000000
namespace G
open PySem L2 PySem.Spec PyProof.Rows
/-! ### t[::-1], t a tuple -/
section
variable {P0 : Program} {w : World} {A : Around} {E : Value → Shared → Prop} {s : Shared}
theorem places_rev (n : Nat) : Builtin.Slice.slicePlaces ((n : Int) - 1) (-1) (-1) = n := by
  unfold Builtin.Slice.slicePlaces
  rw [if_neg (by omega)]
  by_cases h : (n : Int) - 1 > -1
  · rw [if_pos h]
    show (((n : Int) - 1 - -1 - 1) / 1 + 1).toNat = n
    rw [Int.ediv_one]
    omega
  · rw [if_neg h]; omega
theorem applied_rev {sl : Addr} {vl vu vs : Value} {n : Nat} {Q : Int × Int × Nat → Shared → Prop} (hs : s.heap.IsSliceOf sl vl vu vs) (pl : IsPart vl none) (pu : IsPart vu none) (ps : IsPart vs (some (-1))) (h : Q ((n : Int) - 1, -1, n) s) :
    wpAny (model P0 w) A (Builtin.Slice.sliceApplied (.ref sl) (pure (n : Int))) Q E s := by
  obtain ⟨os, hos, hcs, hds⟩ := id hs
  unfold Builtin.Slice.sliceApplied Builtin.Slice.sliceFields
  refine wpAny_bind (wpAny_bind (wpAny_field hos hds (x := vl) rfl (wpAny_bind (wpAny_field hos hds (x := vu) rfl (wpAny_bind (wpAny_field hos hds (x := vs) rfl (wpAny_pure ?_)))))))
  refine wpAny_bind (HT.slicePart_ ps ?_)
  show wpAny _ _ (if ((-1 : Int) == 0) = true then _ else _) _ _ s
  rw [if_neg (by decide)]
  refine wpAny_bind (HT.slicePart_ pl (wpAny_bind (HT.slicePart_ pu (wpAny_bind (wpAny_pure ?_)))))
  show wpAny _ _ (pure ((n : Int) - 1, (-1 : Int), Builtin.Slice.slicePlaces ((n : Int) - 1) (-1) (-1))) _ _ s
  rw [places_rev]
  exact wpAny_pure h
theorem pick_back (xs : Array Value) : ((List.range xs.size).filterMap fun (m : Nat) => xs[((xs.size : Int) - 1 + (m : Int) * (-1)).toNat]?).toArray = xs.toList.reverse.toArray := by
  congr 1
  obtain ⟨l⟩ := xs
  simp only [List.size_toArray, List.getElem?_toArray]
  refine List.ext_getElem? fun j => ?_
  have all : ∀ m ∈ List.range l.length, (fun (m : Nat) => l[((l.length : Int) - 1 + (m : Int) * (-1)).toNat]?) m = some (l.getD (l.length - 1 - m) .none) := fun m hm => by
    have lt : m < l.length := List.mem_range.mp hm
    have e : ((l.length : Int) - 1 + (m : Int) * (-1)).toNat = l.length - 1 - m := by omega
    show l[((l.length : Int) - 1 + (m : Int) * (-1)).toNat]? = _
    rw [e, List.getElem?_eq_getElem (by omega), List.getD_eq_getElem?_getD, List.getElem?_eq_getElem (by omega)]
    rfl
  have go : ∀ (ms : List Nat), (∀ m ∈ ms, (fun (m : Nat) => l[((l.length : Int) - 1 + (m : Int) * (-1)).toNat]?) m = some (l.getD (l.length - 1 - m) .none)) → ms.filterMap (fun (m : Nat) => l[((l.length : Int) - 1 + (m : Int) * (-1)).toNat]?) = ms.map fun m => l.getD (l.length - 1 - m) .none := by
    intro ms
    induction ms with
    | nil => intro _; rfl
    | cons m r ih =>
      intro h
      have hm : l[((l.length : Int) - 1 + (m : Int) * (-1)).toNat]? = some (l.getD (l.length - 1 - m) .none) := h m List.mem_cons_self
      rw [List.filterMap_cons, hm, List.map_cons]
      exact congrArg _ (ih fun x hx => h x (List.mem_cons_of_mem _ hx))
  rw [go _ all, List.getElem?_map]
  by_cases hj : j < l.length
  · rw [List.getElem?_range hj, List.getElem?_reverse hj, Option.map_some, List.getD_eq_getElem?_getD, List.getElem?_eq_getElem (by omega)]
    rfl
  · rw [List.getElem?_eq_none (by rw [List.length_range]; omega), List.getElem?_eq_none (by rw [List.length_reverse]; omega)]
    rfl
theorem getItem_back {t sl : Addr} {items : Array Value} {vl vu vs : Value} {Q : Value → Shared → Prop} (ht : IsTup s.heap t items) (hs : s.heap.IsSliceOf sl vl vu vs) (pl : IsPart vl none) (pu : IsPart vu none) (ps : IsPart vs (some (-1)))
    (h : Q (.ref s.heap.objs.size) { s with heap := s.heap.push { cls := .type "tuple", data := .seq items.toList.reverse.toArray } }) (hsz : items.size ≤ sizeLine) : wpAny (model P0 w) A (getItem (.ref t) (.ref sl)) Q E s := by
  have fits : sizeOk (.seq items.toList.reverse.toArray) := by
    show items.toList.reverse.toArray.size ≤ sizeLine
    rw [List.size_toArray, List.length_reverse, Array.length_toList]
    exact hsz
  obtain ⟨os, hos, hcs, hds⟩ := id hs
  have hTs : s.TypeIs (.ref sl) "slice" := ⟨os, hos, hcs⟩
  unfold getItem
  try with_reducible refine wpAny_holding ?_
  first | refine wpAny_bind (wpAny_pure ?_) | skip
  refine wpAny_bind (wpAny_sequenceKey ht.typeIs (by decide) ?_)
  refine wpAny_bind (wpAny_callSpecial?_slot (name := Str.ofString "__getitem__") ht.typeIs PyProof.Rows.slot_tuple_getitem (wpAny_call_entry PyProof.Rows.slot_tuple_getitem ht.typeIs entry_tuple_getitem ?_ (args_tuple_getitem _ _)))
  refine wpAny_bind (wpAny_pure ?_)
  refine wpAny_bind (tupleItemsOf_ ht ?_)
  refine wpAny_bind (wpAny_typeOf hTs ?_)
  rw [if_pos (by decide)]
  refine wpAny_bind (applied_rev (n := items.size) hs pl pu ps ?_)
  have no : ¬ ((((items.size : Int) - 1) == 0 && (-1 : Int) == 1 && items.size == items.size) = true) := by simp
  show wpAny _ _ (if (((items.size : Int) - 1) == 0 && (-1 : Int) == 1 && items.size == items.size) = true then _ else _) _ _ s
  rw [if_neg no, pick_back]
  first
    | exact wpAny_bind (m := Builtin.Tuple.tupleExact _) (wpAny_newObj_type (wpAny_pure ⟨_, rfl, wpAny_pure h⟩) fits)
    | exact wpAny_bind (m := Builtin.Tuple.tupleExact _) (wpAny_newObj_type (wpAny_bind (wpAny_pure (wpAny_pure ⟨_, rfl, wpAny_pure h⟩))) fits)
    | exact wpAny_bind (wpAny_bind (m := Builtin.Tuple.tupleExact _) (wpAny_newObj_type (wpAny_pure (wpAny_pure ⟨_, rfl, wpAny_pure h⟩)) fits))
    | exact wpAny_bind (wpAny_bind (m := Builtin.Tuple.tupleExact _) (wpAny_newObj_type (wpAny_pure ⟨_, rfl, wpAny_pure h⟩) fits))
end
variable {M : Md} {H H' H1 H2 : Hp} {ι ι' ι1 ι2 : List Addr} {X : Cx} {W' : WX}
/-- xs[::-1], of lists and tuples -/
def rBack (K : PySem.W.Frag) (x : V) (H : Hp) (Q : VK) : Prop := (∃ a xs, x = .ref a ∧ SqL K H a xs ∧ ∀ p, H p = none → Q (.ref p) (upd H p (.lst xs.reverse))) ∨ ∃ a xs, x = .ref a ∧ SqT K H a xs ∧ ∀ p, H p = none → Q (.ref p) (upd H p (.tup xs.reverse))
theorem pe_back {e : Expr} {te : TE} {k : Nat} {p1 p2 p3 pos : Pos} (he : PE X e te) : PE X (.Subscript e (.Slice none none (some (.UnaryOp .USub (.Constant (.int 1) k p1) p2)) p3) pos) (tUn (rBack X.K) te) := by
  refine ⟨fun pins s σ H Q I h => ?_⟩
  refine Subscript_ (thn (he.run pins s σ H _ I h) fun v s1 ⟨x, H1, I1, r1, q1⟩ => ?_)
  have hst : PO X (some (.UnaryOp .USub (.Constant (.int 1) k p1) p2)) (tPart (tUn (rU fun i => .int (-i)) (tC (.int 1)))) := po_some (pe_un un_neg pe_int)
  refine wpAny_Slice (thn (po_none.run pins s1 σ H1 (fun o H2 => o = none ∧ H2 = H1) I1 ⟨rfl, rfl⟩) fun vl s2 ⟨l, H2, I2, pl, el, e2⟩ => ?_)
  subst el e2
  refine thn (po_none.run pins s2 σ H2 (fun o H3 => o = none ∧ H3 = H2) I2 ⟨rfl, rfl⟩) fun vu s3 ⟨u, H3, I3, pu, eu, e3⟩ => ?_
  subst eu e3
  refine thn (hst.run pins s3 σ H3 (fun o H4 => o = some (-1) ∧ H4 = H3) I3 ⟨1, rfl, -1, rfl, rfl, rfl⟩) fun vs s4 ⟨o, H4, I4, ps, eo, e4⟩ => ?_
  subst eo e4
  have I5 : Inv X pins σ H4 { s4 with heap := s4.heap.push { cls := .type "slice", data := .fields #[vl, vu, vs] } } := I4.kept (t' := s4.toks) fun b ob q => Heap.get?_push_of_some _ q
  have hn := I5.hok.fresh (Nat.le_refl _)
  rcases q1 with ⟨a, xs, ex, hx, q⟩ | ⟨a, xs, ex, hx, q⟩
  · subst ex
    obtain rfl : v = Value.ref a := r1
    obtain ⟨its, r, ht, hz⟩ := I5.list hx
    have hlen := r.length
    refine tail_any (ops := [.ref a, .ref s4.heap.objs.size]) ht.isList.typeIs (PySem.slot_list_getitem.lookup) ?_ (by with_unfolding_all rfl)
    refine wpAny_getItem_list_slice ht.isList (Heap.IsSliceOf.new _ vl vu vs) pl pu ps (by decide) ?_ (by rw [List.size_toArray]; omega)
    rw [PySem.W.krv_pick]
    exact ⟨.ref _, _, I5.laid (t' := s4.toks) (o := .lst xs.reverse) (fun b ob q => Heap.get?_push_of_some _ q) (Nat.le_refl _) ⟨by rw [List.length_reverse]; exact hz, _, 0, r.reverse, Heap.get?_push_size _ rfl⟩, rfl, q _ hn⟩
  · subst ex
    obtain rfl : v = Value.ref a := r1
    obtain ⟨its, r, ht, hz⟩ := I5.tuple hx
    have hlen := r.length
    refine tail_any (ops := [.ref a, .ref s4.heap.objs.size]) ht.typeIs (PyProof.Rows.slot_tuple_getitem.lookup) ?_ (by with_unfolding_all rfl)
    refine getItem_back ht (Heap.IsSliceOf.new _ vl vu vs) pl pu ps ?_ (by rw [List.size_toArray]; omega)
    exact ⟨.ref _, _, I5.laid (t' := s4.toks) (o := .tup xs.reverse) (fun b ob q => Heap.get?_push_of_some _ q) (Nat.le_refl _) ⟨by rw [List.length_reverse]; exact hz, _, by simpa using r.reverse, IsTup.new _ _⟩, rfl, q _ hn⟩
def wBackV (x : W) (E : Hh) : Option (W × Hh) := match x with
  | .tup ws => some (.tup ws.reverse, E)
  | _ => wRevV x E
def wBack (ca : Act W) : Act W := fun σ E => andThen (ca σ E) fun x E1 => lift (wBackV x E1)
theorem pe_backG {a : Expr} {k : Nat} {p1 p2 p3 pos : Pos} {ca : Act W} (at' : X.K = M.K) (ha : PE X a (SE M W' ca)) : PE X (.Subscript a (.Slice none none (some (.UnaryOp .USub (.Constant (.int 1) k p1) p2)) p3) pos) (SE M W' (wBack ca)) :=
  PE.imp (pe_back ha) (se_un (f := wBackV) (r := rBack X.K) fun {ι E E' H x z v Q} h R rx k => by
    unfold wBackV at h
    split at h
    · rename_i ws
      obtain ⟨rfl, rfl⟩ : W.tup ws.reverse = z ∧ E = E' := by simpa using h
      obtain ⟨a, vs, rfl, hs, rws⟩ := rx
      rw [at']
      exact .inr ⟨a, vs, rfl, hs, Fin.tup k R rws.rev⟩
    · unfold wRevV at h
      split at h
      · split at h
        · rename_i i ws e
          obtain ⟨rfl, rfl⟩ : (.ref E.length : W) = z ∧ E ++ [.lst ws.reverse] = E' := by simpa using h
          obtain ⟨a, vs, rfl, hq, rws⟩ := seq_ref R e rx
          exact .inl ⟨a, vs, rfl, by rw [at']; exact hq, Fin.lst k R rws.rev⟩
        · cases h
      · cases h)
end G

set_option Elab.async false
set_option linter.all false
set_option maxRecDepth 100000
set_option maxHeartbeats 4000000
namespace G
open PySem L2 PySem.Spec PyProof.Rows
variable {M : Md} {H H' H1 H2 : Hp} {ι ι' ι1 ι2 : List Addr} {X : Cx} {W' : WX}
/-! ### e in D, D[e]: D a dict that the module's text writes -/
def inK (kvs : List (Str × W)) (y : W) (E : Hh) : Option (W × Hh) := match y with
  | .str z => some (.bl (kvs.lookup z).isSome, E)
  | _ => none
def ixK (kvs : List (Str × W)) (y : W) (E : Hh) : Option (W × Hh) := match y with
  | .str z => (kvs.lookup z).map fun w => (w, E)
  | _ => none
def kinA (kvs : List (Str × W)) (ca : Act W) : Act W := fun σ E => andThen (ca σ E) fun y E1 => lift (inK kvs y E1)
def kixA (kvs : List (Str × W)) (ca : Act W) : Act W := fun σ E => andThen (ca σ E) fun y E1 => lift (ixK kvs y E1)
theorem Kd.dict {Γ : Gm} {a : Addr} {kvs : List (Str × W)} (at' : At M Γ W' X) (k : Kd M a kvs) : ∃ es n, KDict X.K X.w a es n ∧ ∀ z, ∃ r, PySem.W.nsIn X.K a z = some r ∧ KdV M kvs z r := by
  obtain ⟨es, n, hl, hk, hz⟩ := k.at_
  refine ⟨es, n, ⟨by rw [at'.K]; exact hl, by rw [at'.w]; exact hk, k.low⟩, fun z => ?_⟩
  obtain ⟨r, e, hv⟩ := hz z
  exact ⟨r, by rw [at'.K]; exact e, hv⟩
theorem kin_imp {Γ : Gm} {a : Addr} {kvs : List (Str × W)} {es : Array DictEntry} {n : Nat} {ca : Act W} (hz : ∀ z, ∃ r, PySem.W.nsIn X.K a z = some r ∧ KdV M kvs z r) : ∀ (σ : L2.St) (H : Hp) (Q : VK), SE M W' (kinA kvs ca) σ H Q →
    tOp (fun x y H Q => ∃ (z : Str) (r : Option Value), x = .str z ∧ y = .ref a ∧ PySem.W.nsIn X.K a z = some r ∧ Q (.bl r.isSome) H) (SE M W' ca) (tC (.ref a)) σ H Q := fun σ H Q ⟨ι, E, σE, R, rs, k⟩ =>
  ⟨ι, E, σE, R, rs, (Rs.bind k).imp fun y E1 h1 => fun ι1 H1 v x1 R1 rv => by
    obtain ⟨w, E', e, g⟩ := h1.lift
    unfold inK at e
    split at e
    · rename_i z
      obtain ⟨rfl, rfl⟩ : (.bl (kvs.lookup z).isSome : W) = w ∧ E1 = E' := by simpa using e
      obtain ⟨r, er, hv⟩ := hz z
      refine ⟨z, r, rv, rfl, er, ?_⟩
      have es : r.isSome = (kvs.lookup z).isSome := by
        unfold KdV at hv
        split at hv
        · rename_i w' ew
          obtain ⟨u, v', rfl, _⟩ := hv
          rw [ew]
          rfl
        · rename_i ew
          rw [hv, ew]
          rfl
      rw [es]
      exact g ι1 H1 _ x1 R1 rfl
    · cases e⟩
theorem pe_kinG {Γ : Gm} {x : Str} {e : Expr} {p pos : Pos} {kvs : List (Str × W)} {a : Addr} {ca : Act W} (at' : At M Γ W' X) (hg : Gl X x) (hm : M.mg x = some (.ref a)) (hd : (x == ("__debug__" : Str)) = false) (hk : Kd M a kvs) (he : PE X e (SE M W' ca)) :
    PE X (.Compare e [.In] [.Name x p] pos) (SE M W' (kinA kvs ca)) := by
  obtain ⟨es, n, D, hz⟩ := hk.dict at'
  exact PE.imp (pe_cmpR (op_in_kd D) he (pe_glob (v := .ref a) (u := .ref a) (pos := p) hg (by rw [at'.mg]; exact hm) rfl hd) rfl) (kin_imp (Γ := Γ) (es := es) (n := n) hz)
theorem pt_kinG {Γ : Gm} {x : Str} {e : Expr} {p pos : Pos} {kvs : List (Str × W)} {a : Addr} {ca : Act W} (at' : At M Γ W' X) (hg : Gl X x) (hm : M.mg x = some (.ref a)) (hd : (x == ("__debug__" : Str)) = false) (hk : Kd M a kvs) (he : PE X e (SE M W' ca)) :
    PT X (.Compare e [.In] [.Name x p] pos) (ST M W' (toT (kinA kvs ca))) := by
  obtain ⟨es, n, D, hz⟩ := hk.dict at'
  exact PT.imp (pt_cmpR (op_in_kd D) he (pe_glob (v := .ref a) (u := .ref a) (pos := p) hg (by rw [at'.mg]; exact hm) rfl hd) rfl) fun σ H Q q => tTest_mono (kin_imp (Γ := Γ) (es := es) (n := n) hz) σ H Q (st_test σ H Q q)
theorem pe_kixG {Γ : Gm} {x : Str} {e : Expr} {p pos : Pos} {kvs : List (Str × W)} {a : Addr} {ca : Act W} (at' : At M Γ W' X) (hg : Gl X x) (hm : M.mg x = some (.ref a)) (hd : (x == ("__debug__" : Str)) = false) (hk : Kd M a kvs) (hp : plainIx e = true) (he : PE X e (SE M W' ca)) :
    PE X (.Subscript (.Name x p) e pos) (SE M W' (kixA kvs ca)) := by
  obtain ⟨es, n, D, hz⟩ := hk.dict at'
  refine PE.imp (pe_ix ix_kdict (pe_glob (v := .ref a) (u := .ref a) (pos := p) hg (by rw [at'.mg]; exact hm) rfl hd) he (plainIx_ok hp)) fun σ H Q ⟨ι, E, σE, R, rs, k⟩ => ?_
  refine ⟨ι, E, σE, R, rs, (Rs.bind k).imp fun y E1 h1 => fun ι1 H1 v x1 R1 rv => ?_⟩
  obtain ⟨w, E', e, g⟩ := h1.lift
  unfold ixK at e
  split at e
  · rename_i z
    obtain ⟨r, er, hv⟩ := hz z
    unfold KdV at hv
    cases ez : kvs.lookup z with
    | none => rw [ez] at e; cases e
    | some w0 =>
      rw [ez] at e hv
      obtain ⟨rfl, rfl⟩ : w0 = w ∧ E1 = E' := by simpa using e
      obtain ⟨u, v0, rfl, rv0, rw0⟩ := hv
      exact ⟨a, z, v0, rfl, rv, ⟨es, n, u, D.at_, D.lit, er, rv0⟩, g ι1 H1 v0 x1 R1 (rw0 H1 ι1)⟩
  · cases e
end G

set_option Elab.async false
set_option linter.all false
set_option maxRecDepth 100000
set_option maxHeartbeats 4000000
namespace G
open PySem L2 PySem.Spec PyProof.Rows
variable {M : Md} {H H' H1 H2 : Hp} {ι ι' ι1 ι2 : List Addr} {X : Cx} {W' : WX}

/-! ### len(set(xs)), xs a list of texts -/
theorem texts_at : ∀ {xs : List Str} {us : List Value}, Vals (xs.map V.str) us → ∀ (i : Nat) (v : Value), us[i]? = some v → ∃ (x : Str) (t : Tok), xs[i]? = some x ∧ v = Value.str x t
  | [], _, .nil, i, v, h => by simp at h
  | x :: r, _, .cons (b := u) ru rt, 0, v, h => by
    obtain ⟨t, e⟩ := ru
    refine ⟨x, t, rfl, ?_⟩
    have h : u = v := by simpa using h
    rw [← h]
    exact e
  | x :: r, _, .cons ru rt, i + 1, v, h => by
    simpa using texts_at rt i v (by simpa using h)
def tLS (K : PySem.W.Frag) (ta : TE) : TE := fun σ H Q => ta σ H fun x H1 => ∃ (l : Addr) (xs : List Str), x = .ref l ∧ SqL K H1 l (xs.map V.str) ∧ xs.length ≤ 400 ∧ Q (.int (dis xs).length) H1
theorem pe_ls {a : Expr} {ta : TE} {p p2 q pos : Pos} (hc : X.calm = true) (hg : Gl X "len") (hm : X.mg "len" = none) (hg2 : Gl X "set") (hm2 : X.mg "set" = none) (hp : plainArg a = true) (ha : PE X a ta) : PE X (.Call (.Name "len" p) [.Call (.Name "set" p2) [a] [] q] [] pos) (tLS X.K ta) := by
  refine ⟨fun pins s σ H Q I h => Call_ (ld_blt I hg hm boot_len (callWith_builtin1 (args_cons (Call_ (ld_blt I hg2 hm2 boot_set (callWith_type1 (args_cons (thn (ha.run pins s σ H _ I h) fun v s1 hh => args_nil ?_) (starEach_cons hp)) (starEach_cons hp) rfl))) rfl) rfl rfl))⟩
  obtain ⟨x, H1, I1, r1, l, xs, ex, hq, few, q1⟩ := hh
  subst ex
  obtain rfl : v = Value.ref l := r1
  obtain ⟨its, rv, pl, hz⟩ := I1.list hq
  have sz : xs.length = its.toArray.size := by rw [List.size_toArray, ← rv.length, List.length_map]
  refine set_texts (I1.ok.hd hc) pl.isList sz (by rw [← sz]; unfold scanBound; omega) (fun i v hv => texts_at rv i v (by simpa using hv)) fun h' tk hS hk => args_nil ?_
  obtain ⟨o, es, ep, t, ho, hex, hd, _, _, _, hf, hn⟩ := hS
  have dl := dis_len xs
  exact call_len_set ho hex hd hf (by rw [hn]; omega) ⟨.int (dis xs).length, H1, (I1.kept (t' := tk) hk).tok _, ⟨_, by rw [hn]⟩, q1⟩
def lenSet (x : W) (E : Hh) : Option (W × Hh) := match lstOf E x with
  | some (_, ws) => match ws.mapM strOf with
    | some xs => if xs.length ≤ 400 then some (.int (dis xs).length, E) else none
    | none => none
  | none => none
def lenSetA (ca : Act W) : Act W := fun σ E => andThen (ca σ E) fun x E1 => lift (lenSet x E1)
theorem pe_lenSetG {Γ : Gm} {a : Expr} {ca : Act W} {p p2 q pos : Pos} (i : At M Γ W' X) (hg : Gl X "len") (hm : X.mg "len" = none) (hg2 : Gl X "set") (hm2 : X.mg "set" = none) (hp : plainArg a = true) (ha : PE X a (SE M W' ca)) : PE X (.Call (.Name "len" p) [.Call (.Name "set" p2) [a] [] q] [] pos) (SE M W' (lenSetA ca)) :=
  PE.imp (pe_ls i.calm hg hm hg2 hm2 hp ha) fun σ H Q ⟨ι, E, σE, R, rs, k⟩ => ⟨ι, E, σE, R, rs, (Rs.bind k).imp fun x E1 h1 => fun ι1 H1 v x1 R1 rx => by
    obtain ⟨w, E', e, g⟩ := h1.lift
    unfold lenSet at e
    split at e
    · rename_i n ws e1
      split at e
      · rename_i xs e2
        split at e
        · rename_i few
          obtain ⟨rfl, rfl⟩ : (.int (dis xs).length : W) = w ∧ E1 = E' := by simpa using e
          obtain ⟨b, us, _, _, _, rfl, hb, rw'⟩ := lst_ok R1 e1 rx
          rw [strs_ok e2 rw'] at hb
          exact ⟨b, xs, rfl, by rw [i.K]; exact SqL.of hb, few, g ι1 H1 _ x1 R1 rfl⟩
        · cases e
      · cases e
    · cases e⟩
end G

set_option Elab.async false
set_option linter.all false
set_option maxRecDepth 100000
set_option maxHeartbeats 4000000
namespace G
open PySem L2 PySem.Spec PyProof.Rows
variable {M : Md} {H H' H1 H2 : Hp} {ι ι' ι1 ι2 : List Addr} {X : Cx} {W' : WX}
/-! ### sorted(set(xs)), xs a list of ints -/
def insI (k : Int) : List Int → List Int
  | [] => [k]
  | x :: r => if k < x then k :: x :: r else if k = x then x :: r else x :: insI k r
def sortI (xs : List Int) : List Int := xs.foldr insI []
theorem insI_mem {k j : Int} : ∀ {xs : List Int}, j ∈ insI k xs ↔ j = k ∨ j ∈ xs
  | [] => by simp [insI]
  | x :: r => by
    unfold insI
    split
    · simp
    · split
      · rename_i h
        subst h
        simp
      · simp [insI_mem (xs := r)]
        constructor
        · rintro (h | h | h) <;> simp [h]
        · rintro (h | h | h) <;> simp [h]
theorem insI_lt {k : Int} : ∀ {xs : List Int}, xs.Pairwise (· < ·) → (insI k xs).Pairwise (· < ·)
  | [], _ => by simp [insI]
  | x :: r, h => by
    obtain ⟨h1, h2⟩ := List.pairwise_cons.mp h
    unfold insI
    split
    · rename_i hk
      refine List.pairwise_cons.mpr ⟨fun y hy => ?_, h⟩
      rcases List.mem_cons.mp hy with e | e
      · rw [e]; exact hk
      · exact Int.lt_trans hk (h1 y e)
    · split
      · exact h
      · rename_i a b
        refine List.pairwise_cons.mpr ⟨fun y hy => ?_, insI_lt h2⟩
        rcases insI_mem.mp hy with e | e
        · omega
        · exact h1 y e
theorem sortI_mem {j : Int} : ∀ {xs : List Int}, j ∈ sortI xs ↔ j ∈ xs
  | [] => by simp [sortI]
  | x :: r => by
    show j ∈ insI x (sortI r) ↔ _
    rw [insI_mem, sortI_mem (xs := r)]
    simp
theorem sortI_lt : ∀ {xs : List Int}, (sortI xs).Pairwise (· < ·)
  | [] => List.Pairwise.nil
  | x :: r => insI_lt (sortI_lt (xs := r))
theorem asc_one : ∀ {xs ys : List Int}, xs.Pairwise (· < ·) → ys.Pairwise (· < ·) → (∀ k, k ∈ xs ↔ k ∈ ys) → xs = ys
  | [], [], _, _, _ => rfl
  | [], y :: r, _, _, m => absurd ((m y).mpr List.mem_cons_self) (by simp)
  | x :: r, [], _, _, m => absurd ((m x).mp List.mem_cons_self) (by simp)
  | x :: r, y :: t, h1, h2, m => by
    obtain ⟨a1, a2⟩ := List.pairwise_cons.mp h1
    obtain ⟨b1, b2⟩ := List.pairwise_cons.mp h2
    have e : x = y := by
      rcases List.mem_cons.mp ((m x).mp List.mem_cons_self) with c | c
      · exact c
      · rcases List.mem_cons.mp ((m y).mpr List.mem_cons_self) with d | d
        · exact d.symm
        · have := b1 x c
          have := a1 y d
          omega
    subst e
    rw [asc_one a2 b2 fun k => ?_]
    constructor
    · intro hk
      rcases List.mem_cons.mp ((m k).mp (List.mem_cons_of_mem _ hk)) with c | c
      · have := a1 k hk
        omega
      · exact c
    · intro hk
      rcases List.mem_cons.mp ((m k).mpr (List.mem_cons_of_mem _ hk)) with c | c
      · have := b1 k hk
        omega
      · exact c
theorem ints_asF : ∀ {xs : List Int} {us : List Value}, Vals (xs.map V.int) us → ∀ (i : Nat) (v : Value), us[i]? = some v → ∃ (x : Int) (t : Tok), xs[i]? = some x ∧ v = Value.int x t
  | [], _, .nil, i, v, h => by simp at h
  | x :: r, _, .cons (b := u) ru rt, 0, v, h => by
    obtain ⟨t, e⟩ := ru
    have h : u = v := by simpa using h
    exact ⟨x, t, rfl, by rw [← h]; exact e⟩
  | x :: r, _, .cons ru rt, i + 1, v, h => by
    simpa using ints_asF rt i v (by simpa using h)
def tSS (K : PySem.W.Frag) (ta : TE) : TE := fun σ H Q => ta σ H fun x H1 => ∃ (l : Addr) (xs : List Int), x = .ref l ∧ SqL K H1 l (xs.map V.int) ∧ xs.length ≤ 60 ∧ ∀ p, H1 p = none → Q (.ref p) (upd H1 p (.lst ((sortI xs).map V.int)))
theorem pe_ss {a : Expr} {ta : TE} {p p2 q pos : Pos} (hc : X.calm = true) (hg : Gl X "sorted") (hm : X.mg "sorted" = none) (hg2 : Gl X "set") (hm2 : X.mg "set" = none) (hp : plainArg a = true) (ha : PE X a ta) : PE X (.Call (.Name "sorted" p) [.Call (.Name "set" p2) [a] [] q] [] pos) (tSS X.K ta) := by
  refine ⟨fun pins s σ H Q I h => Call_ (ld_blt I hg hm PyProof.Rows.boot_sorted (callWith_builtin1 (args_cons (Call_ (ld_blt I hg2 hm2 boot_set (callWith_type1 (args_cons (thn (ha.run pins s σ H _ I h) fun v s1 hh => args_nil ?_) (starEach_cons hp)) (starEach_cons hp) rfl))) rfl) rfl rfl))⟩
  obtain ⟨x, H1, I1, r1, l, xs, ex, hq, few, q1⟩ := hh
  subst ex
  obtain rfl : v = Value.ref l := r1
  obtain ⟨its, rv, pl, hz⟩ := I1.list hq
  have sz : its.toArray.size = xs.length := by rw [List.size_toArray, ← rv.length, List.length_map]
  refine set_ints (I1.ok.hd hc) pl.isList sz (by unfold scanBound; omega) (fun i v hv => ints_asF rv i v (by simpa using hv)) fun h' tk c hS hc' hk => args_nil ?_
  have I2 : Inv X pins σ H1 { s1 with heap := h', toks := tk } := I1.kept (t' := tk) hk
  refine sorted_set hS (I2.ok.hd hc) (by omega) fun s' p out n ns k g o hp' hg' hi hs hm' hl => ?_
  have en : ns = sortI xs := asc_one hs sortI_lt fun j => by rw [hm' j, sortI_mem]; simp
  subst en
  have hlen : ((sortI xs).map V.int).length ≤ sizeLine := by rw [List.length_map, hl, sizeLine_eq]; omega
  have hn : H1 p = none := I2.hok.fresh hp'
  have J : Inv X pins σ (upd H1 p (.lst ((sortI xs).map V.int))) { ({ s1 with heap := h', toks := tk } : Shared) with heap := s'.heap, gens := s'.gens, drawn := s'.drawn, toks := s'.toks } :=
    I2.call (ch := []) (Un.laid k hp' hn) (I2.hok.laid k hp' ⟨hlen, out.toList, n, vals_of_ints hi, hg'⟩) (by rw [g]; exact I2.bare) (fun _ z => nomatch z)
  have e : s' = { s1 with heap := s'.heap, gens := s'.gens, drawn := s'.drawn, toks := s'.toks } := by
    cases s'
    cases s1
    cases o
    rfl
  rw [e]
  exact ⟨.ref p, _, J, rfl, q1 p hn⟩
def intsOf (ws : List W) : Option (List Int) := ws.mapM intW
theorem ints_okW : ∀ {ws : List W} {ns : List Int} {vs : List V}, ws.mapM intW = some ns → RelWs M H ι ws vs → vs = ns.map V.int
  | [], ns, vs, h, r => by
    simp at h
    subst h
    exact r
  | w :: ws, ns, vs, h, r => by
    obtain ⟨v, rs, rfl, r1, r2⟩ := r
    rw [List.mapM_cons] at h
    cases e1 : intW w with
    | none => simp [e1] at h
    | some d =>
      cases e2 : ws.mapM intW with
      | none => simp [e1, e2] at h
      | some es =>
        simp [e1, e2] at h
        subst h
        cases w <;> simp [intW] at e1
        subst e1
        rw [ints_okW e2 r2, show v = _ from r1]
        rfl
theorem RelWs.ints : ∀ ns : List Int, RelWs M H ι (ns.map W.int) (ns.map V.int)
  | [] => rfl
  | n :: ns => ⟨.int n, ns.map V.int, rfl, rfl, RelWs.ints ns⟩
def sortSet (x : W) (E : Hh) : Option (W × Hh) := match lstOf E x with
  | some (_, ws) => match ws.mapM intW with
    | some ns => if ns.length ≤ 60 then some (.ref E.length, E ++ [.lst ((sortI ns).map W.int)]) else none
    | none => none
  | none => none
def sortSetA (ca : Act W) : Act W := fun σ E => andThen (ca σ E) fun x E1 => lift (sortSet x E1)
theorem pe_sortSetG {Γ : Gm} {a : Expr} {ca : Act W} {p p2 q pos : Pos} (i : At M Γ W' X) (hg : Gl X "sorted") (hm : X.mg "sorted" = none) (hg2 : Gl X "set") (hm2 : X.mg "set" = none) (hp : plainArg a = true) (ha : PE X a (SE M W' ca)) : PE X (.Call (.Name "sorted" p) [.Call (.Name "set" p2) [a] [] q] [] pos) (SE M W' (sortSetA ca)) :=
  PE.imp (pe_ss i.calm hg hm hg2 hm2 hp ha) fun σ H Q ⟨ι, E, σE, R, rs, k⟩ => ⟨ι, E, σE, R, rs, (Rs.bind k).imp fun x E1 h1 => fun ι1 H1 v x1 R1 rx => by
    obtain ⟨w, E', e, g⟩ := h1.lift
    unfold sortSet at e
    split at e
    · rename_i n ws e1
      split at e
      · rename_i xs e2
        split at e
        · rename_i few
          obtain ⟨rfl, rfl⟩ : (.ref E1.length : W) = w ∧ E1 ++ [.lst ((sortI xs).map W.int)] = E' := by simpa using e
          obtain ⟨b, us, _, _, _, rfl, hb, rw'⟩ := lst_ok R1 e1 rx
          rw [ints_okW e2 rw'] at hb
          exact ⟨b, xs, rfl, by rw [i.K]; exact SqL.of hb, few, fun p hp => Fin.lst (M := M) (fun ι' H' v x' R' rv' => g ι' H' v (x1.trans x') R' rv') R1 (RelWs.ints _) p hp⟩
        · cases e
      · cases e
    · cases e⟩
end G

set_option Elab.async false
set_option linter.all false
set_option maxRecDepth 100000
set_option maxHeartbeats 4000000
namespace G
open PySem L2 PySem.Spec PyProof.Rows
variable {M : Md} {H H' H1 H2 : Hp} {ι ι' ι1 ι2 : List Addr} {X : Cx} {W' : WX}
/-! ### dict(xs), xs a list of pairs; dict(d) -/
def pairOf : W → Option (Key × W)
  | .tup [k, v] => match keyOf k with
    | some key => some (key, v)
    | none => none
  | _ => none
theorem pairOf_ok {w : W} {p : Key × W} {v : V} (h : pairOf w = some p) (r : RelW M H ι w v) : ∃ a u, v = .ref a ∧ SqT M.K H a [kV p.1, u] ∧ RelW M H ι p.2 u := by
  unfold pairOf at h
  split at h
  · rename_i k y
    split at h
    · rename_i key e
      obtain rfl := Option.some.inj h
      obtain ⟨a, vs, rfl, hq, rws⟩ := r
      obtain ⟨kv, u, rfl, rk, ru⟩ := two_ok rws
      exact ⟨a, u, rfl, by rw [← keyOf_ok e rk]; exact hq, ru⟩
    · cases h
  · cases h
theorem pairs_okW : ∀ {ws : List W} {kvs : List (Key × W)} {vs : List V}, ws.mapM pairOf = some kvs → RelWs M H ι ws vs → ∃ ps us, vs = ps.map V.ref ∧ Paired (fun p kv => SqT M.K H p [kV kv.1, kv.2]) ps ((kvs.map (·.1)).zip us) ∧ RelWs M H ι (kvs.map (·.2)) us
  | [], kvs, vs, h, r => by
    simp at h
    subst h
    exact ⟨[], [], r, .nil, rfl⟩
  | w :: ws, kvs, vs, h, r => by
    obtain ⟨v, rs, rfl, r1, r2⟩ := r
    rw [List.mapM_cons] at h
    cases e1 : pairOf w with
    | none => simp [e1] at h
    | some p =>
      cases e2 : ws.mapM pairOf with
      | none => simp [e1, e2] at h
      | some es =>
        simp [e1, e2] at h
        subst h
        obtain ⟨a, u, rfl, hq, ru⟩ := pairOf_ok e1 r1
        obtain ⟨ps, us, rfl, hp, rus⟩ := pairs_okW e2 r2
        exact ⟨a :: ps, u :: us, rfl, .cons hq hp, u, us, rfl, ru, rus⟩
def dictF (x : W) (E : Hh) : Option (W × Hh) := match dKOf E x with
  | some (_, kvs) => some (.ref E.length, E ++ [.dK kvs])
  | none => match lstOf E x with
    | some (_, ws) => match ws.mapM pairOf with
      | some kvs => some (.ref E.length, E ++ [.dK (mrgW [] kvs)])
      | none => none
    | none => none
def dictA (ca : Act W) : Act W := fun σ E => andThen (ca σ E) fun x E1 => lift (dictF x E1)
theorem Fin.dK {E : Hh} {Q : VK} {kvs : List (Key × W)} {vs : List V} (k : Fin M ι H (.ref E.length) (E ++ [.dK kvs]) Q) (R : Rel M ι E H) (rws : RelWs M H ι (kvs.map (·.2)) vs) (p : Addr) (hp : H p = none) : Q (.ref p) (upd H p (.dK ((kvs.map (·.1)).zip vs))) := by
  obtain ⟨R', x⟩ := Rel.new (ho := .dK ((kvs.map (·.1)).zip vs)) (o := .dK kvs) R hp fun x => ⟨vs, upd_same, rws.ext x⟩
  exact k _ _ _ x R' ⟨p, by rw [← R.len]; simp, rfl⟩
theorem or_callR {f : Value} {r1 r2 : List V → Hp → VK → Prop} (h1 : CallR X f r1) (h2 : CallR X f r2) : CallR X f (fun vs H Q => r1 vs H Q ∨ r2 vs H Q) := fun pins s σ H xs us Q I r h => h.elim (h1 pins s σ H xs us Q I r) (h2 pins s σ H xs us Q I r)
theorem pe_dictG {Γ : Gm} {e : Expr} {ca : Act W} {p pos : Pos} (i : At M Γ W' X) (hg : Gl X "dict") (hm : X.mg "dict" = none) (hp : plainArg e = true) (ha : PE X e (SE M W' ca)) : PE X (.Call (.Name "dict" p) [e] [] pos) (SE M W' (dictA ca)) :=
  PE.imp (pe_callTy (or_callR (call_dictP i.calm) call_dictD) hg hm PyProof.Rows.boot_dict (pa_cons ha pa_nil (starEach_cons hp)) (he := starEach_cons hp)) fun σ H Q ⟨ι, E, σE, R, rs, k⟩ => ⟨ι, E, σE, R, rs, (Rs.bind k).imp fun x E1 h1 => fun ι1 H1 v x1 R1 rx => by
    obtain ⟨w, E', e, g⟩ := h1.lift
    have g1 : Fin M ι1 H1 w E' Q := fun ι' H' v x' R' rv' => g ι' H' v (x1.trans x') R' rv'
    unfold dictF at e
    split at e
    · rename_i n kvs e1
      obtain ⟨rfl, rfl⟩ : (.ref E1.length : W) = w ∧ E1 ++ [.dK kvs] = E' := by simpa using e
      obtain ⟨a, vs, _, _, rfl, hd, rws⟩ := dK_ok R1 e1 rx
      exact .inr ⟨a, _, rfl, .inl hd, fun p hp => g1.dK R1 rws p hp⟩
    · split at e
      · rename_i n ws e1
        split at e
        · rename_i kvs e2
          obtain ⟨rfl, rfl⟩ : (.ref E1.length : W) = w ∧ E1 ++ [.dK (mrgW [] kvs)] = E' := by simpa using e
          obtain ⟨b, us, _, _, _, rfl, hb, rw'⟩ := lst_ok R1 e1 rx
          obtain ⟨ps, us', rfl, hps, rus⟩ := pairs_okW e2 rw'
          obtain ⟨rs', em, rr⟩ := mrgW_ok (kvs := []) (vs := []) rfl rus
          refine .inl ⟨b, ps, _, rfl, by rw [i.K]; exact SqL.of hb, by rw [i.K]; exact hps, fun p hp => ?_⟩
          rw [show mergeK [] ((kvs.map (·.1)).zip us') = _ from em]
          exact g1.dK R1 rr p hp
        · cases e
      · cases e⟩
end G

set_option Elab.async false
set_option linter.all false
set_option maxRecDepth 100000
set_option maxHeartbeats 4000000
namespace G
open PySem L2 PySem.Spec PyProof.Rows
variable {M : Md} {H H' H1 H2 : Hp} {ι ι' ι1 ι2 : List Addr} {X : Cx} {W' : WX}
/-! ### sorted(xs), xs a list of texts -/
def sortS (xs : List Str) : List Str := xs.mergeSort (PySem.W.dataLe false PyData.str)
theorem each_str : ∀ {xs : List Str} {us : List Value}, Vals (xs.map V.str) us → PySem.W.EachIs (fun v b => RelV (V.str b) v) us xs
  | [], _, .nil => .nil
  | x :: r, _, .cons ru rt => .cons ru (each_str rt)
theorem str_each : ∀ {xs : List Str} {us : List Value}, PySem.W.EachIs (fun v b => RelV (V.str b) v) us xs → Vals (xs.map V.str) us
  | _, _, .nil => .nil
  | _, _, .cons ru rt => .cons ru (str_each rt)
theorem str_reads {h : Heap} : ∀ {xs : List Str} {us : List Value}, Vals (xs.map V.str) us → PySem.W.EachIs (fun v b => ∃ as, Reads h v (.str b) as) us xs
  | [], _, .nil => .nil
  | x :: r, _, .cons ru rt => .cons (by
      obtain ⟨t, rfl⟩ := ru
      exact ⟨_, .str _ _⟩) (str_reads rt)
def tSortS (K : PySem.W.Frag) (ta : TE) : TE := fun σ H Q => ta σ H fun x H1 => ∃ (l : Addr) (xs : List Str), x = .ref l ∧ SqL K H1 l (xs.map V.str) ∧ xs.length ≤ 1000 ∧ ∀ p, H1 p = none → Q (.ref p) (upd H1 p (.lst ((sortS xs).map V.str)))
theorem pe_sortS {a : Expr} {ta : TE} {p pos : Pos} (hu : X.A.units + 10 < cLine) (hg : Gl X "sorted") (hm : X.mg "sorted" = none) (hp : plainArg a = true) (ha : PE X a ta) : PE X (.Call (.Name "sorted" p) [a] [] pos) (tSortS X.K ta) := by
  refine ⟨fun pins s σ H Q I h => Call_ (ld_blt I hg hm PyProof.Rows.boot_sorted (callWith_builtin1 (args_cons (thn (ha.run pins s σ H _ I h) fun v s1 hh => args_nil ?_) (starEach_cons hp)) (starEach_cons hp) rfl))⟩
  obtain ⟨x, H1, I1, r1, l, xs, ex, hq, few, q1⟩ := hh
  subst ex
  obtain rfl : v = Value.ref l := r1
  obtain ⟨its, rv, pl, hz⟩ := I1.list hq
  have hlen0 : xs.length ≤ sizeLine := by rw [sizeLine_eq]; omega
  refine PySem.W.sorted_data (β := Str) (enc := PyData.str) (R := fun v b => RelV (V.str b) v) pl.isList (each_str rv) (str_reads rv) (PySem.W.AllAlike.of fun b b' => by simp [PySem.W.alike]) (PySem.W.Sortable.others fun b => ⟨by simp, by simp⟩) hlen0 (fun b hb => by simp [PyData.depth]; omega) fun out hl he => ?_
  have k : ∀ b o, s1.heap.get? b = some o → (sortedAll s1.heap its out.toArray).get? b = some o := fun b o e => sortedAll_old e
  obtain ⟨e0, hg'⟩ := sortedAll_at s1.heap its out.toArray
  have hn : H1 (s1.heap.objs.size + 1) = none := I1.hok.fresh (by omega)
  have hlen : ((sortS xs).map V.str).length ≤ sizeLine := by rw [List.length_map]; unfold sortS; rw [List.length_mergeSort]; exact hlen0
  have J : Inv X pins σ (upd H1 (s1.heap.objs.size + 1) (.lst ((sortS xs).map V.str))) { s1 with heap := sortedAll s1.heap its out.toArray } :=
    I1.call (ch := []) (Un.laid k (by omega) hn) (I1.hok.laid k (by omega) ⟨hlen, out, e0, str_each he, hg'⟩) I1.bare (fun _ z => nomatch z)
  exact ⟨.ref (s1.heap.objs.size + 1), _, J, rfl, q1 _ hn⟩
def txW : W → Option Str
  | .str s => some s
  | _ => none
theorem txs_okW : ∀ {ws : List W} {ns : List Str} {vs : List V}, ws.mapM txW = some ns → RelWs M H ι ws vs → vs = ns.map V.str
  | [], ns, vs, h, r => by
    simp at h
    subst h
    exact r
  | w :: ws, ns, vs, h, r => by
    obtain ⟨v, rs, rfl, r1, r2⟩ := r
    rw [List.mapM_cons] at h
    cases e1 : txW w with
    | none => simp [e1] at h
    | some d =>
      cases e2 : ws.mapM txW with
      | none => simp [e1, e2] at h
      | some es =>
        simp [e1, e2] at h
        subst h
        cases w <;> simp [txW] at e1
        subst e1
        rw [txs_okW e2 r2, show v = _ from r1]
        rfl
theorem RelWs.txs : ∀ ns : List Str, RelWs M H ι (ns.map W.str) (ns.map V.str)
  | [] => rfl
  | n :: ns => ⟨.str n, ns.map V.str, rfl, rfl, RelWs.txs ns⟩
def wSortS (x : W) (E : Hh) : Option (W × Hh) := match lstOf E x with
  | some (_, ws) => match ws.mapM txW with
    | some ns => if ns.length ≤ 1000 then some (.ref E.length, E ++ [.lst ((sortS ns).map W.str)]) else none
    | none => none
  | none => none
def sortSA (ca : Act W) : Act W := fun σ E => andThen (ca σ E) fun x E1 => lift (wSortS x E1)
theorem pe_sortSG {Γ : Gm} {a : Expr} {ca : Act W} {p pos : Pos} (i : At M Γ W' X) (hg : Gl X "sorted") (hm : X.mg "sorted" = none) (hp : plainArg a = true) (ha : PE X a (SE M W' ca)) : PE X (.Call (.Name "sorted" p) [a] [] pos) (SE M W' (sortSA ca)) :=
  PE.imp (pe_sortS (by have := i.units; omega) hg hm hp ha) fun σ H Q ⟨ι, E, σE, R, rs, k⟩ => ⟨ι, E, σE, R, rs, (Rs.bind k).imp fun x E1 h1 => fun ι1 H1 v x1 R1 rx => by
    obtain ⟨w, E', e, g⟩ := h1.lift
    unfold wSortS at e
    split at e
    · rename_i n ws e1
      split at e
      · rename_i xs e2
        split at e
        · rename_i few
          obtain ⟨rfl, rfl⟩ : (.ref E1.length : W) = w ∧ E1 ++ [.lst ((sortS xs).map W.str)] = E' := by simpa using e
          obtain ⟨b, us, _, _, _, rfl, hb, rw'⟩ := lst_ok R1 e1 rx
          rw [txs_okW e2 rw'] at hb
          exact ⟨b, xs, rfl, by rw [i.K]; exact SqL.of hb, few, fun p hp => Fin.lst (M := M) (fun ι' H' v x' R' rv' => g ι' H' v (x1.trans x') R' rv') R1 (RelWs.txs _) p hp⟩
        · cases e
      · cases e
    · cases e⟩
end G

set_option Elab.async false
set_option linter.all false
set_option maxRecDepth 100000
set_option maxHeartbeats 4000000
namespace G
open PySem L2 PySem.Spec PyProof.Rows
theorem put_nodup {acc : List Str} {x : Str} (h : acc.Nodup) : (put1 acc x).Nodup := by
  unfold put1
  split
  · exact h
  · rename_i c
    have c' : x ∉ acc := by simpa using c
    exact List.nodup_append.mpr ⟨h, by simp, fun a ha b hb e => c' (by rw [← List.mem_singleton.mp hb, ← e]; exact ha)⟩
theorem dis_nd : ∀ {xs acc : List Str}, acc.Nodup → (xs.foldl put1 acc).Nodup
  | [], _, h => h
  | x :: r, _, h => dis_nd (xs := r) (put_nodup (x := x) h)
theorem perm_of {β : Type} [DecidableEq β] : ∀ {l2 l1 : List β}, l2.Nodup → (∀ k ∈ l2, k ∈ l1) → l1.length ≤ l2.length → l1.Perm l2
  | [], l1, _, _, h => by
    have : l1 = [] := List.eq_nil_of_length_eq_zero (by simpa using h)
    rw [this]
  | x :: r, l1, nd, sub, h => by
    obtain ⟨nx, nr⟩ := List.nodup_cons.mp nd
    have hx := sub x List.mem_cons_self
    have p := List.perm_cons_erase hx
    refine p.trans (List.Perm.cons x (perm_of nr (fun k hk => ?_) ?_))
    · have ne : k ≠ x := fun e => nx (e ▸ hk)
      exact (List.mem_erase_of_ne ne).mpr (sub k (List.mem_cons_of_mem _ hk))
    · rw [List.length_erase_of_mem hx]
      simp at h
      omega
def leS (a b : Str) : Bool := PySem.W.dataLe false PyData.str a b
theorem leS_eq : leS = fun a b => decide (a.cps.toList ≤ b.cps.toList) := by
  have := PySem.W.dataLe_str (fun b : Str => b)
  funext a b
  exact congrFun (congrFun this a) b
theorem leS_anti {a b : Str} (h1 : leS a b = true) (h2 : leS b a = true) : a = b := by
  rw [leS_eq] at h1 h2
  have e : a.cps.toList = b.cps.toList := List.le_antisymm (of_decide_eq_true h1) (of_decide_eq_true h2)
  cases a
  cases b
  congr 1
  exact Array.toList_inj.mp e
theorem leS_trans (a b c : Str) (h1 : leS a b = true) (h2 : leS b c = true) : leS a c = true := by
  rw [leS_eq] at h1 h2 ⊢
  exact decide_eq_true (List.le_trans (of_decide_eq_true h1) (of_decide_eq_true h2))
theorem leS_total (a b : Str) : (leS a b || leS b a) = true := by
  rw [leS_eq]
  dsimp only
  rcases List.le_total a.cps.toList b.cps.toList with h | h <;> simp [h]
theorem sorted_one : ∀ {l1 l2 : List Str}, l1.Pairwise (fun a b => leS a b = true) → l2.Pairwise (fun a b => leS a b = true) → l1.Perm l2 → l1 = l2
  | [], l2, _, _, p => (List.nil_perm.mp p).symm
  | a :: r, [], _, _, p => absurd p.length_eq (by simp)
  | a :: r, b :: t, h1, h2, p => by
    obtain ⟨a1, a2⟩ := List.pairwise_cons.mp h1
    obtain ⟨b1, b2⟩ := List.pairwise_cons.mp h2
    have e : a = b := by
      rcases List.mem_cons.mp (p.mem_iff.mp (List.mem_cons_self (a := a) (l := r))) with z | z
      · exact z
      · rcases List.mem_cons.mp (p.mem_iff.mpr (List.mem_cons_self (a := b) (l := t))) with y | y
        · exact y.symm
        · exact leS_anti (a1 b y) (b1 a z)
    subst e
    rw [sorted_one a2 b2 (List.Perm.cons_inv p)]
/-- the sorted texts, each once -/
def insL (x : Str) : List Str → List Str
  | [] => [x]
  | y :: r => if leS x y = true then x :: y :: r else y :: insL x r
def isL : List Str → List Str
  | [] => []
  | x :: r => insL x (isL r)
def sortD (xs : List Str) : List Str := isL (dis xs)
theorem insL_perm {x : Str} : ∀ l : List Str, (insL x l).Perm (x :: l)
  | [] => List.Perm.refl _
  | y :: r => by
    unfold insL
    split
    · exact List.Perm.refl _
    · exact ((insL_perm r).cons y).trans (List.Perm.swap _ _ _)
theorem isL_perm : ∀ l : List Str, (isL l).Perm l
  | [] => List.Perm.refl _
  | x :: r => (insL_perm _).trans ((isL_perm r).cons x)
theorem insL_sorted {x : Str} : ∀ {l : List Str}, l.Pairwise (fun a b => leS a b = true) → (insL x l).Pairwise (fun a b => leS a b = true)
  | [], _ => List.pairwise_singleton _ _
  | y :: r, h => by
    obtain ⟨h1, h2⟩ := List.pairwise_cons.mp h
    unfold insL
    split
    · rename_i c
      refine List.pairwise_cons.mpr ⟨fun z hz => ?_, h⟩
      rcases List.mem_cons.mp hz with e | e
      · rw [e]
        exact c
      · exact leS_trans _ _ _ c (h1 z e)
    · rename_i c
      refine List.pairwise_cons.mpr ⟨fun z hz => ?_, insL_sorted h2⟩
      rcases List.mem_cons.mp ((insL_perm r).mem_iff.mp hz) with e | e
      · rw [e]
        have t := leS_total x y
        rw [Bool.or_eq_true] at t
        exact t.resolve_left c
      · exact h1 z e
theorem isL_sorted : ∀ l : List Str, (isL l).Pairwise (fun a b => leS a b = true)
  | [] => List.Pairwise.nil
  | x :: r => insL_sorted (isL_sorted r)
theorem isL_ms (l : List Str) : isL l = l.mergeSort leS := sorted_one (isL_sorted l) (List.pairwise_mergeSort leS_trans leS_total l) ((isL_perm l).trans (List.mergeSort_perm l leS).symm)
theorem sortD_ms (xs : List Str) : sortD xs = (dis xs).mergeSort leS := isL_ms _
theorem sort_perm {bs xs : List Str} (p : bs.Perm (dis xs)) : bs.mergeSort leS = sortD xs := by
  rw [sortD_ms]
  exact sorted_one (List.pairwise_mergeSort leS_trans leS_total bs) (List.pairwise_mergeSort leS_trans leS_total (dis xs)) (((List.mergeSort_perm bs leS).trans p).trans (List.mergeSort_perm (dis xs) leS).symm)
def txV : Value → Str
  | .str k _ => k
  | _ => Str.empty
section
variable {P : Program} {w : World} {A : Around} {E : Value → Shared → Prop} {s : Shared} {a : Addr}
theorem each_tx : ∀ {vs : List Value}, (∀ v ∈ vs, ∃ k t, v = Value.str k t) → PySem.W.EachIs (fun v b => RelV (V.str b) v) vs (vs.map txV)
  | [], _ => .nil
  | v :: r, h => by
    obtain ⟨k, t, rfl⟩ := h v List.mem_cons_self
    exact .cons ⟨t, rfl⟩ (each_tx fun u hu => h u (List.mem_cons_of_mem _ hu))
theorem read_tx {h : Heap} : ∀ {vs : List Value}, (∀ v ∈ vs, ∃ k t, v = Value.str k t) → PySem.W.EachIs (fun v b => ∃ as, Reads h v (.str b) as) vs (vs.map txV)
  | [], _ => .nil
  | v :: r, hv => by
    obtain ⟨k, t, rfl⟩ := hv v List.mem_cons_self
    exact .cons ⟨_, .str _ _⟩ (read_tx fun u hu => hv u (List.mem_cons_of_mem _ hu))
theorem sorted_setX {xs : List Str} {Q : Value → Shared → Prop} (R : SetL P w s.heap a xs) (hh : A.handled = none) (hu : A.units + 10 < cLine) (hl : xs.length ≤ 1000)
    (hQ : ∀ s' (p : Addr) (out : List Value) (c : Nat), (∀ b o, s.heap.get? b = some o → s'.heap.get? b = some o) → s'.gens = s.gens → s'.os = s.os → s.heap.objs.size ≤ p → s'.heap.get? p = some (seqObj "list" out.toArray c) → PySem.W.EachIs (fun v b => RelV (V.str b) v) out (sortD xs) → Q (.ref p) s') :
    wpAny (model P w) A (call (.builtin "sorted") [.ref a]) Q E s := by
  obtain ⟨o, es, ep, t, ho, hx, hd, hn, T⟩ := R
  refine Calls.call_function_entry kind_sorted plain_sorted entry_sorted (args_sorted1 _) ?_
  unfold Builtin.«sorted»
  refine wpAny_bind (m := checkCount "sorted" 1 1 _) (wpAny_pure ?_)
  refine wpAny_bind (collect_set (A := A.in1) hh ⟨o, ho, hx.1, hd⟩ T.fit T.few T.up T.led fun s1 vs k1 hz g1 o1 pm => ?_)
  have vl : vs.length = (dis xs).length := by
    have := pm.length_eq
    simp at this
    omega
  have dl := dis_len xs
  have tx : ∀ v ∈ vs, ∃ k t, v = Value.str k t := fun v hv => by
    obtain ⟨e, he, q⟩ := List.mem_map.mp (pm.mem_iff.mp hv)
    obtain ⟨⟨k, hk, _⟩, _⟩ := T.el e he
    have hk' : Value.isStrOf k e.2 = true := hk
    rw [q] at hk'
    cases v <;> simp [Value.isStrOf] at hk'
    exact ⟨_, _, rfl⟩
  have pb : (vs.map txV).Perm (dis xs) := by
    refine perm_of (dis_nd (xs := xs) List.nodup_nil) (fun k hk => ?_) (by rw [List.length_map, vl]; exact Nat.le_refl _)
    obtain ⟨e, he, hk'⟩ := (T.mem k).mp (by simpa using hk)
    have mv : e.2 ∈ vs := pm.mem_iff.mpr (List.mem_map.mpr ⟨e, he, rfl⟩)
    obtain ⟨k2, t2, q⟩ := tx _ mv
    have hk2 : Value.isStrOf k e.2 = true := hk'
    rw [q] at hk2
    have : k2 = k := by simpa [Value.isStrOf] using hk2
    refine List.mem_map.mpr ⟨e.2, mv, ?_⟩
    rw [q, ← this]
    rfl
  have vs1 : vs.length ≤ sizeLine := by rw [vl, sizeLine_eq]; omega
  refine wpAny_bind (wpAny_newList ?_ vs1)
  have hoL : (s1.heap.push (seqObj "list" vs.toArray 0)).get? s1.heap.objs.size = some (seqObj "list" vs.toArray 0) := Heap.get?_push_size _ rfl
  have er := read_tx (h := PySem.W.sortingHeap (s1.heap.push (seqObj "list" vs.toArray 0)) s1.heap.objs.size vs) tx
  have al : PySem.W.AllAlike ((vs.map txV).map PyData.str) := PySem.W.AllAlike.of fun b b' => by simp [PySem.W.alike]
  have so := PySem.W.SortsAt.data (prog := P) (w := w) (A := A.in1.in1) (s := { s1 with heap := PySem.W.sortingHeap (s1.heap.push (seqObj "list" vs.toArray 0)) s1.heap.objs.size vs }) (PySem.W.each_map (R := fun v d => ∃ as, Reads (PySem.W.sortingHeap (s1.heap.push (seqObj "list" vs.toArray 0)) s1.heap.objs.size vs) v d as) PyData.str er) al (PySem.W.Sortable.others fun b => ⟨by simp, by simp⟩) (fun d hd => by
    obtain ⟨b, _, rfl⟩ := List.mem_map.mp hd
    simp [PyData.depth]
    omega)
  have sd := PySem.W.sortVals_data false (each_tx tx) er al
  have sl := PySem.W.sortVals_length (κ := PySem.W.dataKind (PySem.W.sortingHeap (s1.heap.push (seqObj "list" vs.toArray 0)) s1.heap.objs.size vs) ((vs.map txV).map PyData.str)) false (rfl : vs.length = vs.length)
  refine wpAny_bind (wpAny_holding (wpAny_call_entry slot_list_sort ⟨_, hoL, rfl⟩ entry_list_sort (PySem.W.list_sort_vals (s := { s1 with heap := s1.heap.push (seqObj "list" vs.toArray 0) }) hoL so vs1 ⟨_, rfl, ?_⟩) (args_list_sort _)))
  obtain ⟨c, hc⟩ := sortedHeap_at (vs := vs) (out := (PySem.W.sortVals (PySem.W.dataKind (PySem.W.sortingHeap (s1.heap.push (seqObj "list" vs.toArray 0)) s1.heap.objs.size vs) ((vs.map txV).map PyData.str)) false vs vs).toArray) hoL
  refine wpAny_pure ⟨_, rfl, hQ _ s1.heap.objs.size _ c (fun b u e => ?_) g1 o1 hz hc ?_⟩
  · have q := k1 b u e
    have lt := Heap.lt_size q
    show (sortedHeap (s1.heap.push (seqObj "list" vs.toArray 0)) s1.heap.objs.size vs _).get? b = some u
    rw [sortedHeap_old (Nat.ne_of_lt lt) (by rw [size_push']; exact Nat.lt_succ_of_lt lt)]
    exact Heap.get?_push_of_some _ q
  · have e : (vs.map txV).mergeSort (PySem.W.dataLe false PyData.str) = sortD xs := sort_perm pb
    rw [← e]
    exact sd
end
end G

set_option Elab.async false
set_option linter.all false
set_option maxRecDepth 100000
set_option maxHeartbeats 4000000
namespace G
open PySem L2 PySem.Spec PyProof.Rows
variable {M : Md} {H H' H1 H2 : Hp} {ι ι' ι1 ι2 : List Addr} {X : Cx} {W' : WX}
/-! ### sorted(set(xs)), xs a list of ints or of texts; sorted(of such a set) -/
theorem texts_asF : ∀ {xs : List Str} {us : List Value}, Vals (xs.map V.str) us → ∀ (i : Nat) (v : Value), us[i]? = some v → ∃ (x : Str) (t : Tok), xs[i]? = some x ∧ v = Value.str x t
  | [], _, .nil, i, v, h => by simp at h
  | x :: r, _, .cons (b := u) ru rt, 0, v, h => by
    obtain ⟨t, e⟩ := ru
    have h : u = v := by simpa using h
    exact ⟨x, t, rfl, by rw [← h]; exact e⟩
  | x :: r, _, .cons ru rt, i + 1, v, h => by
    simpa using texts_asF rt i v (by simpa using h)
/-- the list at p after sorted of a set of texts -/
theorem sorted_inv {pins : List (Addr × Obj)} {σ : L2.St} {s : Shared} {a : Addr} {xs : List Str} {Q : Value → Shared → Prop} {E : Value → Shared → Prop} (hc : X.calm = true) (hu : X.A.units + 10 < cLine) (I : Inv X pins σ H s) (R : SetL X.prog X.w s.heap a xs) (hl : xs.length ≤ 1000)
    (k : ∀ s' p, H p = none → Inv X pins σ (upd H p (.lst ((sortD xs).map V.str))) s' → Q (.ref p) s') : wpAny (model X.prog X.w) X.A (call (.builtin "sorted") [.ref a]) Q E s := by
  refine sorted_setX R (I.ok.hd hc) hu hl fun s' p out c kp hg ho hp hz he => ?_
  have hn : H p = none := I.hok.fresh hp
  have hlen : ((sortD xs).map V.str).length ≤ sizeLine := by
    rw [List.length_map]
    rw [sortD_ms, List.length_mergeSort, sizeLine_eq]
    have := dis_len xs
    omega
  have J : Inv X pins σ (upd H p (.lst ((sortD xs).map V.str))) s' := I.call' (ch := []) ho (Un.laid kp hp hn) (I.hok.laid kp hp ⟨hlen, out, c, str_each he, hz⟩) (by rw [hg]; exact I.bare) (fun _ z => nomatch z)
  exact k s' p hn J
def tSB (K : PySem.W.Frag) (ta : TE) : TE := fun σ H Q => ta σ H fun x H1 =>
  (∃ (l : Addr) (xs : List Int), x = .ref l ∧ SqL K H1 l (xs.map V.int) ∧ xs.length ≤ 60 ∧ ∀ p, H1 p = none → Q (.ref p) (upd H1 p (.lst ((sortI xs).map V.int)))) ∨
  (∃ (l : Addr) (xs : List Str), x = .ref l ∧ SqL K H1 l (xs.map V.str) ∧ xs.length ≤ 1000 ∧ ∀ p, H1 p = none → Q (.ref p) (upd H1 p (.lst ((sortD xs).map V.str))))
theorem pe_sb {a : Expr} {ta : TE} {p p2 q pos : Pos} (hc : X.calm = true) (hu : X.A.units + 10 < cLine) (hg : Gl X "sorted") (hm : X.mg "sorted" = none) (hg2 : Gl X "set") (hm2 : X.mg "set" = none) (hp : plainArg a = true) (ha : PE X a ta) : PE X (.Call (.Name "sorted" p) [.Call (.Name "set" p2) [a] [] q] [] pos) (tSB X.K ta) := by
  refine ⟨fun pins s σ H Q I h => Call_ (ld_blt I hg hm PyProof.Rows.boot_sorted (callWith_builtin1 (args_cons (Call_ (ld_blt I hg2 hm2 boot_set (callWith_type1 (args_cons (thn (ha.run pins s σ H _ I h) fun v s1 hh => args_nil ?_) (starEach_cons hp)) (starEach_cons hp) rfl))) rfl) rfl rfl))⟩
  obtain ⟨x, H1, I1, r1, ⟨l, xs, ex, hq, few, q1⟩ | ⟨l, xs, ex, hq, few, q1⟩⟩ := hh
  · subst ex
    obtain rfl : v = Value.ref l := r1
    obtain ⟨its, rv, pl, hz⟩ := I1.list hq
    have sz : its.toArray.size = xs.length := by rw [List.size_toArray, ← rv.length, List.length_map]
    refine set_ints (I1.ok.hd hc) pl.isList sz (by unfold scanBound; omega) (fun i v hv => ints_asF rv i v (by simpa using hv)) fun h' tk c hS hc' hk => args_nil ?_
    have I2 : Inv X pins σ H1 { s1 with heap := h', toks := tk } := I1.kept (t' := tk) hk
    refine sorted_set hS (I2.ok.hd hc) (by omega) fun s' p out n ns k g o hp' hg' hi hs hm' hl => ?_
    have en : ns = sortI xs := asc_one hs sortI_lt fun j => by rw [hm' j, sortI_mem]; simp
    subst en
    have hlen : ((sortI xs).map V.int).length ≤ sizeLine := by rw [List.length_map, hl, sizeLine_eq]; omega
    have hn : H1 p = none := I2.hok.fresh hp'
    have J : Inv X pins σ (upd H1 p (.lst ((sortI xs).map V.int))) { ({ s1 with heap := h', toks := tk } : Shared) with heap := s'.heap, gens := s'.gens, drawn := s'.drawn, toks := s'.toks } :=
      I2.call (ch := []) (Un.laid k hp' hn) (I2.hok.laid k hp' ⟨hlen, out.toList, n, vals_of_ints hi, hg'⟩) (by rw [g]; exact I2.bare) (fun _ z => nomatch z)
    have e : s' = { s1 with heap := s'.heap, gens := s'.gens, drawn := s'.drawn, toks := s'.toks } := by
      cases s'
      cases s1
      cases o
      rfl
    rw [e]
    exact ⟨.ref p, _, J, rfl, q1 p hn⟩
  · subst ex
    obtain rfl : v = Value.ref l := r1
    obtain ⟨its, rv, pl, hz⟩ := I1.list hq
    have sz : xs.length = its.toArray.size := by rw [List.size_toArray, ← rv.length, List.length_map]
    refine set_textsX (I1.ok.hd hc) pl.isList sz (by rw [← sz]; unfold scanBound; omega) (fun i v hv => texts_asF rv i v (by simpa using hv)) fun h' tk hS hk => args_nil ?_
    have I2 : Inv X pins σ H1 { s1 with heap := h', toks := tk } := I1.kept (t' := tk) hk
    exact sorted_inv hc hu I2 hS few fun s' p hn J => ⟨.ref p, _, J, rfl, q1 p hn⟩
def sortSetB (x : W) (E : Hh) : Option (W × Hh) := match lstOf E x with
  | some (_, ws) => match ws.mapM intW with
    | some ns => if ns.length ≤ 60 then some (.ref E.length, E ++ [.lst ((sortI ns).map W.int)]) else none
    | none => match ws.mapM txW with
      | some ns => if ns.length ≤ 1000 then some (.ref E.length, E ++ [.lst ((sortD ns).map W.str)]) else none
      | none => none
  | none => none
def sortSetBA (ca : Act W) : Act W := fun σ E => andThen (ca σ E) fun x E1 => lift (sortSetB x E1)
theorem pe_sortSetBG {Γ : Gm} {a : Expr} {ca : Act W} {p p2 q pos : Pos} (i : At M Γ W' X) (hg : Gl X "sorted") (hm : X.mg "sorted" = none) (hg2 : Gl X "set") (hm2 : X.mg "set" = none) (hp : plainArg a = true) (ha : PE X a (SE M W' ca)) : PE X (.Call (.Name "sorted" p) [.Call (.Name "set" p2) [a] [] q] [] pos) (SE M W' (sortSetBA ca)) :=
  PE.imp (pe_sb i.calm (by have := i.units; omega) hg hm hg2 hm2 hp ha) fun σ H Q ⟨ι, E, σE, R, rs, k⟩ => ⟨ι, E, σE, R, rs, (Rs.bind k).imp fun x E1 h1 => fun ι1 H1 v x1 R1 rx => by
    obtain ⟨w, E', e, g⟩ := h1.lift
    unfold sortSetB at e
    split at e
    · rename_i n ws e1
      obtain ⟨b, us, _, _, _, rfl, hb, rw'⟩ := lst_ok R1 e1 rx
      split at e
      · rename_i xs e2
        split at e
        · rename_i few
          obtain ⟨rfl, rfl⟩ : (.ref E1.length : W) = w ∧ E1 ++ [.lst ((sortI xs).map W.int)] = E' := by simpa using e
          rw [ints_okW e2 rw'] at hb
          exact .inl ⟨b, xs, rfl, by rw [i.K]; exact SqL.of hb, few, fun p hp => Fin.lst (M := M) (fun ι' H' v x' R' rv' => g ι' H' v (x1.trans x') R' rv') R1 (RelWs.ints _) p hp⟩
        · cases e
      · split at e
        · rename_i xs e2
          split at e
          · rename_i few
            obtain ⟨rfl, rfl⟩ : (.ref E1.length : W) = w ∧ E1 ++ [.lst ((sortD xs).map W.str)] = E' := by simpa using e
            rw [txs_okW e2 rw'] at hb
            exact .inr ⟨b, xs, rfl, by rw [i.K]; exact SqL.of hb, few, fun p hp => Fin.lst (M := M) (fun ι' H' v x' R' rv' => g ι' H' v (x1.trans x') R' rv') R1 (RelWs.txs _) p hp⟩
          · cases e
        · cases e
    · cases e⟩
/-! ### sorted(x), x a list or a set of texts -/
def tSortB (P : Program) (w : World) (K : PySem.W.Frag) (ta : TE) : TE := fun σ H Q => ta σ H fun x H1 => ∃ (l : Addr) (xs : List Str), x = .ref l ∧ xs.length ≤ 1000 ∧
  ((SqL K H1 l (xs.map V.str) ∧ ∀ p, H1 p = none → Q (.ref p) (upd H1 p (.lst ((sortS xs).map V.str)))) ∨ (H1 l = some (SetLO P w l xs) ∧ ∀ p, H1 p = none → Q (.ref p) (upd H1 p (.lst ((sortD xs).map V.str)))))
theorem pe_sortB {a : Expr} {ta : TE} {p pos : Pos} (hc : X.calm = true) (hu : X.A.units + 10 < cLine) (hg : Gl X "sorted") (hm : X.mg "sorted" = none) (hp : plainArg a = true) (ha : PE X a ta) : PE X (.Call (.Name "sorted" p) [a] [] pos) (tSortB X.prog X.w X.K ta) := by
  refine ⟨fun pins s σ H Q I h => Call_ (ld_blt I hg hm PyProof.Rows.boot_sorted (callWith_builtin1 (args_cons (thn (ha.run pins s σ H _ I h) fun v s1 hh => args_nil ?_) (starEach_cons hp)) (starEach_cons hp) rfl))⟩
  obtain ⟨x, H1, I1, r1, l, xs, ex, few, ⟨hq, q1⟩ | ⟨hq, q1⟩⟩ := hh
  · subst ex
    obtain rfl : v = Value.ref l := r1
    obtain ⟨its, rv, pl, hz⟩ := I1.list hq
    have hlen0 : xs.length ≤ sizeLine := by rw [sizeLine_eq]; omega
    refine PySem.W.sorted_data (β := Str) (enc := PyData.str) (R := fun v b => RelV (V.str b) v) pl.isList (each_str rv) (str_reads rv) (PySem.W.AllAlike.of fun b b' => by simp [PySem.W.alike]) (PySem.W.Sortable.others fun b => ⟨by simp, by simp⟩) hlen0 (fun b hb => by simp [PyData.depth]; omega) fun out hl he => ?_
    have k : ∀ b o, s1.heap.get? b = some o → (sortedAll s1.heap its out.toArray).get? b = some o := fun b o e => sortedAll_old e
    obtain ⟨e0, hg'⟩ := sortedAll_at s1.heap its out.toArray
    have hn : H1 (s1.heap.objs.size + 1) = none := I1.hok.fresh (by omega)
    have hlen : ((sortS xs).map V.str).length ≤ sizeLine := by rw [List.length_map]; unfold sortS; rw [List.length_mergeSort]; exact hlen0
    have J : Inv X pins σ (upd H1 (s1.heap.objs.size + 1) (.lst ((sortS xs).map V.str))) { s1 with heap := sortedAll s1.heap its out.toArray } :=
      I1.call (ch := []) (Un.laid k (by omega) hn) (I1.hok.laid k (by omega) ⟨hlen, out, e0, str_each he, hg'⟩) I1.bare (fun _ z => nomatch z)
    exact ⟨.ref (s1.heap.objs.size + 1), _, J, rfl, q1 _ hn⟩
  · subst ex
    obtain rfl : v = Value.ref l := r1
    exact sorted_inv hc hu I1 (I1.hok l _ hq).1 few fun s' p hn J => ⟨.ref p, _, J, rfl, q1 p hn⟩
def wSortB (x : W) (E : Hh) : Option (W × Hh) := match wSortS x E with
  | some r => some r
  | none => match x with
    | .ref n => match E[n]? with
      | some (.txs xs) => if xs.length ≤ 1000 then some (.ref E.length, E ++ [.lst ((sortD xs).map W.str)]) else none
      | _ => none
    | _ => none
def sortBA (ca : Act W) : Act W := fun σ E => andThen (ca σ E) fun x E1 => lift (wSortB x E1)
theorem pe_sortBG {Γ : Gm} {a : Expr} {ca : Act W} {p pos : Pos} (i : At M Γ W' X) (hg : Gl X "sorted") (hm : X.mg "sorted" = none) (hp : plainArg a = true) (ha : PE X a (SE M W' ca)) : PE X (.Call (.Name "sorted" p) [a] [] pos) (SE M W' (sortBA ca)) :=
  PE.imp (pe_sortB i.calm (by have := i.units; omega) hg hm hp ha) fun σ H Q ⟨ι, E, σE, R, rs, k⟩ => ⟨ι, E, σE, R, rs, (Rs.bind k).imp fun x E1 h1 => fun ι1 H1 v x1 R1 rx => by
    obtain ⟨w, E', e, g⟩ := h1.lift
    unfold wSortB at e
    split at e
    · rename_i r e0
      obtain rfl : r = (w, E') := Option.some.inj e
      unfold wSortS at e0
      split at e0
      · rename_i n ws e1
        split at e0
        · rename_i xs e2
          split at e0
          · rename_i few
            obtain ⟨rfl, rfl⟩ : (.ref E1.length : W) = w ∧ E1 ++ [.lst ((sortS xs).map W.str)] = E' := by simpa using e0
            obtain ⟨b, us, _, _, _, rfl, hb, rw'⟩ := lst_ok R1 e1 rx
            rw [txs_okW e2 rw'] at hb
            exact ⟨b, xs, rfl, few, .inl ⟨by rw [i.K]; exact SqL.of hb, fun p hp => Fin.lst (M := M) (fun ι' H' v x' R' rv' => g ι' H' v (x1.trans x') R' rv') R1 (RelWs.txs _) p hp⟩⟩
          · cases e0
        · cases e0
      · cases e0
    · cases x with
      | ref n =>
        dsimp only at e
        split at e
        · rename_i xs e2
          split at e
          · rename_i few
            obtain ⟨rfl, rfl⟩ : (.ref E1.length : W) = w ∧ E1 ++ [.lst ((sortD xs).map W.str)] = E' := by simpa using e
            obtain ⟨b, hb, ro⟩ := R1.obj n _ e2
            have ro : H1 b = some (SetLO M.P M.w b xs) := ro
            have ev : v = .ref b := by
              obtain ⟨b', hb', rfl⟩ := rx
              rw [hb] at hb'
              cases hb'
              rfl
            refine ⟨b, xs, ev, few, .inr ⟨by rw [i.P, i.w]; exact ro, fun p hp => Fin.lst (M := M) (fun ι' H' v x' R' rv' => g ι' H' v (x1.trans x') R' rv') R1 (RelWs.txs _) p hp⟩⟩
          · cases e
        · cases e
      | _ => cases e⟩
end G

set_option Elab.async false
set_option linter.all false
set_option maxRecDepth 100000
set_option maxHeartbeats 4000000
namespace G
open PySem L2 PySem.Spec PyProof.Rows
variable {M : Md} {H H' H1 H2 : Hp} {ι ι' ι1 ι2 : List Addr} {X : Cx} {W' : WX}

/-! ### which act an expression has -/
def noA {α : Type} : Act α := fun _ _ => none
def glB (Γ : Gm) (x : Str) : Bool := Γ.names.lookup x == some .globalImplicit
theorem glB_ok {Γ : Gm} {x : Str} (a : At M Γ W' X) (h : glB Γ x = true) : Gl X x := by
  unfold Gl Env.kindOf
  rw [a.names]
  simpa [glB] using h
theorem non_ok {P : Pg} {Γ : Gm} {x : Str} (i : In M P Γ W' X) (h : P.non x = true) : X.mg x = none := by
  rw [i.at'.mg]
  exact i.glob.non x h
def when {α : Type} (b : Bool) (c : Act α) : Act α := if b = true then c else noA
theorem pe_when {b : Bool} {e : Expr} {c : Act W} (h : b = true → PE X e (SE M W' c)) : PE X e (SE M W' (when b c)) := by
  unfold when
  split
  · exact h (by assumption)
  · exact pe_no fun _ _ => rfl
theorem pt_when {b : Bool} {e : Expr} {c : Act Bool} (h : b = true → PT X e (ST M W' c)) : PT X e (ST M W' (when b c)) := by
  unfold when
  split
  · exact h (by assumption)
  · exact pt_no fun _ _ => rfl
theorem pi_when {b : Bool} {tg e : Expr} {c : Act Src} (h : b = true → PI X tg e (SI M W' c)) : PI X tg e (SI M W' (when b c)) := by
  unfold when
  split
  · exact h (by assumption)
  · exact pi_no fun _ _ => rfl
def nameE (P : Pg) (Γ : Gm) (x : Str) : Act W := match tyOfN x with
  | some n => if (glB Γ x && P.non x) = true then fun _ E => some (.ok (.ty n) E) else wName P Γ x
  | none => wName P Γ x
theorem pe_nameE {P : Pg} {Γ : Gm} {x : Str} {pos : Pos} (i : In M P Γ W' X) : PE X (.Name x pos) (SE M W' (nameE P Γ x)) := by
  unfold nameE
  split
  · rename_i n hn
    split
    · rename_i h
      rw [Bool.and_eq_true] at h
      exact pe_tyG hn (glB_ok i.at' h.1) (non_ok i h.2)
    · exact pe_name i.at' i.glob
  · exact pe_name i.at' i.glob
/-- what is called by its name -/
def callN (P : Pg) (r : Rc) (Γ : Gm) (x : Str) (e : Expr) (es : List Expr) : Act W :=
  when (glB Γ x && (e :: es).all plainArg) (if P.has x = true then wCall P x (wArgs (r.ev Γ) (e :: es)) else match biOf x with
    | some f => when (P.non x) (wBiXA f (wArgs (r.ev Γ) (e :: es)))
    | none => if x = "max" then when (P.non x) (wMaxA (wArgs (r.ev Γ) (e :: es))) else
      if x = "dict" then when (P.non x && es.isEmpty) (dictA (r.ev Γ e)) else
      if x = "sorted" then when (P.non x && es.isEmpty) (sortBA (r.ev Γ e)) else noA)
theorem pe_callN {P : Pg} {r : Rc} {Γ : Gm} {x : Str} {e : Expr} {es : List Expr} {p pos : Pos} (ok : RcOk M P r) (i : In M P Γ W' X) : PE X (.Call (.Name x p) (e :: es) [] pos) (SE M W' (callN P r Γ x e es)) := by
  refine pe_when fun h => ?_
  rw [Bool.and_eq_true] at h
  have hg := glB_ok i.at' h.1
  have pa := pa_args (ok.ev i) (e :: es)
  split
  · exact pe_callG i.at'.tk i.has hg h.2 pa
  · split
    · rename_i f hf
      exact pe_when fun hn => pe_biXG i.at' hf hg (non_ok i hn) h.2 pa
    · split
      · rename_i hx
        subst hx
        exact pe_when fun hn => pe_maxG i.at' hg (non_ok i hn) h.2 pa
      · split
        · rename_i hx
          subst hx
          refine pe_when fun hn => ?_
          rw [Bool.and_eq_true] at hn
          cases es with
          | nil =>
            have hp := h.2
            rw [List.all_cons, Bool.and_eq_true] at hp
            exact pe_dictG i.at' hg (non_ok i hn.1) hp.1 (ok.ev i e)
          | cons a b => exact absurd hn.2 Bool.false_ne_true
        · split
          · rename_i hx
            subst hx
            refine pe_when fun hn => ?_
            rw [Bool.and_eq_true] at hn
            cases es with
            | nil =>
              have hp := h.2
              rw [List.all_cons, Bool.and_eq_true] at hp
              exact pe_sortBG i.at' hg (non_ok i hn.1) hp.1 (ok.ev i e)
            | cons a b => exact absurd hn.2 Bool.false_ne_true
          · exact pe_no fun _ _ => rfl
/-- f() -/
theorem pe_call0G {P : Pg} {Γ : Gm} {x : Str} {p pos : Pos} {ev : Expr → Act W} (i : In M P Γ W' X) (hg : Gl X x) : PE X (.Call (.Name x p) [] [] pos) (SE M W' (wCall P x (wArgs ev []))) := by
  by_cases hx : P.has x = true
  · obtain ⟨k, f, fd, ps, F, hr, hm, hk, hb, hd⟩ := i.has.fn x hx
    refine ⟨fun pins s σ H Q I ⟨ι, E, σE, R, rs, h⟩ => ?_⟩
    refine wpAny_Call_Name_kw (ld_glob I hg hm ?_ hd)
    refine PySem.W.callWith_K0 I.kIn hk (run_fnS (us := []) (vs := []) (E := WE W') F hr hb (L2N.passAt i.at'.tk σ) I .nil ⟨ι, E, [], R, rfl, ?_⟩)
    unfold wCall at h
    rw [if_pos hx] at h
    have h : Rs M W' ι σ H (P.call x [] E) _ := h
    rcases h with ⟨w, E', e, g⟩ | ⟨y, E', e, g⟩
    · exact .inl ⟨w, E', e, g⟩
    · exact .inr ⟨y, E', e, g⟩
  · exact pe_no fun σ E => by unfold wCall; rw [if_neg hx]
def callM (r : Rc) (Γ : Gm) (o : Expr) (name : Str) (es : List Expr) (line : Bool) : Act W := match mkOf name with
  | some k => when (plainBase o && es.all plainArg && decide (es.length < 29) && line) (methA k (r.ev Γ o) (wArgs (r.ev Γ) es))
  | none => noA
theorem pe_callM {P : Pg} {r : Rc} {Γ : Gm} {o : Expr} {name : Str} {es : List Expr} {apos cpos : Pos} (ok : RcOk M P r) (i : In M P Γ W' X) : PE X (.Call (.Attribute o name apos) es [] cpos) (SE M W' (callM r Γ o name es (apos.endLine == cpos.line))) := by
  unfold callM
  split
  · rename_i k hk
    refine pe_when fun h => ?_
    simp only [Bool.and_eq_true, decide_eq_true_eq] at h
    exact pe_methG i.at' hk h.1.1.1 h.1.1.2 h.1.2 h.2 (ok.ev i o) (pa_args (ok.ev i) es)
  · exact pe_no fun _ _ => rfl
/-- D.get(e) -/
def callD (P : Pg) (r : Rc) (Γ : Gm) (o : Expr) (name : Str) (es : List Expr) (line : Bool) : Act W := match o, es with
  | .Name x _, [e] => match P.dct x with
    | some kvs => if name = "get" then when (glB Γ x && plainArg e && line) (kgetA kvs (r.ev Γ e)) else noA
    | none => callM r Γ o name es line
  | _, _ => callM r Γ o name es line
theorem pe_callD {P : Pg} {r : Rc} {Γ : Gm} {o : Expr} {name : Str} {es : List Expr} {apos cpos : Pos} (ok : RcOk M P r) (i : In M P Γ W' X) : PE X (.Call (.Attribute o name apos) es [] cpos) (SE M W' (callD P r Γ o name es (apos.endLine == cpos.line))) := by
  unfold callD
  split
  · split
    · rename_i kvs hk
      split
      · rename_i hn
        subst hn
        refine pe_when fun h => ?_
        simp only [Bool.and_eq_true] at h
        obtain ⟨a, hm, hd, kd⟩ := i.glob.dct _ _ hk
        exact pe_kgetG i.at' (glB_ok i.at' h.1.1) hm hd kd h.1.2 h.2 (ok.ev i _)
      · exact pe_no fun _ _ => rfl
    · exact pe_callM ok i
  · exact pe_callM ok i
def callE (P : Pg) (r : Rc) (Γ : Gm) (cpos : Pos) : Expr → List Expr → List Keyword → Act W
  | .Name x _, [.Call (.Name y p2) [a] [] q], [] => if x = "len" ∧ y = "set" then when (glB Γ x && P.non x && glB Γ y && P.non y && plainArg a) (lenSetA (r.ev Γ a)) else
    if x = "list" ∧ y = "enumerate" then when (glB Γ x && P.non x && glB Γ y && P.non y && plainArg a) (enuLA (r.ev Γ a)) else
    if x = "sorted" ∧ y = "set" then when (glB Γ x && P.non x && glB Γ y && P.non y && plainArg a) (sortSetBA (r.ev Γ a)) else callN P r Γ x (.Call (.Name y p2) [a] [] q) []
  | .Name x _, [.Call (.Attribute o name apos) [] [] cpos'], [] => if x = "list" ∧ name = "values" then when (glB Γ x && P.non x && plainBase o && (apos.endLine == cpos'.line)) (valLA (r.ev Γ o)) else callN P r Γ x (.Call (.Attribute o name apos) [] [] cpos') []
  | .Name x _, e :: es, [] => callN P r Γ x e es
  | .Name x _, [], [] => when (glB Γ x) (wCall P x (wArgs (r.ev Γ) []))
  | .Attribute o name apos, es, [] => callD P r Γ o name es (apos.endLine == cpos.line)
  | _, _, _ => noA
theorem pe_callE {P : Pg} {r : Rc} {Γ : Gm} {f : Expr} {es : List Expr} {ks : List Keyword} {pos : Pos} (ok : RcOk M P r) (i : In M P Γ W' X) : PE X (.Call f es ks pos) (SE M W' (callE P r Γ pos f es ks)) := by
  unfold callE
  split
  · split
    · rename_i hx
      obtain ⟨rfl, rfl⟩ := hx
      refine pe_when fun h => ?_
      simp only [Bool.and_eq_true] at h
      exact pe_lenSetG i.at' (glB_ok i.at' h.1.1.1.1) (non_ok i h.1.1.1.2) (glB_ok i.at' h.1.1.2) (non_ok i h.1.2) h.2 (ok.ev i _)
    · split
      · rename_i hx
        obtain ⟨rfl, rfl⟩ := hx
        refine pe_when fun h => ?_
        simp only [Bool.and_eq_true] at h
        exact pe_enuL i.at'.K i.at'.calm (glB_ok i.at' h.1.1.1.1) (non_ok i h.1.1.1.2) (glB_ok i.at' h.1.1.2) (non_ok i h.1.2) h.2 (ok.ev i _)
      · split
        · rename_i hx
          obtain ⟨rfl, rfl⟩ := hx
          refine pe_when fun h => ?_
          simp only [Bool.and_eq_true] at h
          exact pe_sortSetBG i.at' (glB_ok i.at' h.1.1.1.1) (non_ok i h.1.1.1.2) (glB_ok i.at' h.1.1.2) (non_ok i h.1.2) h.2 (ok.ev i _)
        · exact pe_callN ok i
  · split
    · rename_i hx
      obtain ⟨rfl, rfl⟩ := hx
      refine pe_when fun h => ?_
      simp only [Bool.and_eq_true] at h
      exact pe_valL i.at' (glB_ok i.at' h.1.1.1) (non_ok i h.1.1.2) h.1.2 h.2 (ok.ev i _)
    · exact pe_callN ok i
  · exact pe_callN ok i
  · exact pe_when fun h => pe_call0G i (glB_ok i.at' h)
  · exact pe_callD ok i
  · exact pe_no fun _ _ => rfl
/-! ### [] -/
def isRev : Expr → Bool
  | .Slice none none (some (.UnaryOp .USub (.Constant (.int 1) _ _) _)) _ => true
  | _ => false
def subK (P : Pg) (r : Rc) (Γ : Gm) (a b : Expr) : Act W := match a with
  | .Name x p => match P.dct x with
    | some kvs => when (glB Γ x && plainIx b) (kixA kvs (r.ev Γ b))
    | none => when (plainIx b) (wIxNA (r.ev Γ (.Name x p)) (r.ev Γ b))
  | a => when (plainIx b) (wIxNA (r.ev Γ a) (r.ev Γ b))
def subE (P : Pg) (r : Rc) (Γ : Gm) (a : Expr) : Expr → Act W
  | .Slice none none (some (.UnaryOp .USub (.Constant (.int 1) _ _) _)) _ => wBack (r.ev Γ a)
  | .Slice lo hi none _ => wSl (r.ev Γ a) (wPart (r.ev Γ) lo) (wPart (r.ev Γ) hi)
  | b => subK P r Γ a b
theorem pe_subE {P : Pg} {r : Rc} {Γ : Gm} {a b : Expr} {pos : Pos} (ok : RcOk M P r) (i : In M P Γ W' X) : PE X (.Subscript a b pos) (SE M W' (subE P r Γ a b)) := by
  unfold subE
  split
  · exact pe_backG i.at'.K (ok.ev i a)
  · exact pe_slG i.at'.K (ok.ev i a) (po_part (ok.ev i) _) (po_part (ok.ev i) _)
  · unfold subK
    split
    · split
      · rename_i kvs hk
        refine pe_when fun h => ?_
        rw [Bool.and_eq_true] at h
        obtain ⟨d, hm, hd, kd⟩ := i.glob.dct _ _ hk
        exact pe_kixG i.at' (glB_ok i.at' h.1) hm hd kd h.2 (ok.ev i _)
      · exact pe_when fun h => pe_ixNG i.at' h (ok.ev i _) (ok.ev i _)
    · exact pe_when fun h => pe_ixNG i.at' h (ok.ev i _) (ok.ev i _)
/-! ### comprehensions, the dicts that they walk over locked -/
def lkName (Γ : Gm) : Expr → Option Nat
  | .Name x _ => ixOf x Γ.N
  | .Call (.Attribute (.Name x _) _ _) [] [] _ => ixOf x Γ.N
  | _ => none
def lkAt (o : Option Nat) : Sg → Hh → Option Nat := fun σ _ => o.bind fun i => match (σ : List (Option W))[i]? with
  | some (some (.ref n)) => some n
  | _ => none
def isDict : O → Bool
  | .dK _ => true
  | .dN _ => true
  | _ => false
/-- the dict to lock, if there is one -/
def lkIx (o : Option Nat) : Sg → Hh → Option Nat := fun σ E => (lkAt o σ E).bind fun n => match (E : List O)[n]? with
  | some ob => if isDict ob = true then some n else none
  | none => none
def lockD (o : Option Nat) (ca : Act W) : Act W := lockE (lkIx o) ca
def lockAllS (Γ : Gm) : List Comprehension → ActS → ActS
  | [], ca => ca
  | g :: gs, ca => lockS (lkIx (lkName Γ g.iter)) (lockAllS Γ gs ca)
theorem ps_lockAllS {Γ : Gm} {s : Stmt} {ca : ActS} (h : PS X s (SS M W' ca)) : ∀ gs, PS X s (SS M W' (lockAllS Γ gs ca))
  | [] => h
  | g :: gs => ps_lockG (ps_lockAllS h gs)
def lockAll (Γ : Gm) : List Comprehension → Act W → Act W
  | [], ca => ca
  | g :: gs, ca => lockD (lkName Γ g.iter) (lockAll Γ gs ca)
theorem pe_lockAll {Γ : Gm} {e : Expr} {ca : Act W} (h : PE X e (SE M W' ca)) : ∀ gs, PE X e (SE M W' (lockAll Γ gs ca))
  | [] => h
  | g :: gs => pe_lockG (pe_lockAll h gs)
/-! ### compares -/
def cmp1 (P : Pg) (r : Rc) (Γ : Gm) (a : Expr) : CmpOp → Expr → Act W
  | .In, .Name x p => match P.dct x with
    | some kvs => when (glB Γ x) (kinA kvs (r.ev Γ a))
    | none => when (!behindInMarks .In (.Name x p)) (wCmpNA .In (r.ev Γ a) (r.ev Γ (.Name x p)))
  | op, b => when (!behindInMarks op b) (wCmpNA op (r.ev Γ a) (r.ev Γ b))
def cmpE (P : Pg) (r : Rc) (Γ : Gm) (a : Expr) : List CmpOp → List Expr → Act W
  | [op], [b] => cmp1 P r Γ a op b
  | [op, op'], [b, c] => when (!behindInMarks op' c) (wChain op op' (r.ev Γ a) (r.ev Γ b) (r.ev Γ c))
  | _, _ => noA
theorem not_eq {b : Bool} (h : (!b) = true) : b = false := by simpa using h
theorem pe_cmpE {P : Pg} {r : Rc} {Γ : Gm} {a : Expr} {ops : List CmpOp} {es : List Expr} {pos : Pos} (ok : RcOk M P r) (i : In M P Γ W' X) : PE X (.Compare a ops es pos) (SE M W' (cmpE P r Γ a ops es)) := by
  unfold cmpE
  split
  · unfold cmp1
    split
    · split
      · rename_i kvs hk
        refine pe_when fun h => ?_
        obtain ⟨d, hm, hd, kd⟩ := i.glob.dct _ _ hk
        exact pe_kinG i.at' (glB_ok i.at' h) hm hd kd (ok.ev i _)
      · exact pe_when fun h => pe_cmpNG i.at' (not_eq h) (ok.ev i _) (ok.ev i _)
    · exact pe_when fun h => pe_cmpNG i.at' (not_eq h) (ok.ev i _) (ok.ev i _)
  · exact pe_when fun h => pe_chainG i.at'.K i.at'.units (not_eq h) (ok.ev i _) (ok.ev i _) (ok.ev i _)
  · exact pe_no fun _ _ => rfl
def cmpT1 (P : Pg) (r : Rc) (Γ : Gm) (a : Expr) : CmpOp → Expr → Act Bool
  | .In, .Name x p => match P.dct x with
    | some kvs => when (glB Γ x) (toT (kinA kvs (r.ev Γ a)))
    | none => when (!behindInMarks .In (.Name x p)) (toT (wCmpNA .In (r.ev Γ a) (r.ev Γ (.Name x p))))
  | op, b => when (!behindInMarks op b) (toT (wCmpNA op (r.ev Γ a) (r.ev Γ b)))
def cmpT (P : Pg) (r : Rc) (Γ : Gm) (a : Expr) : List CmpOp → List Expr → Act Bool
  | [op], [b] => cmpT1 P r Γ a op b
  | [op, op'], [b, c] => when (!behindInMarks op' c) (toT (wChain op op' (r.ev Γ a) (r.ev Γ b) (r.ev Γ c)))
  | _, _ => noA
theorem pt_cmpT {P : Pg} {r : Rc} {Γ : Gm} {a : Expr} {ops : List CmpOp} {es : List Expr} {pos : Pos} (ok : RcOk M P r) (i : In M P Γ W' X) : PT X (.Compare a ops es pos) (ST M W' (cmpT P r Γ a ops es)) := by
  unfold cmpT
  split
  · unfold cmpT1
    split
    · split
      · rename_i kvs hk
        refine pt_when fun h => ?_
        obtain ⟨d, hm, hd, kd⟩ := i.glob.dct _ _ hk
        exact pt_kinG i.at' (glB_ok i.at' h) hm hd kd (ok.ev i _)
      · exact pt_when fun h => pt_cmpNG i.at' (not_eq h) (ok.ev i _) (ok.ev i _)
    · exact pt_when fun h => pt_cmpNG i.at' (not_eq h) (ok.ev i _) (ok.ev i _)
  · exact pt_when fun h => pt_chainG i.at'.K i.at'.units (not_eq h) (ok.ev i _) (ok.ev i _) (ok.ev i _)
  · exact pt_no fun _ _ => rfl
/-! ### one step of expressions -/
def stepE0 (P : Pg) (r : Rc) (Γ : Gm) : Expr → Act W
  | .Constant c _ _ => wConst c
  | .Name x _ => nameE P Γ x
  | .Tuple es _ _ => wTup (wArgsS (r.ev Γ) es)
  | .List es _ => wLst (wArgsS (r.ev Γ) es)
  | .Dict [] [] _ => fun _ E => some (.ok (.ref E.length) (E ++ [.dK []]))
  | .Dict [none, none] [a, b] _ => ddA (r.ev Γ a) (r.ev Γ b)
  | .BinOp a op b _ => wBinA op (r.ev Γ a) (r.ev Γ b)
  | .UnaryOp op a _ => wUn op (r.ev Γ a)
  | .BoolOp op es _ => allE op (r.ev Γ) es
  | .Compare a ops es _ => cmpE P r Γ a ops es
  | .IfExp c a b _ => wIf (r.te Γ c) (r.ev Γ a) (r.ev Γ b)
  | .Subscript a b _ => subE P r Γ a b
  | .Call f es ks pos => callE P r Γ pos f es ks
  | .ListComp elt gens scope _ => lockAll Γ gens (ckE r Γ (.l elt) gens scope)
  | .DictComp k v gens scope _ => lockAll Γ gens (ckE r Γ (.d k v) gens scope)
  | .SetComp elt gens scope _ => lockAll Γ gens (ckE r Γ (.s elt) gens scope)
  | _ => noA
theorem stepE0_ok {P : Pg} {r : Rc} {Γ : Gm} (ok : RcOk M P r) (i : In M P Γ W' X) : ∀ e, PE X e (SE M W' (stepE0 P r Γ e)) := fun e => by
  unfold stepE0
  split
  · exact pe_const
  · exact pe_nameE i
  · exact pe_tupG (pa_argsS i.at'.K (ok.ev i) _)
  · exact pe_lstG (pa_argsS i.at'.K (ok.ev i) _)
  · exact pe_dnewG
  · exact pe_ddG (ok.ev i _) (ok.ev i _)
  · exact pe_binG i.at'.K (ok.ev i _) (ok.ev i _)
  · exact pe_unG i.at'.K (ok.ev i _)
  · exact pe_all i.at'.K (ok.ev i) _
  · exact pe_cmpE ok i
  · exact pe_ifG (ok.te i _) (ok.ev i _) (ok.ev i _)
  · exact pe_subE ok i
  · exact pe_callE ok i
  · exact pe_lockAll (pe_ckG (c := .l _) ok i) _
  · exact pe_lockAll (pe_ckG (c := .d _ _) ok i) _
  · exact pe_lockAll (pe_ckG (c := .s _) ok i) _
  · exact pe_no fun _ _ => rfl
/-- what is hooked goes ahead -/
def stepE (P : Pg) (r : Rc) (Γ : Gm) (e : Expr) : Act W := match Γ.hk e with
  | some c => c
  | none => stepE0 P r Γ e
theorem stepE_ok {P : Pg} {r : Rc} {Γ : Gm} (ok : RcOk M P r) (i : In M P Γ W' X) : ∀ e, PE X e (SE M W' (stepE P r Γ e)) := fun e => by
  unfold stepE
  split
  · rename_i c h
    exact i.hk e c h
  · exact stepE0_ok ok i e
/-! ### of tests -/
def stepT (P : Pg) (r : Rc) (Γ : Gm) : Expr → Act Bool
  | .UnaryOp .Not a _ => notT (r.te Γ a)
  | .BoolOp op es _ => allT op (r.te Γ) es
  | .Compare a ops es _ => cmpT P r Γ a ops es
  | e => when (plainTest e) (byTruN (r.ev Γ e))
theorem stepT_ok {P : Pg} {r : Rc} {Γ : Gm} (ok : RcOk M P r) (i : In M P Γ W' X) : ∀ e, PT X e (ST M W' (stepT P r Γ e)) := fun e => by
  unfold stepT
  split
  · exact pt_notG (ok.te i _)
  · exact (pw_all (ok.te i) _).pt
  · exact pt_cmpT ok i
  · exact pt_when fun h => pt_truNG i.at'.K h (ok.ev i _)
/-! ### of what `for` walks over -/
def isTupE : Expr → Bool
  | .Tuple _ _ _ => true
  | _ => false
theorem isTupE_ok {tg : Expr} (h : isTupE tg = true) : ∃ es k p, tg = .Tuple es k p := by
  cases tg <;> first | exact ⟨_, _, _, rfl⟩ | cases h
def srcC (P : Pg) (r : Rc) (Γ : Gm) (tg : Expr) (x : Str) : List Expr → Act Src
  | [a] => if x = "range" then when (glB Γ x && P.non x && plainArg a) (rng1I (wArgs (r.ev Γ) [a])) else
    if x = "enumerate" then when (glB Γ x && P.non x && plainArg a && isTupE tg) (srcI enumF (wArgs (r.ev Γ) [a])) else noA
  | [a, b] => if x = "zip" then when (glB Γ x && P.non x && [a, b].all plainArg && isTupE tg) (srcI zipF (wArgs (r.ev Γ) [a, b])) else noA
  | _ => noA
def isSrcN (x : Str) : Bool := decide (x = "range") || decide (x = "enumerate") || decide (x = "zip")
def stepI (P : Pg) (r : Rc) (Γ : Gm) (tg : Expr) : Expr → Act Src
  | .Call (.Name x p) es [] pos => if isSrcN x = true then srcC P r Γ tg x es else keyI (r.ev Γ (.Call (.Name x p) es [] pos))
  | .Call (.Name x p) [a] [⟨some k, b, kp⟩] pos => if x = "enumerate" ∧ k = "start" then when (glB Γ x && P.non x && plainArg a && isTupE tg) (enumStI (r.ev Γ a) (r.ev Γ b)) else noA
  | .Call (.Attribute o name apos) [] [] cpos => if name = "items" then when (isTupE tg && plainBase o && (apos.endLine == cpos.line)) (itemI (r.ev Γ o)) else keyI (r.ev Γ (.Call (.Attribute o name apos) [] [] cpos))
  | e => keyI (r.ev Γ e)
theorem srcC_ok {P : Pg} {r : Rc} {Γ : Gm} {tg : Expr} {x : Str} {es : List Expr} {p pos : Pos} (ok : RcOk M P r) (i : In M P Γ W' X) : PI X tg (.Call (.Name x p) es [] pos) (SI M W' (srcC P r Γ tg x es)) := by
  unfold srcC
  split
  · split
    · rename_i hx
      subst hx
      refine pi_when fun h => ?_
      simp only [Bool.and_eq_true] at h
      exact pi_rng1G (glB_ok i.at' h.1.1) (non_ok i h.1.2) h.2 (pa_args (ok.ev i) _)
    · split
      · rename_i hx
        subst hx
        refine pi_when fun h => ?_
        simp only [Bool.and_eq_true] at h
        obtain ⟨_, _, _, rfl⟩ := isTupE_ok h.2
        exact pi_enuG i.at'.K (glB_ok i.at' h.1.1.1) (non_ok i h.1.1.2) h.1.2 (pa_args (ok.ev i) _)
      · exact pi_no fun _ _ => rfl
  · split
    · rename_i hx
      subst hx
      refine pi_when fun h => ?_
      simp only [Bool.and_eq_true] at h
      obtain ⟨_, _, _, rfl⟩ := isTupE_ok h.2
      exact pi_zipG i.at'.K (glB_ok i.at' h.1.1.1) (non_ok i h.1.1.2) h.1.2 (pa_args (ok.ev i) _)
    · exact pi_no fun _ _ => rfl
  · exact pi_no fun _ _ => rfl
theorem stepI_ok {P : Pg} {r : Rc} {Γ : Gm} (ok : RcOk M P r) (i : In M P Γ W' X) : ∀ tg e, plainSrc e = true → PI X tg e (SI M W' (stepI P r Γ tg e)) := fun tg e _ => by
  unfold stepI
  split
  · split
    · exact srcC_ok ok i
    · exact pi_keyG i.at'.K (ok.ev i _)
  · split
    · rename_i hx
      obtain ⟨rfl, rfl⟩ := hx
      refine pi_when fun h => ?_
      simp only [Bool.and_eq_true] at h
      obtain ⟨_, _, _, rfl⟩ := isTupE_ok h.2
      exact pi_enuSG i.at'.K (glB_ok i.at' h.1.1.1) (non_ok i h.1.1.2) h.1.2 (ok.ev i _) (ok.ev i _)
    · exact pi_no fun _ _ => rfl
  · split
    · rename_i hn
      subst hn
      refine pi_when fun h => ?_
      simp only [Bool.and_eq_true] at h
      obtain ⟨_, _, _, rfl⟩ := isTupE_ok h.1.1
      exact pi_itemG (plainBase_ok h.1.2) h.2 (ok.ev i _)
    · exact pi_keyG i.at'.K (ok.ev i _)
  · exact pi_keyG i.at'.K (ok.ev i _)
/-! ### the recursion -/
def rcs (P : Pg) : Nat → Rc
  | 0 => ⟨fun _ _ => noA, fun _ _ => noA, fun _ _ _ => noA⟩
  | n + 1 => ⟨fun Γ e => stepE P (rcs P n) Γ e, fun Γ e => stepT P (rcs P n) Γ e, fun Γ tg e => stepI P (rcs P n) Γ tg e⟩
theorem rcs_ok {P : Pg} : ∀ n, RcOk M P (rcs P n)
  | 0 => ⟨fun _ _ => pe_no fun _ _ => rfl, fun _ _ => pt_no fun _ _ => rfl, fun _ _ _ _ => pi_no fun _ _ => rfl⟩
  | n + 1 => ⟨fun i e => stepE_ok (rcs_ok n) i e, fun i e => stepT_ok (rcs_ok n) i e, fun i tg e h => stepI_ok (rcs_ok n) i tg e h⟩
end G

set_option Elab.async false
set_option linter.all false
set_option maxRecDepth 100000
set_option maxHeartbeats 4000000
namespace G
open PySem L2 PySem.Spec PyProof.Rows
variable {M : Md} {H H' H1 H2 : Hp} {ι ι' ι1 ι2 : List Addr} {X : Cx} {W' : WX}
/-! ### x, *y = a list -/
section
variable {P0 : Program} {w : World} {A : Around} {Er : Value → Shared → Prop} {s : Shared}
theorem kun_one {l : Addr} {items : Array Value} {u : Value} {us : List Value} {Q : List Value → Shared → Prop} (hl : s.heap.IsList l items) (hh : A.handled = none) (hz : items.size ≤ 16384) (he : items.toList = u :: us)
    (h : ∀ h₂ tk, (∀ b o, s.heap.get? b = some o → h₂.get? b = some o) → wpAny (model P0 w) A (newList us) (fun d s' => Q [u, d] s') Er { s with heap := h₂, toks := tk }) : wpAny (model P0 w) A (unpackItems (.ref l) 2 (some 1)) Q Er s := by
  have hn : items.size = us.length + 1 := by rw [← Array.length_toList, he]; rfl
  have hlt : l ≠ s.heap.objs.size := by obtain ⟨o, ho, _⟩ := hl; exact Nat.ne_of_lt (Heap.lt_size ho)
  unfold unpackItems
  refine wpAny_bind ?_
  unfold notIterableAtAll
  refine wpAny_bind (wpAny_specialOf hl.typeIs slot_list_iter.lookup ?_)
  refine wpAny_pure ?_
  simp only [Bool.false_eq_true, if_false]
  refine wpAny_bind (wpAny_holding (wpAny_pyIter_list hl ?_))
  refine wpAny_bind (wpAny_holding (PySem.W.kun_draw hlt 1 0 _ _ ⟨_, Heap.get?_push_size _ rfl, rfl, rfl⟩ (hl.push _) (by omega) fun h₁ hit₁ hs₁ => ?_))
  have hl₁ : h₁.IsList l items := (hl.push _).extBut hs₁.extBut hlt
  rw [Nat.zero_add] at hit₁
  have hit' := hit₁
  obtain ⟨oi, hoi, _⟩ := hit'
  have hl' := hl₁
  obtain ⟨ol, hol, _⟩ := hl'
  rw [List.drop_zero]
  have e1 : items.toList.take 1 = [u] := by rw [he]; rfl
  have e2 : items.toList.drop 1 = us := by rw [he]; rfl
  rw [e1]
  show wpAny _ _ (if ([u] : List Value).length < 1 then _ else _) _ _ _
  rw [if_neg (by simp)]
  refine wpAny_bind (wpAny_holding (PySem.W.kun_collect (s := { s with heap := h₁ }) (T := "list_iterator") (.inr (.inr (.inl rfl))) (Walks.list (A := A.in1) hh s.heap.objs.size l hlt items) (fun j u st => st.1.typeIs) (k := 1) (by omega) ⟨hit₁, hl₁⟩ (Heap.lt_size hoi) (Heap.lt_size hol) (fun h₂ tk hk => ?_) (by rw [sizeLine_eq]; omega)))
  rw [e2]
  show wpAny _ _ (if us.length < 2 - 1 - 1 then _ else _) _ _ _
  rw [if_neg (by omega)]
  show wpAny _ _ (newList (us.take (us.length - 0)) >>= fun d => pure ([u] ++ [d] ++ us.drop (us.length - 0))) _ _ _
  rw [Nat.sub_zero, List.take_length, List.drop_length]
  refine wpAny_bind (wpAny_mono (h h₂ tk fun b o e => hk b o (Nat.ne_of_lt (Heap.lt_size e)) (hs₁.extBut b o (Nat.ne_of_lt (Heap.lt_size e)) (Heap.get?_push_of_some _ e))) (fun d s' q => wpAny_pure q) fun _ _ z => z)
end
theorem pg_star {x y : Str} {px py p1 pos : Pos} {k : Nat} {t : TGs} (hc : X.calm = true) (h : PGs X [.Name x px, .Name y py] t) : PG X (.Tuple [.Name x px, .Starred (.Name y py) p1] k pos)
    (fun v σ H Q => ∃ a u r, v = .ref a ∧ H a = some (.lst (u :: r)) ∧ r.length ≤ 1000 ∧ ∀ p, H p = none → t [u, .ref p] σ (upd H p (.lst r)) Q) := by
  refine ⟨fun pins s σ H v u Q I r hw => ?_⟩
  obtain ⟨a, u0, r0, rfl, hq, hz, hw⟩ := hw
  obtain rfl : u = Value.ref a := r
  obtain ⟨its, rv, pl, hz2⟩ := I.list (SqL.of hq)
  cases rv with
  | cons rv1 rv2 =>
    rename_i u1 us
    show wpAny _ _ (assign (.Tuple [.Name x px, .Starred (.Name y py) p1] k pos) X.env (.ref a)) _ _ _
    rw [assign_Tuple]
    refine wpAny_bind (wpAny_standAt ?_)
    have hlen : us.length = r0.length := (Paired.length rv2).symm
    refine wpAny_bind (wpAny_holding (kun_one pl.isList (I.ok.hd hc) (by simp; omega) rfl fun h₂ tk hk => ?_))
    have I1 : Inv X pins σ H { s with heap := h₂, toks := tk } := I.kept (t' := tk) hk
    have hf : H h₂.objs.size = none := I1.hok.fresh (Nat.le_refl _)
    refine wpAny_newList ?_ (by rw [hlen, sizeLine_eq]; omega)
    have I2 : Inv X pins σ (upd H h₂.objs.size (.lst r0)) { s with heap := h₂.push { cls := .type "list", data := .seq us.toArray }, toks := tk } := I1.laid (t' := tk) (fun b u e => Heap.get?_push_of_some _ e) (Nat.le_refl _) ⟨by rw [sizeLine_eq]; omega, us, 0, rv2, Heap.get?_push_size _ rfl⟩
    exact h.run pins _ σ _ [u0, .ref h₂.objs.size] [u1, .ref h₂.objs.size] Q I2 (.cons rv1 (.cons rfl .nil)) (hw _ hf)
def starG (d : ActGs) : ActG := fun w σ E => match lstOf E w with
  | some (_, u :: r) => if r.length ≤ 1000 then d [u, .ref E.length] σ (E ++ [.lst r]) else none
  | _ => none
theorem pg_starG {x y : Str} {px py p1 pos : Pos} {k : Nat} {d : ActGs} (hc : X.calm = true) (h : PGs X [.Name x px, .Name y py] (SGs M W' d)) : PG X (.Tuple [.Name x px, .Starred (.Name y py) p1] k pos) (SG M W' (starG d)) :=
  PG.imp (pg_star hc h) fun v σ H Q ⟨ι, E, σE, w, R, rs, rw', k⟩ => by
    unfold starG at k
    split at k
    · rename_i i u r e
      split at k
      · rename_i hl
        obtain ⟨a, vs, rfl, ha, he, rfl, h1, r1⟩ := lst_ok R e rw'
        obtain ⟨uv, rv, rfl, q1, q2⟩ := r1
        refine ⟨a, uv, rv, rfl, h1, by rw [← q2.length]; exact hl, ?_⟩
        have kk : Fin M ι H (.ref E.length) (E ++ [.lst r]) (fun pv H' => SGs M W' d [uv, pv] σ H' Q) := fun ι' H' pv x' R' rp =>
          ⟨ι', E ++ [.lst r], σE, [u, .ref E.length], R', rs.ext x', ⟨uv, [pv], rfl, q1.ext x', pv, [], rfl, rp, rfl⟩, (k.ext x').imp fun σ1 E' g => fun ι2 H2 σ' x2 => g ι2 H2 σ' (x'.trans x2)⟩
        exact kk.lst R q2
      · exact k.none.elim
    · exact k.none.elim
end G

set_option Elab.async false
set_option linter.all false
set_option maxRecDepth 100000
set_option maxHeartbeats 4000000
namespace G
open PySem L2 PySem.Spec PyProof.Rows
variable {M : Md} {H H' H1 H2 : Hp} {ι ι' ι1 ι2 : List Addr} {X : Cx} {W' : WX}

/-! ### targets -/
def noS : ActS := fun _ _ => none
def noG : ActG := fun _ _ _ => none
def tgsA (f : Expr → ActG) : List Expr → ActGs
  | [] => nilG
  | e :: es => consG (f e) (tgsA f es)
def tgA (r : Rc) (Γ : Gm) : Nat → Expr → ActG
  | 0, _ => noG
  | n + 1, e => match e with
    | .Name x _ => nameG Γ x
    | .Tuple [.Name x px, .Starred (.Name y py) _] _ _ => starG (tgsA (tgA r Γ n) [.Name x px, .Name y py])
    | .Tuple es _ _ => if es.all plainTg = true then unG es.length (tgsA (tgA r Γ n) es) else noG
    | .Subscript o i _ => if plainIx i = true then subNG (r.ev Γ o) (r.ev Γ i) else noG
    | _ => noG
theorem pgs_tgs {f : Expr → ActG} (hW : Wind W') (h : ∀ e, PG X e (SG M W' (f e))) : ∀ {es : List Expr}, es.all plainTg = true → PGs X es (SGs M W' (tgsA f es))
  | [], _ => pgs_nilG
  | e :: es, hp => by
    rw [List.all_cons, Bool.and_eq_true] at hp
    exact pgs_consG hW hp.1 (h e) (pgs_tgs hW h hp.2)
theorem tgA_ok {P : Pg} {r : Rc} {Γ : Gm} (ok : RcOk M P r) (i : In M P Γ W' X) : ∀ n e, PG X e (SG M W' (tgA r Γ n e))
  | 0, e => pg_no fun _ _ _ => by unfold tgA; rfl
  | n + 1, e => by
    unfold tgA
    split
    · exact pg_nameG i.at'
    · exact pg_starG i.at'.calm (pgs_tgs i.wind (tgA_ok ok i n) rfl)
    · split
      · exact pg_unG i.at'.K i.at'.calm (by assumption) (pgs_tgs i.wind (tgA_ok ok i n) (by assumption))
      · exact pg_no fun _ _ _ => rfl
    · split
      · exact pg_subNG i.at' (by assumption) (ok.ev i _) (ok.ev i _)
      · exact pg_no fun _ _ _ => rfl
    · exact pg_no fun _ _ _ => rfl
/-! ### statements -/
def blkA (f : Stmt → ActS) : List Stmt → ActS
  | [] => nilS
  | s :: r => seqS (f s) (blkA f r)
theorem blkA_ok {f : Stmt → ActS} (hW : Wind W') (h : ∀ s, PS X s (SS M W' (f s))) : ∀ ss, PSs X ss (SS M W' (blkA f ss))
  | [] => pss_nilG
  | s :: r => pss_consG hW (h s) (blkA_ok hW h r)
/-- x = e, where e is no display's comprehension; pairs by pairs -/
def asgA (P : Pg) (r : Rc) (Γ : Gm) (tg : Expr) : Expr → ActS
  | .ListComp elt gens scope _ => match tg with
    | .Name y _ => lockAllS Γ gens (nameS Γ y (ckE r Γ (.l elt) gens scope))
    | _ => noS
  | .DictComp k v gens scope _ => match tg with
    | .Name y _ => lockAllS Γ gens (nameS Γ y (ckE r Γ (.d k v) gens scope))
    | _ => noS
  | .SetComp elt gens scope _ => match tg with
    | .Name y _ => lockAllS Γ gens (nameS Γ y (ckE r Γ (.s elt) gens scope))
    | _ => noS
  | .Tuple vs k2 pt2 => match tg with
    | .Tuple ts kt pt => match swF Γ.names ts vs with
      | some none => asgS (r.ev Γ (.Tuple vs k2 pt2)) (tgA r Γ 9 (.Tuple ts kt pt))
      | some (some [a, b]) => match ts, vs with
        | [.Name x _, .Name y _], [e, f] => if x = a ∧ y = b then par2 Γ x y (wArgsS (r.ev Γ) [e, f]) else noS
        | _, _ => noS
      | some (some [a, b, c]) => match ts, vs with
        | [.Name x _, .Name y _, .Name z _], [e, f, g] => if x = a ∧ y = b ∧ z = c then par3 Γ x y z (wArgsS (r.ev Γ) [e, f, g]) else noS
        | _, _ => noS
      | _ => noS
    | .Name y p => if plainTg tg = true then asgS (r.ev Γ (.Tuple vs k2 pt2)) (tgA r Γ 9 tg) else noS
    | .Subscript o ix p => if plainTg tg = true then asgS (r.ev Γ (.Tuple vs k2 pt2)) (tgA r Γ 9 tg) else noS
    | _ => noS
  | e => if (plainDrop e && notTup e && plainTg tg) = true then asgS (r.ev Γ e) (tgA r Γ 9 tg) else noS
theorem ps_asgA {P : Pg} {r : Rc} {Γ : Gm} {tg e : Expr} {pos : Pos} (ok : RcOk M P r) (i : In M P Γ W' X) : PS X (.Assign [tg] e pos) (SS M W' (asgA P r Γ tg e)) := by
  unfold asgA
  split
  · split
    · exact ps_lockAllS (ps_ckG (c := .l _) ok i) _
    · exact ps_no fun _ _ => rfl
  · split
    · exact ps_lockAllS (ps_ckG (c := .d _ _) ok i) _
    · exact ps_no fun _ _ => rfl
  · split
    · exact ps_lockAllS (ps_ckG (c := .s _) ok i) _
    · exact ps_no fun _ _ => rfl
  · split
    · split
      · rename_i h
        exact ps_tupG i.at' h (ok.ev i _) (tgA_ok ok i 9 _)
      · rename_i a b h
        split
        · split
          · rename_i hx
            obtain ⟨rfl, rfl⟩ := hx
            exact ps_par2G i.at' h (pa_argsS i.at'.K (ok.ev i) _)
          · exact ps_no fun _ _ => rfl
        · exact ps_no fun _ _ => rfl
      · rename_i a b c h
        split
        · split
          · rename_i hx
            obtain ⟨rfl, rfl, rfl⟩ := hx
            exact ps_par3G i.at' h (pa_argsS i.at'.K (ok.ev i) _)
          · exact ps_no fun _ _ => rfl
        · exact ps_no fun _ _ => rfl
      · exact ps_no fun _ _ => rfl
    · split
      · refine PS.imp (ps_asg (ok.ev i _) (tgA_ok ok i 9 _) rfl rfl rfl) fun D σ H ⟨ι, E, σE, R, rs, k⟩ => ⟨ι, E, σE, R, rs, (Rs.bind k).imp fun w E1 h1 => fun ι1 H1 v x1 R1 rv => 
          ⟨ι1, E1, σE, w, R1, rs.ext x1, rv, (h1.bind.ext x1).imp fun σ1 E2 h2 => fun ι2 H2 σ' x2 R2 rs2 => h2.ok ι2 H2 (x1.trans x2) R2 σ' rs2⟩⟩
      · exact ps_no fun _ _ => rfl
    · split
      · refine PS.imp (ps_asg (ok.ev i _) (tgA_ok ok i 9 _) rfl rfl rfl) fun D σ H ⟨ι, E, σE, R, rs, k⟩ => ⟨ι, E, σE, R, rs, (Rs.bind k).imp fun w E1 h1 => fun ι1 H1 v x1 R1 rv => 
          ⟨ι1, E1, σE, w, R1, rs.ext x1, rv, (h1.bind.ext x1).imp fun σ1 E2 h2 => fun ι2 H2 σ' x2 R2 rs2 => h2.ok ι2 H2 (x1.trans x2) R2 σ' rs2⟩⟩
      · exact ps_no fun _ _ => rfl
    · exact ps_no fun _ _ => rfl
  · split
    · rename_i h
      simp only [Bool.and_eq_true] at h
      exact ps_asgG h.1.1 h.1.2 h.2 (ok.ev i _) (tgA_ok ok i 9 _)
    · exact ps_no fun _ _ => rfl
def raiseA (P : Pg) (Γ : Gm) : Option Expr → Option Expr → ActS
  | some (.Call (.Name x _) [.Constant (.str _) _ _] [] _), none => if glB Γ x = true then raiseS P x else noS
  | _, _ => noS
def stepS (P : Pg) (r : Rc) (Γ : Gm) : Nat → Stmt → ActS
  | 0, _ => noS
  | n + 1, s => match s with
    | .Return (some e) _ => retS (r.ev Γ e)
    | .Return none _ => fun _ E => some (.ok (.rt .non) E)
    | .Pass _ => nilS
    | .Break _ => fun σ E => some (.ok (.bk σ) E)
    | .Continue _ => fun σ E => some (.ok (.ct σ) E)
    | .Expr e _ => if plainDrop e = true then dropS (r.ev Γ e) else noS
    | .If e a b _ => ifS (r.te Γ e) (blkA (stepS P r Γ n) a) (blkA (stepS P r Γ n) b)
    | .While e body [] _ => loopW (r.te Γ e) (blkA (stepS P r Γ n) body) few
    | .For tg e body [] _ => if plainSrc e = true then lockS (lkIx (lkName Γ e)) (forS (r.src Γ tg e) (tgA r Γ 9 tg) (blkA (stepS P r Γ n) body)) else noS
    | .Assign [tg] e _ => asgA P r Γ tg e
    | .AugAssign (.Name x _) op e _ => augS Γ x op (r.ev Γ e)
    | .Raise c a _ => raiseA P Γ c a
    | _ => noS
theorem stepS_ok {P : Pg} {r : Rc} {Γ : Gm} (ok : RcOk M P r) (i : In M P Γ W' X) : ∀ n s, PS X s (SS M W' (stepS P r Γ n s))
  | 0, s => ps_no fun _ _ => by unfold stepS; rfl
  | n + 1, s => by
    have ih := blkA_ok i.wind (stepS_ok ok i n)
    unfold stepS
    split
    · exact ps_retG (ok.ev i _)
    · exact ps_retNG
    · exact ps_passG
    · exact ps_breakG
    · exact ps_contG
    · split
      · exact ps_exprG (by assumption) (ok.ev i _)
      · exact ps_no fun _ _ => rfl
    · exact ps_ifSG (ok.te i _) (ih _) (ih _)
    · exact ps_whileG i.wind i.at'.own (ok.te i _) (ih _)
    · split
      · rename_i h
        refine ps_lockG ?_
        exact ps_forG i.wind i.at'.own i.at'.calm (ok.src i _ _ h) (tgA_ok ok i 9 _) (ih _) (plainSrc_ok h _)
      · exact ps_no fun _ _ => rfl
    · exact ps_asgA ok i
    · exact ps_augG i.at' (ok.ev i _)
    · unfold raiseA
      split
      · split
        · rename_i h
          exact ps_raiseG i (glB_ok i.at' h)
        · exact ps_no fun _ _ => rfl
      · exact ps_no fun _ _ => rfl
    · exact ps_no fun _ _ => rfl
/-- a body's act -/
def bodyA (P : Pg) (n : Nat) (Γ : Gm) (ss : List Stmt) : ActS := blkA (stepS P (rcs P n) Γ 30) ss
theorem bodyA_ok {P : Pg} {n : Nat} {Γ : Gm} (i : In M P Γ W' X) (ss : List Stmt) : PSs X ss (SS M W' (bodyA P n Γ ss)) := blkA_ok i.wind (stepS_ok (rcs_ok n) i 30) ss
end G

set_option Elab.async false
set_option linter.all false
set_option maxRecDepth 100000
set_option maxHeartbeats 4000000
namespace G
open PySem L2 PySem.Spec PyProof.Rows
variable {X : Cx} {pins : List (Addr × Obj)} {σ : L2.St} {H HZ : Hp} {s s1 : Shared}
/-! ### a lambda whose errors bear no context -/
abbrev outN (X : Cx) (A : Around) (outer : List Env) (s : Shared) (H : Hp) (E : XK) (env : Env) : Value → Shared → Prop := fun e s' => wpAny (model X.prog X.w) A (leaving env e) (fun _ s2 => L2N.CX X.prog X.w outer H s E e s2) (fun e2 s2 => L2N.CX X.prog X.w outer H s E e2 s2) s'
/-- the lambda's context -/
def lamN (X : Cx) (A : Around) (outer : List Env) (s : Shared) (H : Hp) (E : XK) (scope : Scope) (f c' : Addr) : Cx :=
  (LamX.lamCx X A outer s H E scope f c').wish (outN X (A.deeper (LamX.lamEnv X scope s.heap.objs.size f c')) outer s H E (LamX.lamEnv X scope s.heap.objs.size f c'))
/-- the context of the def g that got the lambda, entered at s -/
abbrev gotZ (X : Cx) (Ng : List Str) (x : Str) (sg : Scope) (g : Addr) (cdg : Value) (s : Shared) (H : Hp) : Cx := cxOf C8.CX0 X.prog X.w X.K X.mg X.base Ng x sg g cdg X.A X.stack s H C8.E0
/-- what it gives, of the lambda f with the code object c' -/
def GivesN (X : Cx) (Ng : List Str) (x : Str) (sg : Scope) (g : Addr) (cdg : Value) (bg : List Stmt) (a q : Str) (TT : (XK → Hp → VK → Prop) → Hp → VK → Prop) : Prop :=
  ∀ (f c' : Addr) (s : Shared) (H : Hp) (Q : VK) (tl : XK → Hp → VK → Prop),
    (∀ (W : WX) (pn : List (Addr × Obj)) (xe : Value → Shared → Prop) (E : XK) (p1 p2 : Pos), L2N.Takes ((gotZ X Ng x sg g cdg s H).tr pn xe) W → (∀ cls d σ' H', E cls d H' → W cls d σ' H') →
      PE ((gotZ X Ng x sg g cdg s H).tr pn xe) (.Call (.Name a p1) [] [] p2) fun σZ HZ Q => σZ[0]? = some (some (.ref f)) ∧ HZ c' = some (LamX.CodeO c' q) ∧ tl E HZ Q) →
    H c' = some (LamX.CodeO c' q) → TT tl H Q → ∃ t, PSs (gotZ X Ng x sg g cdg s H).nox bg t ∧ t { nx := fun _ H' => Q .non H', rt := Q } (L2.start Ng [.ref f]) H
theorem act_lamN {Ng : List Str} {qg : Str} {sg : Scope} {g f c' : Addr} {cdg pm ctv : Value} {params : Arguments} {body : Expr} {scope : Scope} {k : Nat} {a : Str} {pn : List (Addr × Obj)} {xe : Value → Shared → Prop} {W : WX} {E : XK} {tb : TE} {p1 p2 : Pos}
    (I : Inv X pins σ H s) (L : LamX.LamS X.env.scope scope) (hf : s.heap.get? f = some (PySem.W.kla_obj "<lambda>" (X.env.qual ++ "<lambda>") params body scope (cloFrom X.env.cells scope.names []) pm c' ctv)) (hfn : H f = none) (hfr : f ∉ frs X.stack)
    (hbind : bindArgs (PySem.W.kla_fn "<lambda>" (X.env.qual ++ "<lambda>") params body scope (cloFrom X.env.cells scope.names []) pm (.ref c') ctv) ⟨[], []⟩ = pure [])
    (tk : L2N.Takes ((gotZ X Ng qg sg g cdg s H).tr pn xe) W) (hW : ∀ cls d σ' H', E cls d H' → W cls d σ' H') (hr : Room (k + 1) (X.A.deeper (envOfC qg sg s.heap.objs.size g cdg)))
    (hbody : ∀ (A : Around) (outer : List Env) (s : Shared) (H : Hp), Room k (A.deeper (LamX.lamEnv X scope s.heap.objs.size f c')) → PE (lamN X A outer s H E scope f c') body tb) (hN : Ng[0]? = some a) (hv : Vis sg a) (hd : (a == ("__debug__" : Str)) = false) (hcd : (a == ("__classdict__" : Str)) = false) :
    PE ((gotZ X Ng qg sg g cdg s H).tr pn xe) (.Call (.Name a p1) [] [] p2) fun σZ HZ Q => σZ[0]? = some (some (.ref f)) ∧ HZ c' = some (LamX.CodeO c' (X.env.qual ++ "<lambda>")) ∧ tb σ HZ Q := by
  refine ⟨fun pinsZ sZ σZ HZ Q IZ h => ?_⟩
  obtain ⟨hs, hc, ht⟩ := h
  refine wpAny_Call_Name_kw (thn ((pe_var (pos := p1) (i := 0) hN hv hd hcd).run pinsZ sZ σZ HZ (fun v H1 => v = .ref f ∧ H1 = HZ) IZ ⟨.ref f, hs, rfl, rfl⟩) fun u s1 ⟨v, H1, I1, r1, q1⟩ => ?_)
  obtain ⟨rfl, rfl⟩ := q1
  obtain rfl : u = Value.ref f := r1
  have obj := I1.base.keep f _ hf hfn hfr fun z => nomatch (show f ∈ ([] : List Addr) from z)
  refine PySem.W.callWith_F0 ⟨_, _, _, _, obj⟩ ?_
  obtain ⟨⟨oc, vs, t, hoc, hdc, hvc⟩, _, _⟩ := I1.hok c' _ hc
  have rc : codeAny (model X.prog X.w) (X.A.deeper (envOfC qg sg s.heap.objs.size g cdg)) (.call (.ref f) ⟨[], []⟩) (CR (L2N.CX X.prog X.w) (envOfC qg sg s.heap.objs.size g cdg :: X.stack) X.prog X.w H1 s1 Q E) s1 := by
    refine PySem.W.kla_callFunE hr.depth obj rfl L.co L.gen rfl ⟨c', oc, vs, t, rfl, hoc, hdc, hvc⟩ ?_
    rw [hbind]
    refine wpAny_pure (wpAny_newFunctionEnv (fun y hy => (L.own y hy).2) (fun y hy => absurd hy (by simp)) (fun h₁ hns hsb => ⟨I1.nolimit.fresh _ hsb, ?_⟩) L.kind)
    show codeAny _ _ (.expr body (LamX.lamEnv X scope s1.heap.objs.size f c')) _ _
    have J := (LamX.lam_start2 (tk := s1.toks + ([] : List (Str × Value)).length) (f := f) (c' := c') (E := E) I L I1.env0 hr.hd I1.base hns fun b o e => hsb.extBut b o (Nat.ne_of_lt (Heap.lt_size e)) (Heap.get?_push_of_some _ e)).wish (outN X ((X.A.deeper (envOfC qg sg s.heap.objs.size g cdg)).deeper (LamX.lamEnv X scope s1.heap.objs.size f c')) (envOfC qg sg s.heap.objs.size g cdg :: X.stack) s1 H1 E (LamX.lamEnv X scope s1.heap.objs.size f c'))
    refine PySem.W.kla_codeExpr (wpAny_mono ((hbody _ _ s1 H1 (hr.deeper _)).run [] _ _ H1 Q J ht) (fun v s' hq => ?_) fun e s' hq => hq)
    obtain ⟨w', H', J', rv, q⟩ := hq
    exact ⟨w', H', J'.os, J'.bare, J'.base, J'.hok, rv, q⟩
  refine wpAny_call (codeAny_mono rc fun r s' hq => ?_)
  cases r with
  | error e => exact L2N.passes_call tk hW pinsZ σZ H1 s1 e s' I1 hq
  | ok fl =>
    cases fl with
    | ret u => exact I1.after hq
    | next => exact False.elim hq
    | brk => exact False.elim hq
    | cont => exact False.elim hq
/-- x(lambda: body) -/
theorem pe_lamN {T : List (Addr × Str)} {TT : (XK → Hp → VK → Prop) → Hp → VK → Prop} {x a : Str} {g c P : Addr} {k : Nat} {pg : Arguments} {bg : List Stmt} {sg : Scope} {dV kV doc pm cdv ct oc : Value} {an od : Option Addr} {osl : Array (Option Value)} {Ng : List Str}
    {params : Arguments} {body : Expr} {scope : Scope} {t : XK → TE} {p lpos pos : Pos} (hg : Gl X x) (hm : X.mg x = some (.ref g)) (hk : PySem.W.keepIn X.K (.ref g) = true)
    (lk : X.K.lookup g = some ⟨oc, od, .func (PySem.W.fnOf x x pg bg sg dV kV doc pm an cdv ct), osl⟩) (hcg : PySem.W.codeIn X.K cdv x = true) (hb : L2.Binds X.K (PySem.W.fnOf x x pg bg sg dV kV doc pm an cdv ct) [a] []) (Sg : FnScope Ng [a] sg) (hNg : Ng[0]? = some a) (hva : Vis sg a)
    (hG : GivesN X Ng x sg g cdv bg a (X.env.qual ++ "<lambda>") TT) (TB : LamX.TabB X.base X.mg c P) (hcode : X.env.code = .ref c) (hmT : (P, X.env.qual ++ "<lambda>") ∈ T) (hu : ∀ p ∈ T, p.1 = P → p.2 = X.env.qual ++ "<lambda>") (hr : Room (k + 2) X.A) (L : LamX.LamS X.env.scope scope) (hdef : defaultsOf params X.env = ([], []))
    (hbind : ∀ (q : Str) (cl : List (Str × Addr)) (pm cv ctv : Value), bindArgs (PySem.W.kla_fn "<lambda>" q params body scope cl pm cv ctv) ⟨[], []⟩ = pure [])
    (hbody : ∀ (A : Around) (outer : List Env) (s : Shared) (H : Hp) (E : XK) (f c' : Addr), Room k (A.deeper (LamX.lamEnv X scope s.heap.objs.size f c')) → PE (lamN X A outer s H E scope f c') body (t E)) (hdb : (x == ("__debug__" : Str)) = false) (hd : (a == ("__debug__" : Str)) = false) (hcd : (a == ("__classdict__" : Str)) = false) :
    PE X (.Call (.Name x p) [.Lambda params body scope lpos] [] pos) (LamX.tLam T TT t) := by
  refine ⟨fun pins s σ H Q I h => wpAny_Call_Name_kw (ld_glob I hg hm ?_ hdb)⟩
  obtain ⟨hT, h⟩ := h
  refine PySem.W.callWith_K (h₀ := X.base) I.ok.mod.kin hk ?_ (by rfl) (by rfl)
  show wpAny _ _ (spliced ((false, eval (.Lambda params body scope lpos) X.env) :: backTo pos (starEach [] X.env))) _ _ s
  refine Calls.spliced_cons (LamX.lam_make2 I TB hcode hmT hu hT hdef (L.has I.ok) fun f c' pm' ctv H1 s' I1 eN T1 hf hfn hfr hco => Calls.spliced_nil ⟨I1.kIn, wpAny_call (codeAny_mono (LamX.run_ofS (CX := C8.CX0) (E := C8.E0) (Q := Q) (N := Ng) (ps := [a]) (us := [.ref f]) (vs := [.ref f]) lk hcg Sg hr I1.env0 (hb s' [.ref f] I1.kIn rfl) (.cons rfl .nil) rfl fun hr' => ?_) fun r s2 hq => ?_)⟩)
  · obtain ⟨t', ht', hq'⟩ := hG f c' s' H1 Q (fun E H' Q' => t E σ H' Q') (fun W pn xe E p1 p2 tk hW => act_lamN I1 L hf hfn hfr (hbind _ _ _ _ _) tk hW hr' (fun A outer s H hr2 => hbody A outer s H E f c' hr2) hNg hva hd hcd) hco (h H1 eN T1)
    exact ⟨t', ht'.nox, hq'⟩
  · cases r with
    | error e => exact (show False from hq).elim
    | ok fl =>
      cases fl with
      | ret u => exact I1.after hq
      | next => exact False.elim hq
      | brk => exact False.elim hq
      | cont => exact False.elim hq
end G

set_option Elab.async false
set_option linter.all false
set_option maxRecDepth 100000
set_option maxHeartbeats 4000000
namespace G
open PySem L2 PySem.Spec PyProof.Rows
variable {M : Md} {H H' H1 H2 : Hp} {ι ι' ι1 ι2 : List Addr} {X : Cx} {W' : WX}

/-! ### x(lambda: e), x a def that calls it and tells the error -/
theorem StL.extN {K : PySem.W.Frag} {a : Addr} {xs : List V} (x : LamX.ExtN H H1) (h : StL K H a xs) : StL K H1 a xs := by
  rcases h with ⟨o, h⟩ | h
  · exact .inl ⟨o, x _ _ h fun _ z => (nomatch z)⟩
  · exact .inr h
theorem ext_extN (x : LamX.ExtN H H1) : Ext M ι H ι H1 := by
  refine ⟨List.prefix_refl _, fun a xs h => ?_, fun b o u h => x _ _ h fun _ z => (nomatch z)⟩
  rcases h with (h | ⟨o, h⟩) | h
  · exact .inl (.inl (x _ _ h fun _ z => (nomatch z)))
  · exact .inl (.inr ⟨o, x _ _ h fun _ z => (nomatch z)⟩)
  · exact .inr h
theorem rel_extN {E : Hh} (R : Rel M ι E H) (x : LamX.ExtN H H1) (T : LamX.Tabs M.T H1) : Rel M ι E H1 := by
  have xx : Ext M ι H ι H1 := ext_extN x
  refine ⟨R.len, R.inj, fun i o e => ?_, T⟩
  obtain ⟨a, ea, ro⟩ := R.obj i o e
  refine ⟨a, ea, ?_⟩
  cases o with
  | lst ws => obtain ⟨vs, h1, h2⟩ := ro; exact ⟨vs, x _ _ h1 fun _ z => (nomatch z), h2.ext xx⟩
  | slst ws => obtain ⟨vs, h1, h2⟩ := ro; exact ⟨vs, h1.extN x, h2.ext xx⟩
  | dK kvs => obtain ⟨vs, h1, h2⟩ := ro; exact ⟨vs, x _ _ h1 fun _ z => (nomatch z), h2.ext xx⟩
  | dN kvs => obtain ⟨vs, h1, h2, h3, h4, h5⟩ := ro; exact ⟨vs, x _ _ h1 fun _ z => (by unfold DkAt at z; cases z), h2, h3, h4, Paired.mapP h5 fun p q ⟨⟨a1, a2⟩, a3, a4⟩ => ⟨⟨a1.ext xx, a2⟩, a3.ext xx, a4⟩⟩
  | sdK kvs => obtain ⟨vs, od, h1, h2⟩ := ro; exact ⟨vs, od, x _ _ h1 fun _ z => (nomatch z), h2.ext xx⟩
  | exc b => exact ro
  | cup j => exact x _ _ ro fun _ z => (nomatch z)
  | txs xs => exact x _ _ ro fun ps z => setL_noCode.1 ps z
  | sdN kvs => obtain ⟨vs, od, h1, h2, h3, h4, h5⟩ := ro; exact ⟨vs, od, x _ _ h1 fun _ z => (nomatch z), h2, h3, h4, Paired.mapP h5 fun p q ⟨⟨a1, a2⟩, a3, a4⟩ => ⟨⟨a1.ext xx, a2⟩, a3.ext xx, a4⟩⟩
/-- what comes of an error of the class with this name -/
abbrev Onx := Str → Hh → Option (W × Hh)
def lamA (P : Pg) (onx : Onx) (c : Act W) : Act W := fun σ E => match c σ E with
  | some (.ok _ E1) => some (.ok (.str ⟨#[]⟩) E1)
  | some (.ex x E1) => if P.exc x = true then (onx x E1).map fun p => .ok p.1 p.2 else none
  | none => none
/-- what the def makes of it -/
def TTx (M : Md) (onx : Onx) : (XK → Hp → VK → Prop) → Hp → VK → Prop := fun tl H Q =>
  tl (fun cls d H' => d = none ∧ ∃ x C ι E w E2, M.mg x = some (.ref C) ∧ cls = .ref C ∧ Rel M ι E H' ∧ onx x E = some (w, E2) ∧ Fin M ι H' w E2 Q) H fun _ H' => Q (.str ⟨#[]⟩) H'
theorem lam_imp {P : Pg} {onx : Onx} {c : Act W} (g : Glob M P) : ∀ (σ : L2.St) (H : Hp) (Q : VK), SE M W' (lamA P onx c) σ H Q → LamX.tLam M.T (TTx M onx) (fun E => SE M (fun cls d _ H => E cls d H) c) σ H Q := fun σ H Q ⟨ι, E, σE, R, rs, k⟩ => by
  refine ⟨R.tabs, fun H1 x T => ?_⟩
  have xx : Ext M ι H ι H1 := ext_extN x
  refine ⟨ι, E, σE, rel_extN R x T, rs.ext xx, ?_⟩
  unfold lamA at k
  cases e : c σE E with
  | none => rw [e] at k; exact k.none.elim
  | some r =>
    rw [e] at k
    cases r with
    | ok w E1 => exact .inl ⟨w, E1, rfl, fun ι1 H2 v x1 R1 _ => k.ok ι1 H2 _ (xx.trans x1) R1 rfl⟩
    | ex y E1 =>
      dsimp only at k
      by_cases hy : P.exc y = true
      · rw [if_pos hy] at k
        cases eo : onx y E1 with
        | none => rw [eo] at k; exact k.none.elim
        | some p =>
          obtain ⟨w, E2⟩ := p
          rw [eo] at k
          obtain ⟨C, hC, _⟩ := g.exc y hy
          refine .inr ⟨y, E1, rfl, fun ι1 H2 x1 R1 => ⟨C, hC, rfl, y, C, ι1, E1, w, E2, hC, rfl, R1, eo, fun ι2 H3 v x2 R2 rv => k.ok ι2 H3 v ((xx.trans x1).trans x2) R2 rv⟩⟩
      · rw [if_neg hy] at k
        exact k.none.elim
/-- the def that catches, as the proof sees it: er(a), at g -/
structure Catch (M : Md) (base : Heap) (k : Nat) (er : Str) (onx : Onx) : Prop where
  ex : ∃ (g : Addr) (pg : Arguments) (bg : List Stmt) (sg : Scope) (dV kV doc pm : Value) (an : Option Addr) (cdv ct oc : Value) (od : Option Addr) (osl : Array (Option Value)) (Ng : List Str) (a : Str),
    M.mg er = some (.ref g) ∧ PySem.W.keepIn M.K (.ref g) = true ∧ M.K.lookup g = some ⟨oc, od, .func (PySem.W.fnOf er er pg bg sg dV kV doc pm an cdv ct), osl⟩ ∧ PySem.W.codeIn M.K cdv er = true ∧
    L2.Binds M.K (PySem.W.fnOf er er pg bg sg dV kV doc pm an cdv ct) [a] [] ∧ FnScope Ng [a] sg ∧ Ng[0]? = some a ∧ Vis sg a ∧ (er == ("__debug__" : Str)) = false ∧ (a == ("__debug__" : Str)) = false ∧ (a == ("__classdict__" : Str)) = false ∧
    ∀ (X : Cx) (q : Str), X.prog = M.P → X.w = M.w → X.K = M.K → X.mg = M.mg → X.base = base → Room (k + 2) X.A → GivesN X Ng er sg g cdv bg a q (TTx M onx)
/-- a def whose lambdas' code objects are told by a table -/
structure Tbd (M : Md) (base : Heap) (cdv : Value) (qual : Str) : Prop where
  ex : ∃ c P, LamX.TabB base M.mg c P ∧ cdv = .ref c ∧ (P, qual ++ "<lambda>") ∈ M.T ∧ ∀ p ∈ M.T, p.1 = P → p.2 = qual ++ "<lambda>"
def lamG (Γ : Gm) (scope : Scope) : Gm := ⟨Γ.N, scope.names, fun _ => false, fun _ => none⟩
theorem pe_lamG {Γ : Gm} {P P' : Pg} {m k : Nat} {onx : Onx} {er : Str} {params : Arguments} {body : Expr} {scope : Scope} {p lpos pos : Pos} (at' : At M Γ W' X) (g : Glob M P) (C : Catch M X.base k er onx) (T : Tbd M X.base X.env.code X.env.qual) (hr : Room (k + 2) X.A) (hg : Gl X er)
    (hL : LamX.lamSB X.env.scope scope = true) (hdef : ∀ env, defaultsOf params env = ([], [])) (hbind : ∀ (q : Str) (cl : List (Str × Addr)) (pm cv ctv : Value), bindArgs (PySem.W.kla_fn "<lambda>" q params body scope cl pm cv ctv) ⟨[], []⟩ = pure [])
    (has : ∀ (A : Around), Room k A → ∀ Y : Cx, Y.prog = M.P → Y.w = M.w → Y.K = M.K → Y.mg = M.mg → Y.base = X.base → Y.A = A → Has M P' Y) (g' : Glob M P') :
    PE X (.Call (.Name er p) [.Lambda params body scope lpos] [] pos) (SE M W' (lamA P onx ((rcs P' m).ev (lamG Γ scope) body))) := by
  obtain ⟨gf, pg, bg, sg, dV, kV, doc, pm, an, cdv, ct, oc, od, osl, Ng, a, e1, e2, e3, e4, e5, e6, e7, e8, e9, e10, e11, hG⟩ := C.ex
  obtain ⟨c, Pt, TB, hc, hm, hu⟩ := T.ex
  have L := LamX.lamS_by hL
  refine PE.imp (pe_lamN (T := M.T) (TT := TTx M onx) (t := fun E => SE M (fun cls d _ H => E cls d H) ((rcs P' m).ev (lamG Γ scope) body)) (k := k) hg (by rw [at'.mg]; exact e1) (by rw [at'.K]; exact e2) (by rw [at'.K]; exact e3) (by rw [at'.K]; exact e4) (by rw [at'.K]; exact e5) e6 e7 e8
    (hG X _ at'.P at'.w at'.K at'.mg rfl hr) (by rw [at'.mg]; exact TB) hc hm hu hr L (hdef _) hbind (fun A outer s H E f c' hr' => ?_) e9 e10 e11) (lam_imp g)
  have aL : At M (lamG Γ scope) (fun cls d _ H => E cls d H) (lamN X A outer s H E scope f c') := by
    refine ⟨at'.P, at'.w, at'.K, at'.mg, at'.N, at'.nd, rfl, L.kind, rfl, ?_, L2N.takes_of rfl rfl rfl rfl, passes_of rfl, fun x h => (nomatch h)⟩
    have := hr'.un
    show (A.deeper _).units + 65 < _
    omega
  exact (rcs_ok m).ev ⟨aL, has _ hr' _ at'.P at'.w at'.K at'.mg rfl rfl, g', fun _ _ _ _ _ h => h, fun _ _ h => (nomatch h)⟩ body
end G

set_option Elab.async false
set_option linter.all false
set_option maxRecDepth 100000
set_option maxHeartbeats 4000000
namespace G
open PySem L2 PySem.Spec PyProof.Rows
variable {M : Md} {H H' H1 H2 : Hp} {ι ι' ι1 ι2 : List Addr} {X : Cx} {W' : WX}

/-! ### defs of a module, by their bodies -/
structure Fd where
  st : Stmt
  N : List Str
  ps : List Str
  lam : Bool
/-- what is told of a module -/
structure Tb where
  glob : Str → Option W
  non : Str → Bool
  exc : Str → Bool
  fn : Str → Option Fd
  dct : Str → Option (List (Str × W))
  er : Str
  onx : Onx
def ends (o : Option (Rz Fl)) : Option (Rz W) := match o with
  | some (.ok (.nx _) E) => some (.ok .non E)
  | some (.ok (.rt w) E) => some (.ok w E)
  | some (.ex x E) => some (.ex x E)
  | _ => none
def startE (N : List Str) (ws : List W) : Sg := ws.map some ++ List.replicate (N.length - ws.length) none
abbrev Cal := Str → List W → Hh → Option (Rz W)
def Tb.pgOf (T : Tb) (low : Cal) : Pg := ⟨T.glob, fun y => (T.fn y).isSome, T.non, T.exc, low, T.dct⟩
def noParams : Arguments → Bool
  | ⟨[], [], none, [], [], none, []⟩ => true
  | _ => false
/-- the catching def called with a lambda -/
def Tb.lamH (T : Tb) (m : Nat) (d : Fd) (P P' : Pg) : Expr → Option (Act W)
  | .Call (.Name x _) [.Lambda params body scope _] [] _ => if x = T.er ∧ d.lam = true ∧ LamX.lamSB (defScope d.st) scope = true ∧ noParams params = true ∧ (defScope d.st).names.lookup x = some .globalImplicit then
      some (lamA P T.onx ((rcs P' m).ev ⟨d.N, scope.names, fun _ => false, fun _ => none⟩ body)) else none
  | _ => none
def Tb.gmOf (T : Tb) (m : Nat) (low : Cal) (lam : Option Cal) (d : Fd) : Gm := ⟨d.N, (defScope d.st).names, fun _ => true, match lam with
  | some l => T.lamH m d (T.pgOf low) (T.pgOf l)
  | none => fun _ => none⟩
def Tb.step (T : Tb) (m : Nat) (low : Cal) (lam : Option Cal) : Cal := fun x ws E => match T.fn x with
  | some d => if ws.length = d.ps.length then ends (bodyA (T.pgOf low) m (T.gmOf m low lam d) (defBody d.st) (startE d.N ws) E) else none
  | none => none
def Tb.call (T : Tb) (m : Nat) : Nat → Cal
  | 0 => fun _ _ _ => none
  | 1 => T.step m (fun _ _ _ => none) none
  | 2 => T.step m (T.call m 1) none
  | n + 3 => T.step m (T.call m (n + 2)) (some (T.call m n))
structure DefOk (M : Md) (base : Heap) (x : Str) (d : Fd) (f : Addr) (fd : FuncData) : Prop where
  F : ∃ (qual : Str) (oc : Value) (od : Option Addr) (kV doc pm : Value) (an : Option Addr) (cdv ct : Value) (osl : Array (Option Value)),
    fd = PySem.W.fnOf x qual (defArgs d.st) (defBody d.st) (defScope d.st) .none kV doc pm an cdv ct ∧ M.K.lookup f = some ⟨oc, od, .func fd, osl⟩ ∧ PySem.W.codeIn M.K cdv qual = true ∧ (d.lam = true → Tbd M base cdv (qual ++ ".<locals>."))
  kp : PySem.W.keepIn M.K (.ref f) = true
  S : FnScope d.N d.ps (defScope d.st)
  m : M.mg x = some (.ref f)
  b : Binds M.K fd d.ps []
structure TbOk (M : Md) (base : Heap) (T : Tb) : Prop where
  glob : ∀ low, Glob M (T.pgOf low)
  fn : ∀ x d, T.fn x = some d → (∃ f fd, DefOk M base x d f fd) ∧ (x == ("__debug__" : Str)) = false
  catch_ : (∃ x d, T.fn x = some d ∧ d.lam = true) → ∀ k, Catch M base k T.er T.onx
theorem startE_ok {N : List Str} : ∀ {ws : List W} {vs : List V}, RelWs M H ι ws vs → RelS M H ι (startE N ws) (start N vs) := fun {ws vs} r => by
  unfold startE L2.start
  refine ⟨by simp [r.length], fun i w e => ?_⟩
  have hi : i < ws.length := by
    by_cases hi : i < ws.length
    · exact hi
    · rw [List.getElem?_append_right (by simpa using hi), List.getElem?_replicate] at e
      split at e <;> cases e
  rw [List.getElem?_append_left (by simpa using hi), List.getElem?_map] at e
  cases ew : ws[i]? with
  | none => rw [ew] at e; cases e
  | some w' =>
    rw [ew] at e
    obtain rfl : w' = w := by simpa using e
    obtain ⟨v, ev, rv⟩ := r.get ew
    refine ⟨v, ?_, rv⟩
    have hv : i < vs.length := (List.getElem?_eq_some_iff.mp ev).1
    rw [List.getElem?_append_left (by simpa using hv), List.getElem?_map, ev]
    rfl
theorem step_eq {T : Tb} {m : Nat} {low : Cal} {lam : Option Cal} {x : Str} {ws : List W} {E : Hh} {r : Rz W} (h : T.step m low lam x ws E = some r) : ∃ d, T.fn x = some d ∧ ws.length = d.ps.length ∧ ends (bodyA (T.pgOf low) m (T.gmOf m low lam d) (defBody d.st) (startE d.N ws) E) = some r := by
  unfold Tb.step at h
  split at h
  · rename_i d hd
    split at h
    · exact ⟨d, hd, by assumption, h⟩
    · cases h
  · cases h
abbrev FnsOk (M : Md) (base : Heap) (T : Tb) (n : Nat) (c : Cal) : Prop := ∀ x d f fd, T.fn x = some d → DefOk M base x d f fd → FnOk M.P M.w M.K M.mg base (L2N.CX M.P M.w) n f fd d.ps (spOf M (c x))
theorem has_of {T : Tb} {base : Heap} {low : Cal} {n : Nat} (ok : TbOk M base T) (h : FnsOk M base T n low) {Y : Cx} (h1 : Y.prog = M.P) (h2 : Y.w = M.w) (h3 : Y.K = M.K) (h4 : Y.mg = M.mg) (h5 : Y.base = base) (hr : Room n Y.A) : Has M (T.pgOf low) Y := ⟨fun y hy => by
  obtain ⟨d', hd'⟩ := Option.isSome_iff_exists.mp (show (T.fn y).isSome = true from hy)
  obtain ⟨⟨f', fd', D'⟩, hdb⟩ := ok.fn y d' hd'
  refine ⟨n, f', fd', d'.ps, ?_, hr, by rw [h4]; exact D'.m, by rw [h3]; exact D'.kp, by rw [h3]; exact D'.b, hdb⟩
  rw [h1, h2, h3, h4, h5]
  exact h y d' f' fd' hd' D'⟩
theorem noParams_ok {a : Arguments} (h : noParams a = true) : a = ⟨[], [], none, [], [], none, []⟩ := by
  unfold noParams at h
  split at h
  · rfl
  · cases h
theorem step_ok {T : Tb} {m n : Nat} {base : Heap} {low : Cal} {lam : Option Cal} (ok : TbOk M base T) (hlow : FnsOk M base T n low) (hlam : ∀ l, lam = some l → ∃ k, n = k + 2 ∧ FnsOk M base T k l) : FnsOk M base T (n + 1) (T.step m low lam) := fun x d f fd hd D => by
  obtain ⟨qual, oc, od, kV, doc, pm, an, cdv, ct, osl, rfl, lk, hcd, tb⟩ := D.F
  refine fn_of lk hcd D.S (fun vs H Q E ⟨ι, E0, ws, R, rw', h⟩ => ?_) fun A outer s H vs Q E hr ⟨ι, E0, ws, R, rw', h⟩ => ?_
  · have z : ws.length = d.ps.length := by
      rcases h with ⟨w, E', e, _⟩ | ⟨y, E', e, _⟩
      all_goals
        obtain ⟨d', hd', hl, _⟩ := step_eq e
        rw [hd] at hd'
        cases hd'
        exact hl
    rw [← rw'.length]
    exact z
  · let X : Cx := cxOf (L2N.CX M.P M.w) M.P M.w M.K M.mg base d.N qual (defScope d.st) f cdv A outer s H E
    let W' : WX := fun cls d _ H => E cls d H
    have at' : At M (T.gmOf m low lam d) W' X := ⟨rfl, rfl, rfl, rfl, rfl, D.S.nd, rfl, D.S.kind, rfl, by have := hr.un; show (A.deeper _).units + 65 < _; omega, L2N.takes_of rfl rfl rfl rfl, passes_of rfl, fun _ _ => rfl⟩
    have i : In M (T.pgOf low) (T.gmOf m low lam d) W' X := ⟨at', has_of ok hlow rfl rfl rfl rfl rfl hr, ok.glob low, fun _ _ _ _ _ h => h, fun e c hc0 => by
      have hc : (match lam with
        | some l => T.lamH m d (T.pgOf low) (T.pgOf l)
        | none => fun _ => none) e = some c := hc0
      clear hc0
      cases el : lam with
      | none => rw [el] at hc; cases hc
      | some l =>
        rw [el] at hc
        dsimp only at hc
        obtain ⟨k, rfl, hl⟩ := hlam l el
        unfold Tb.lamH at hc
        split at hc
        · split at hc
          · rename_i hx
            obtain ⟨rfl, h2, h3, h4, h5⟩ := hx
            obtain rfl := Option.some.inj hc
            obtain rfl := noParams_ok h4
            exact pe_lamG (k := k) at' (ok.glob low) (ok.catch_ ⟨x, d, hd, h2⟩ k) (tb h2) hr h5 h3 (fun _ => rfl) (fun _ _ _ _ _ => rfl) (fun A' hr' Y y1 y2 y3 y4 y5 y6 => has_of ok hl y1 y2 y3 y4 y5 (by rw [y6]; exact hr')) (ok.glob l)
          · cases hc
        · cases hc⟩
    refine ⟨_, bodyA_ok (n := m) i (defBody d.st), ι, E0, startE d.N ws, R, startE_ok rw', ?_⟩
    have key : ∀ r, T.step m low lam x ws E0 = some r → ends (bodyA (T.pgOf low) m (T.gmOf m low lam d) (defBody d.st) (startE d.N ws) E0) = some r := fun r e => by
      obtain ⟨d', hd', _, z⟩ := step_eq e
      rw [hd] at hd'
      cases hd'
      exact z
    rcases h with ⟨w, E', e, k⟩ | ⟨y, E', e, k⟩
    · have z := key _ e
      unfold ends at z
      split at z
      · rename_i σ1 E1 eb
        cases z
        exact .inl ⟨_, _, eb, fun ι' H' x' R' σ' rs' => k ι' H' .non x' R' rfl⟩
      · rename_i w1 E1 eb
        cases z
        exact .inl ⟨_, _, eb, fun ι' H' x' R' v rv => k ι' H' v x' R' rv⟩
      · cases z
      · cases z
    · have z := key _ e
      unfold ends at z
      split at z
      · cases z
      · cases z
      · rename_i y1 E1 eb
        cases z
        exact .inr ⟨_, _, eb, fun ι' H' x' R' => k ι' H' x' R'⟩
      · cases z
theorem zero_ok {T : Tb} {base : Heap} {n : Nat} : FnsOk M base T n (fun _ _ _ => none) := fun x d f fd hd D => by
  have no : ∀ vs H Q E, ¬ spOf M (fun _ _ => none) vs H Q E := fun vs H Q E ⟨ι, E0, ws, _, _, h⟩ => by
    rcases h with ⟨_, _, e, _⟩ | ⟨_, _, e, _⟩ <;> cases e
  exact ⟨fun vs H Q E h => absurd h (no vs H Q E), fun A outer s H args us vs Q E _ _ _ _ h => absurd h (no vs H Q E)⟩
/-- THE RULE: each def of the module does what its body's act does -/
theorem fn_ok {T : Tb} {m : Nat} {base : Heap} (ok : TbOk M base T) : ∀ n, FnsOk M base T n (T.call m n)
  | 0 => zero_ok
  | 1 => step_ok ok zero_ok fun l h => (nomatch h)
  | 2 => step_ok ok (fn_ok ok 1) fun l h => (nomatch h)
  | n + 3 => step_ok ok (fn_ok ok (n + 2)) fun l h => ⟨n, rfl, by cases h; exact fn_ok ok n⟩
end G

set_option Elab.async false
set_option linter.all false
set_option maxRecDepth 100000
set_option maxHeartbeats 4000000
namespace G
open PySem L2 PySem.Spec PyProof.Rows
variable {M : Md} {H H' H1 H2 : Hp} {ι ι' ι1 ι2 : List Addr} {X : Cx} {W' : WX}
/-! ### raise of an error that bears a number -/
/-- the promise of an __init__ that keeps one value -/
def spIni (K : PySem.W.Frag) : Sp := fun vs H Q _ => ∃ (a C : Addr) (v : V), vs = [.ref a, v] ∧ OexC K C ∧ PySem.W.findIn K (.ref C) "limit" = some none ∧ H a = some (exo a C none) ∧
  ∀ dx, H dx = none → dx ≠ a → Q .non (upd (upd H dx (exd dx [("limit", v)])) a (exo a C (some dx)))
theorem pmk_num {CX : CXT} {x : Str} {e : Expr} {es : List Expr} {ta : TA} {p pos : Pos} {C fI : Addr} {k : Nat} {fd : FuncData} {ps : List Str} {sp : Sp} (T : OexC X.K C) (iC : PySem.W.findIn X.K (.ref C) "__init__" = some (some (.ref fI))) (tI : PySem.W.typeIn X.K (.ref fI) = some (.type "function"))
    (F1 : FnOk X.prog X.w X.K X.mg X.base CX k fI fd ps sp) (hr : Room (k + 1) X.A) (hb : Binds X.K fd ps []) (hx : Passes CX X (fun _ _ _ => False)) (hg : Gl X x) (hm : X.mg x = some (.ref C)) (ha : PA X (e :: es) ta)
    (hdb : (x == ("__debug__" : Str)) = false) (he : starEach (e :: es) X.env = (false, eval e X.env) :: starEach es X.env) (hpl : (backTo pos (starEach es X.env)).any (·.1) = false) :
    L2N.PMk X (.Call (.Name x p) (e :: es) [] pos) (tMkO C sp [] ta) := by
  intro pins s σ H Q I h
  obtain ⟨nm, q, N, bs, bm, sn, sub, ab, col, dd, k0, k1, k2, k3, k5, hC, hbm⟩ := T.cls
  refine wpAny_Call_Name_kw (ld_glob I hg hm ?_ hdb)
  refine PySem.W.callWith_K (h₀ := X.base) I.ok.mod.kin T.kC (thn (ha.run pos pins s σ H _ I h) fun us s1 ⟨vs, H1, I1, r1, hz, q1⟩ => ⟨I1.kIn, ?_⟩) he hpl
  show wpAny _ _ (call (.ref C) us) _ _ _
  obtain ⟨hp, g, dr, tk, os⟩ := s1
  have big : hp.objs.size ≤ hp.objs.size + 1 := Nat.le_succ _
  have gone : H1 (hp.objs.size + 1) = none := I1.hok.fresh big
  have want := q1 (hp.objs.size + 1) gone
  rw [List.append_nil] at want
  have old : ∀ b o, hp.get? b = some o → ((hp.push (PySem.W.kdv_tup us)).push (PySem.HandSPX.excO C hp.objs.size)).get? b = some o := fun b o e => Heap.get?_push_of_some _ (Heap.get?_push_of_some _ e)
  have made : ((hp.push (PySem.W.kdv_tup us)).push (PySem.HandSPX.excO C hp.objs.size)).get? (hp.objs.size + 1) = some (PySem.HandSPX.excO C hp.objs.size) := by heap_get
  have I2 : Inv X pins σ (upd H1 (hp.objs.size + 1) (exo (hp.objs.size + 1) C none)) ⟨(hp.push (PySem.W.kdv_tup us)).push (PySem.HandSPX.excO C hp.objs.size), g, dr, tk, os⟩ :=
    I1.laid (t' := tk) (a := hp.objs.size + 1) (o := exo (hp.objs.size + 1) C none) (h' := (hp.push (PySem.W.kdv_tup us)).push (PySem.HandSPX.excO C hp.objs.size)) old big (exo_ok made)
  have r2 : Vals (V.ref (hp.objs.size + 1) :: vs) (Value.ref (hp.objs.size + 1) :: us) := .cons rfl r1
  have len2 : (Value.ref (hp.objs.size + 1) :: us ++ []).length = ps.length := by
    have e := r2.length
    rw [F1.len _ _ _ _ want] at e
    rw [List.append_nil]
    exact e.symm
  have few' : us.length ≤ sizeLine := by
    rw [← Paired.length r1, sizeLine_eq]
    omega
  have b2 := hb _ (Value.ref (hp.objs.size + 1) :: us) I2.kIn len2
  rw [List.append_nil] at b2
  refine wpAny_call (PySem.HandSPX.call_own F.excBase_ValueError (fun Y => PySem.HandSPX.refsVE_contains Y bm hbm) (I1.kIn _ _ hC) (PySem.W.looks_findIn I1.kIn iC) (fun self => PySem.W.bind_fn I1.kIn self tI) few'
    (codeAny_mono (F1.run _ X.stack _ _ ⟨Value.ref (hp.objs.size + 1) :: us, []⟩ (Value.ref (hp.objs.size + 1) :: us) _ _ (fun _ _ _ => False) (hr.make C us []) (I2.env0.make C us []) b2 r2 want) fun r s' back => ?_))
  cases r with
  | error er => exact hx pins σ _ _ er s' I2 back
  | ok fl =>
    cases fl with
    | ret u =>
      obtain ⟨v, H2, os2, bare2, un2, hok2, rv, ev, d, fs, ea, ed, hd1, q2⟩ := back
      subst ev
      obtain ⟨h2, g2, d2, t2, os'⟩ := s'
      obtain ⟨t0, G, J, kG, ge, hoe, na⟩ := mk_end0 (d2 := d2) (t2 := t2) I1 big old un2 hok2 os2 bare2 ea ed hd1
      refine ⟨rv, hp.objs.size + 1, _, _, ⟨G, g2, d2, t2, os'⟩, _, .ref C, some d, rfl, J, kG, ge, hoe, ⟨rfl, rfl, fun vs hv => ?_⟩, rfl, rfl, na, rfl, bare2, raises_own T.exC T.tyC, q2⟩
      cases hv
      rfl
    | next => exact False.elim back
    | brk => exact False.elim back
    | cont => exact False.elim back
/-- what is told of a class of errors that bear a limit -/
structure LowM (M : Md) (base : Heap) (x : Str) (C : Addr) : Prop where
  mg : M.mg x = some (.ref C)
  oex : OexC M.K C
  no : PySem.W.findIn M.K (.ref C) "limit" = some none
  ini : ∃ fI fd ps, PySem.W.findIn M.K (.ref C) "__init__" = some (some (.ref fI)) ∧ PySem.W.typeIn M.K (.ref fI) = some (.type "function") ∧ FnOk M.P M.w M.K M.mg base (L2N.CX M.P M.w) 1 fI fd ps (spIni M.K) ∧ Binds M.K fd ps []
  ga : PySem.W.findIn M.K (.ref C) "__getattribute__" = some (some (.builtin "BaseException.__getattribute__"))
  gg : PySem.W.findIn M.K (.ref C) "__getattr__" = some none
  exC : PySem.W.subIn M.K (.ref C) (.type "BaseException") = some true
  hd : PySem.W.hasDictIn M.K C = true
  te : PySem.W.exmOne M.K (.ref C) (.ref C) = some true
theorem SE.mono {c : Act W} {σ : L2.St} {Q Q' : VK} (i : ∀ v H, Q v H → Q' v H) (h : SE M W' c σ H Q) : SE M W' c σ H Q' := by
  obtain ⟨ι, E, σE, R, rs, k⟩ := h
  exact ⟨ι, E, σE, R, rs, k.imp fun w E' g => fun ι' H' v x' R' rv => i v H' (g ι' H' v x' R' rv)⟩
/-- raise x(e) -/
theorem ps_raiseN {x : Str} {p pos pos2 : Pos} {e : Expr} {c : Act W} {C : Addr} (hc : X.calm = true) (tk : L2N.Takes X W') (aP : X.prog = M.P) (aw : X.w = M.w) (aK : X.K = M.K) (am : X.mg = M.mg) (L : LowM M X.base x C) (hr : Room 2 X.A) (hg : Gl X x) (hd : (x == ("__debug__" : Str)) = false) (hpl : plainArg e = true) (he : PE X e (SE M W' c)) :
    PS X (.Raise (some (.Call (.Name x p) [e] [] pos)) none pos2) (fun _ σ H => SE M W' c σ H fun v H1 => ∀ dx H2, (∀ b o, H1 b = some o → H2 b = some o) → H2 dx = some (.xd [("limit", v)]) → W' (.ref C) (some dx) σ H2) := by
  obtain ⟨fI, fd, ps, iC, tI, F1, hb⟩ := L.ini
  have F2 : FnOk X.prog X.w X.K X.mg X.base (L2N.CX X.prog X.w) 1 fI fd ps (spIni X.K) := by
    rw [aP, aw, aK, am]
    exact F1
  have tn : L2N.Takes X (fun cls d _ H => False) := fun u s' ⟨a, B, sI, pins, σ, H, cls, d, q⟩ => by
    obtain ⟨_, _, _, _, _, _, _, _, z⟩ := q
    exact z.elim
  refine PS.imp (L2N.ps_raise hc tk (pmk_num (by rw [aK]; exact L.oex) (by rw [aK]; exact iC) (by rw [aK]; exact tI) F2 hr (by rw [aK]; exact hb) (L2N.passes_call tn fun _ _ _ _ h => h.elim) hg (by rw [am]; exact L.mg) (pa_cons he pa_nil (starEach_cons hpl)) hd (starEach_cons hpl) rfl)) fun D σ H h => ?_
  refine SE.mono (fun v H1 k => ?_) h
  refine ⟨by simp, fun a ha => ⟨a, C, v, rfl, by rw [aK]; exact L.oex, by rw [aK]; exact L.no, upd_same, fun dx hdx hne => ⟨rfl, dx, _, upd_same, (upd_ne hne).trans upd_same, ?_, ?_⟩⟩⟩
  · rw [upd_ne hne] at hdx
    exact hdx
  · rw [upd_ne hne] at hdx
    refine k dx _ (fun b o e => ?_) upd_same
    have b1 : b ≠ a := ne_of_none e ha
    have b2 : b ≠ dx := ne_of_none e hdx
    rw [upd_ne b2, del_ne b1, upd_ne b1, upd_ne b2, upd_ne b1]
    exact e
/-! ### e.limit, e the error that is handled -/
theorem pe_lim {a : Addr} {oe : Obj} {cls : Value} {d : Option Addr} {pn : List (Addr × Obj)} {e : Expr} {te : TE} {pos : Pos} {C : Addr} {x : Str} {base : Heap} (aK : X.K = M.K) (L : LowM M base x C) (hz : Zc cls d oe) (hf : ∃ vs, oe.data = .fields vs) (he : PE (X.suite a ((a, oe) :: pn)) e te)
    (hb : attributeBase e "limit" X.env (eval e X.env) = eval e X.env) :
    PE (X.suite a ((a, oe) :: pn)) (.Attribute e "limit" pos) (fun σ H Q => te σ H fun x H1 => x = .ref a ∧ cls = .ref C ∧ ∃ (dd : Addr) (v : V), d = some dd ∧ H1 dd = some (.xd [("limit", v)]) ∧ Q v H1) := by
  refine ⟨fun pins s σ H Q I h => ?_⟩
  refine attr_of hb (thn (he.run pins s σ H _ I h) fun u s1 hh => ?_)
  obtain ⟨y, H1, I1, ry, rfl, rfl, dd, v, rfl, ea, q⟩ := hh
  obtain rfl : u = Value.ref a := ry
  obtain ⟨ha, _⟩ := I1.pin (a, oe) (List.mem_append_left _ List.mem_cons_self)
  obtain ⟨vs, hd⟩ := hf
  have hx : ObjOk X.prog X.w H1 s1.heap dd (.xd [(("limit" : Str), v)]) := I1.hok dd _ ea
  obtain ⟨mA, hns, hr⟩ := hx
  obtain ⟨od, ho, hl⟩ := lookIn_ns hns
  have l : List.lookup ("limit" : Str) [(("limit" : Str), v)] = some v := by simp [List.lookup]
  obtain ⟨u, hu, ru⟩ := L2.RelO.some_of (v := v) (o := mA "limit") (by rw [← l]; exact hr "limit")
  have J : PySem.W.InstAt s1.heap a oe C (some od) := ⟨ha, hz.1, by unfold PySem.W.notCls; rw [hd] <;> rfl, by rw [hz.2]; exact ho⟩
  refine HandSPX.exc_get I1.kIn J (by rw [show (X.suite a ((a, oe) :: pn)).K = M.K from aK]; exact L.ga) (by rw [show (X.suite a ((a, oe) :: pn)).K = M.K from aK]; exact L.gg) (by rw [show (X.suite a ((a, oe) :: pn)).K = M.K from aK]; exact L.exC) ?_ (handed_of ru) ⟨v, H1, I1.tok _, ru, q⟩
  exact PySem.W.findObj_own (by rw [show (X.suite a ((a, oe) :: pn)).K = M.K from aK]; exact L.hd) (by rw [show (X.suite a ((a, oe) :: pn)).K = M.K from aK]; exact L.no) rfl (by rw [hl, hu])
end G

set_option Elab.async false
set_option linter.all false
set_option maxRecDepth 100000
set_option maxHeartbeats 4000000
namespace G
open PySem L2 PySem.Spec PyProof.Rows
variable {M : Md} {H H' H1 H2 : Hp} {ι ι' ι1 ι2 : List Addr} {X : Cx} {W' : WX}
/-! ### what a call leaves behind is cut, if nothing that came or stood names it -/
mutual
def clW (n : Nat) : W → Bool
  | .ref i => Nat.blt i n
  | .tup ws => clWs n ws
  | _ => true
def clWs (n : Nat) : List W → Bool
  | [] => true
  | w :: ws => clW n w && clWs n ws
end
def clNs (n : Nat) : List (W × W) → Bool
  | [] => true
  | p :: r => clW n p.1 && clW n p.2 && clNs n r
def clO (n : Nat) : O → Bool
  | .lst ws => clWs n ws
  | .slst ws => clWs n ws
  | .dK kvs => clWs n (kvs.map (·.2))
  | .sdK kvs => clWs n (kvs.map (·.2))
  | .dN kvs => clNs n kvs
  | .sdN kvs => clNs n kvs
  | .exc _ => true
  | .cup _ => true
  | .txs _ => true
def clS (n : Nat) : Sg → Bool
  | [] => true
  | none :: r => clS n r
  | some w :: r => clW n w && clS n r
def clE (n : Nat) : Hh → Bool
  | [] => true
  | o :: r => clO n o && clE n r
mutual
theorem RelW.takeI {n : Nat} : ∀ {w : W} {v : V}, clW n w = true → RelW M H ι w v → RelW M H (ι.take n) w v
  | .non, _, _, h => h
  | .bl _, _, _, h => h
  | .int _, _, _, h => h
  | .str _, _, _, h => h
  | .fn _, _, _, h => h
  | .ty _, _, _, h => h
  | .ref i, v, c, ⟨a, e, hv⟩ => ⟨a, by rw [List.getElem?_take_of_lt (Nat.le_of_ble_eq_true c)]; exact e, hv⟩
  | .tup ws, v, c, ⟨a, vs, e, t, r⟩ => ⟨a, vs, e, t, RelWs.takeI c r⟩
theorem RelWs.takeI {n : Nat} : ∀ {ws : List W} {vs : List V}, clWs n ws = true → RelWs M H ι ws vs → RelWs M H (ι.take n) ws vs
  | [], _, _, h => h
  | w :: ws, _, c, ⟨v, r, e, h1, h2⟩ => by
    obtain ⟨c1, c2⟩ := Bool.and_eq_true_iff.mp (show (clW n w && clWs n ws) = true from c)
    exact ⟨v, r, e, RelW.takeI c1 h1, RelWs.takeI c2 h2⟩
end
theorem paired_take {n : Nat} : ∀ {kvs : List (W × W)} {xs : List (Addr × V × Value)}, clNs n kvs = true →
    Paired (fun p q => (RelW M H ι p.1 (.ref q.1) ∧ kOk p.1 = true ∧ (nk p.1).depth ≤ 8) ∧ RelW M H ι p.2 q.2.1 ∧ RelV q.2.1 q.2.2) kvs xs → Paired (fun p q => (RelW M H (ι.take n) p.1 (.ref q.1) ∧ kOk p.1 = true ∧ (nk p.1).depth ≤ 8) ∧ RelW M H (ι.take n) p.2 q.2.1 ∧ RelV q.2.1 q.2.2) kvs xs := fun {kvs xs} c h => by
  induction h with
  | nil => exact .nil
  | cons h1 _ ih =>
    obtain ⟨c1, c2⟩ := Bool.and_eq_true_iff.mp (show (clW n _ && clW n _ && clNs n _) = true from c)
    obtain ⟨c3, c4⟩ := Bool.and_eq_true_iff.mp c1
    obtain ⟨⟨a1, a2⟩, a3, a4⟩ := h1
    exact .cons ⟨⟨RelW.takeI c3 a1, a2⟩, RelW.takeI c4 a3, a4⟩ (ih c2)
theorem RelO.takeI {n : Nat} {a : Addr} {o : O} (c : clO n o = true) (h : RelO M H ι a o) : RelO M H (ι.take n) a o := by
  cases o with
  | lst ws => obtain ⟨vs, h1, h2⟩ := h; exact ⟨vs, h1, RelWs.takeI c h2⟩
  | slst ws => obtain ⟨vs, h1, h2⟩ := h; exact ⟨vs, h1, RelWs.takeI c h2⟩
  | dK kvs => obtain ⟨vs, h1, h2⟩ := h; exact ⟨vs, h1, RelWs.takeI c h2⟩
  | sdK kvs => obtain ⟨vs, od, h1, h2⟩ := h; exact ⟨vs, od, h1, RelWs.takeI c h2⟩
  | dN kvs => obtain ⟨vs, h1, h2, h3, h4, h5⟩ := h; exact ⟨vs, h1, h2, h3, h4, paired_take c h5⟩
  | sdN kvs => obtain ⟨vs, od, h1, h2, h3, h4, h5⟩ := h; exact ⟨vs, od, h1, h2, h3, h4, paired_take c h5⟩
  | exc b => exact h
  | cup j => exact h
  | txs xs => exact h
theorem clE_at {n : Nat} : ∀ {E : Hh} {i : Nat} {o : O}, clE n E = true → E[i]? = some o → clO n o = true
  | [], _, _, _, e => by cases e
  | u :: r, 0, o, c, e => by
    cases e
    exact (Bool.and_eq_true_iff.mp (show (clO n u && clE n r) = true from c)).1
  | u :: r, i + 1, o, c, e => clE_at (Bool.and_eq_true_iff.mp (show (clO n u && clE n r) = true from c)).2 e
theorem clS_at {n : Nat} : ∀ {σ : Sg} {i : Nat} {w : W}, clS n σ = true → σ[i]? = some (some w) → clW n w = true
  | [], _, _, _, e => by cases e
  | none :: r, 0, w, c, e => by cases e
  | some u :: r, 0, w, c, e => by
    cases e
    exact (Bool.and_eq_true_iff.mp (show (clW n u && clS n r) = true from c)).1
  | none :: r, i + 1, w, c, e => clS_at (show clS n r = true from c) e
  | some u :: r, i + 1, w, c, e => clS_at (Bool.and_eq_true_iff.mp (show (clW n u && clS n r) = true from c)).2 e
theorem take_at {α : Type} {l : List α} {n i : Nat} {x : α} (e : (l.take n)[i]? = some x) : l[i]? = some x ∧ i < n := by
  by_cases h : i < n
  · rw [List.getElem?_take_of_lt h] at e
    exact ⟨e, h⟩
  · rw [List.getElem?_eq_none (by rw [List.length_take]; omega)] at e
    cases e
theorem Rel.takeI {n : Nat} {E : Hh} (R : Rel M ι E H) (c : clE n (E.take n) = true) : Rel M (ι.take n) (E.take n) H :=
  ⟨by rw [List.length_take, List.length_take, R.len], fun i j a o u h1 h2 e1 e2 m1 m2 => R.inj i j a o u (take_at h1).1 (take_at h2).1 (take_at e1).1 (take_at e2).1 m1 m2, fun i o e => by
    obtain ⟨e1, hi⟩ := take_at e
    obtain ⟨a, ea, ro⟩ := R.obj i o e1
    exact ⟨a, by rw [List.getElem?_take_of_lt hi]; exact ea, RelO.takeI (clE_at c e) ro⟩, R.tabs⟩
theorem RelS.takeI {n : Nat} {σE : Sg} {σ : L2.St} (h : RelS M H ι σE σ) (c : clS n σE = true) : RelS M H (ι.take n) σE σ := ⟨h.1, fun i w e => by
  obtain ⟨v, e1, r⟩ := h.2 i w e
  exact ⟨v, e1, RelW.takeI (clS_at c e) r⟩⟩
/-- what comes of a call, cut to the n objects that stood ahead of it -/
def cutR (n : Nat) : Option (Rz W) → Option (Rz W)
  | some (.ok w E) => match clW n w && clE n (E.take n) with
    | true => some (.ok w (E.take n))
    | false => some (.ok w E)
  | some (.ex x E) => match clE n (E.take n) with
    | true => some (.ex x (E.take n))
    | false => some (.ex x E)
  | none => none
def cutC (c : Cal) : Cal := fun x ws E => cutR E.length (c x ws E)
theorem ext_take {E : Hh} (R : Rel M ι E H) (x : Ext M ι H ι' H') : ι'.take E.length = ι := by
  obtain ⟨t, rfl⟩ := x.pre
  rw [← R.len, List.take_left]
theorem ext_cut {E : Hh} (R : Rel M ι E H) (x : Ext M ι H ι' H') : Ext M ι H (ι'.take E.length) H' := by
  rw [ext_take R x]
  exact ⟨List.prefix_refl _, x.2, x.3⟩
theorem cut_imp {c : Cal} {x : Str} : ∀ vs H Q Ex, spOf M (cutC c x) vs H Q Ex → spOf M (c x) vs H Q Ex := fun vs H Q Ex ⟨ι, E, ws, R, rw', h⟩ => by
  refine ⟨ι, E, ws, R, rw', ?_⟩
  unfold cutC at h
  cases q : c x ws E with
  | none =>
    rw [q] at h
    rcases h with ⟨_, _, e, _⟩ | ⟨_, _, e, _⟩ <;> cases e
  | some r =>
    rw [q] at h
    cases r with
    | ok w E1 =>
      refine .inl ⟨w, E1, rfl, ?_⟩
      cases z : clW E.length w && clE E.length (E1.take E.length) with
      | false =>
        have e0 : cutR E.length (some (.ok w E1)) = some (.ok w E1) := by simp only [cutR, z]
        rw [e0] at h
        rcases h with ⟨w', E', e, k⟩ | ⟨_, _, e, _⟩
        · cases e
          exact k
        · cases e
      | true =>
        have e0 : cutR E.length (some (.ok w E1)) = some (.ok w (E1.take E.length)) := by simp only [cutR, z]
        rw [e0] at h
        obtain ⟨c1, c2⟩ := Bool.and_eq_true_iff.mp z
        rcases h with ⟨w', E', e, k⟩ | ⟨_, _, e, _⟩
        · cases e
          exact fun ι' H' v x' R' rv => k _ H' v (ext_cut R x') (R'.takeI c2) (RelW.takeI c1 rv)
        · cases e
    | ex y E1 =>
      refine .inr ⟨y, E1, rfl, ?_⟩
      cases z : clE E.length (E1.take E.length) with
      | false =>
        have e0 : cutR E.length (some (.ex y E1)) = some (.ex y E1) := by simp only [cutR, z]
        rw [e0] at h
        rcases h with ⟨_, _, e, _⟩ | ⟨w', E', e, k⟩
        · cases e
        · cases e
          exact k
      | true =>
        have e0 : cutR E.length (some (.ex y E1)) = some (.ex y (E1.take E.length)) := by simp only [cutR, z]
        rw [e0] at h
        rcases h with ⟨_, _, e, _⟩ | ⟨w', E', e, k⟩
        · cases e
        · cases e
          exact fun ι' H' x' R' => k _ H' (ext_cut R x') (R'.takeI z)
/-! ### a module's defs, each call cut -/
def Tb.callC (T : Tb) (m : Nat) : Nat → Cal
  | 0 => fun _ _ _ => none
  | 1 => cutC (T.step m (fun _ _ _ => none) none)
  | 2 => cutC (T.step m (T.callC m 1) none)
  | n + 3 => cutC (T.step m (T.callC m (n + 2)) (some (T.callC m n)))
theorem cut_ok {T : Tb} {base : Heap} {n : Nat} {c : Cal} (h : FnsOk M base T n c) : FnsOk M base T n (cutC c) := fun x d f fd hd D => FnOk.imp (h x d f fd hd D) cut_imp
/-- THE RULE, with cuts -/
theorem fn_okC {T : Tb} {m : Nat} {base : Heap} (ok : TbOk M base T) : ∀ n, FnsOk M base T n (T.callC m n)
  | 0 => zero_ok
  | 1 => cut_ok (step_ok ok zero_ok fun l h => (nomatch h))
  | 2 => cut_ok (step_ok ok (fn_okC ok 1) fun l h => (nomatch h))
  | n + 3 => cut_ok (step_ok ok (fn_okC ok (n + 2)) fun l h => ⟨n, rfl, by cases h; exact fn_okC ok n⟩)
/-! ### what statements do from a known state -/
def Gd (M : Md) (X : Cx) (D : Ends) (ss : List Stmt) (σE : Sg) (E : Hh) : Prop := ∃ t, PSs X ss t ∧ ∀ ι σ H, Rel M ι E H → RelS M H ι σE σ → t D σ H
def cutH (n : Nat) (σ : Sg) (E : Hh) : Hh := match clS n σ && clE n (E.take n) with
  | true => E.take n
  | false => E
theorem cutH_ok {n : Nat} {E : Hh} {σE : Sg} {σ : L2.St} (R : Rel M ι E H) (rs : RelS M H ι σE σ) : ∃ κ, Rel M κ (cutH n σE E) H ∧ RelS M H κ σE σ := by
  unfold cutH
  cases q : clS n σE && clE n (E.take n) with
  | false => exact ⟨ι, R, rs⟩
  | true =>
    obtain ⟨c1, c2⟩ := Bool.and_eq_true_iff.mp q
    exact ⟨ι.take n, R.takeI c2, rs.takeI c1⟩
def nxS (n : Nat) : Option (Rz Fl) → Option (Sg × Hh)
  | some (.ok (.nx σ) E) => some (σ, cutH n σ E)
  | _ => none
def rtS : Option (Rz Fl) → Option W
  | some (.ok (.rt w) _) => some w
  | _ => none
theorem gd_nx {P : Pg} {m n : Nat} {Γ : Gm} {D : Ends} {s : Stmt} {ss : List Stmt} {σE σ1 : Sg} {E E1 : Hh} (i : In M P Γ W' X) (h : nxS n (stepS P (rcs P m) Γ 30 s σE E) = some (σ1, E1)) (g : Gd M X D ss σ1 E1) : Gd M X D (s :: ss) σE E := by
  obtain ⟨t, ht, k⟩ := g
  refine ⟨_, pss_cons (stepS_ok (rcs_ok m) i 30 s) ht, fun ι σ H R rs => ?_⟩
  unfold nxS at h
  split at h
  · rename_i σ2 E2 e
    obtain ⟨rfl, rfl⟩ := Prod.mk.inj (Option.some.inj h)
    refine ⟨ι, E, σE, R, rs, .inl ⟨_, _, e, fun ι' H' x R' σ' rs' => ?_⟩⟩
    obtain ⟨κ, R2, rs2⟩ := cutH_ok R' rs'
    exact k κ σ' H' R2 rs2
  · cases h
theorem gd_rt {P : Pg} {m : Nat} {Γ : Gm} {D : Ends} {s : Stmt} {ss : List Stmt} {σE : Sg} {E : Hh} {w : W} (i : In M P Γ W' X) (h : rtS (stepS P (rcs P m) Γ 30 s σE E) = some w) (hD : ∀ ι H v, RelW M H ι w v → D.rt v H) : Gd M X D (s :: ss) σE E := by
  refine ⟨_, pss_cons (stepS_ok (rcs_ok m) i 30 s) (bodyA_ok (n := m) i ss), fun ι σ H R rs => ?_⟩
  unfold rtS at h
  split at h
  · rename_i w2 E2 e
    cases h
    exact ⟨ι, E, σE, R, rs, .inl ⟨_, _, e, fun ι' H' x R' v rv => hD _ _ _ rv⟩⟩
  · cases h
theorem gd_weak {D : Ends} {ss : List Stmt} {σE σ1 : Sg} {E E1 : Hh} (g : Gd M X D ss σ1 E1) (w : ∀ ι σ H, Rel M ι E H → RelS M H ι σE σ → ∃ κ, Rel M κ E1 H ∧ RelS M H κ σ1 σ) : Gd M X D ss σE E := by
  obtain ⟨t, ht, k⟩ := g
  refine ⟨t, ht, fun ι σ H R rs => ?_⟩
  obtain ⟨κ, R2, rs2⟩ := w ι σ H R rs
  exact k κ σ H R2 rs2
theorem in_def {T : Tb} {m n k : Nat} {low l : Cal} {qual : Str} {d : Fd} {f : Addr} {cdv : Value} {A : Around} {outer : List Env} {s : Shared} {H : Hp} {E : XK} (ok : TbOk M base T) (hx : ∃ x, T.fn x = some d) (S : FnScope d.N d.ps (defScope d.st)) (tb : d.lam = true → Tbd M base cdv (qual ++ ".<locals>.")) (hlow : FnsOk M base T n low) (hk : n = k + 2) (hl : FnsOk M base T k l) (hr : Room n (A.deeper (envOfC qual (defScope d.st) s.heap.objs.size f cdv))) :
    In M (T.pgOf low) (T.gmOf m low (some l) d) (fun cls d _ H => E cls d H) (cxOf (L2N.CX M.P M.w) M.P M.w M.K M.mg base d.N qual (defScope d.st) f cdv A outer s H E) := by
  let X : Cx := cxOf (L2N.CX M.P M.w) M.P M.w M.K M.mg base d.N qual (defScope d.st) f cdv A outer s H E
  let W' : WX := fun cls d _ H => E cls d H
  have at' : At M (T.gmOf m low (some l) d) W' X := ⟨rfl, rfl, rfl, rfl, rfl, S.nd, rfl, S.kind, rfl, by have := hr.un; show (A.deeper _).units + 65 < _; omega, L2N.takes_of rfl rfl rfl rfl, passes_of rfl, fun _ _ => rfl⟩
  refine ⟨at', has_of ok hlow rfl rfl rfl rfl rfl hr, ok.glob low, fun _ _ _ _ _ h => h, fun e c hc0 => ?_⟩
  have hc : T.lamH m d (T.pgOf low) (T.pgOf l) e = some c := hc0
  clear hc0
  subst hk
  unfold Tb.lamH at hc
  split at hc
  · split at hc
    · rename_i hx'
      obtain ⟨rfl, h2, h3, h4, h5⟩ := hx'
      obtain rfl := Option.some.inj hc
      obtain rfl := noParams_ok h4
      exact pe_lamG (k := k) at' (ok.glob low) (ok.catch_ (let ⟨y, e⟩ := hx; ⟨y, d, e, h2⟩) k) (tb h2) hr h5 h3 (fun _ => rfl) (fun _ _ _ _ _ => rfl) (fun A' hr' Y y1 y2 y3 y4 y5 y6 => has_of ok hl y1 y2 y3 y4 y5 (by rw [y6]; exact hr')) (ok.glob l)
    · cases hc
  · cases hc
end G

set_option Elab.async false
set_option linter.all false
set_option maxRecDepth 100000
set_option maxHeartbeats 4000000
namespace G
open PySem L2 PySem.Spec PyProof.Rows
variable {M : Md} {H H' H1 H2 : Hp} {ι ι' ι1 ι2 : List Addr} {X : Cx} {W' : WX}
/-! ### defs whose promise is told by hand, among the others -/
abbrev Ovr := Str → Option (Cal → List W → Hh → Option (Rz W))
def Tb.stepO (T : Tb) (ov : Ovr) (m : Nat) (low : Cal) (lam : Option Cal) : Cal := fun x ws E => match ov x with
  | some b => b low ws E
  | none => T.step m low lam x ws E
def Tb.callO (T : Tb) (ov : Ovr) (m : Nat) : Nat → Cal
  | 0 => fun _ _ _ => none
  | 1 => cutC (T.stepO ov m (fun _ _ _ => none) none)
  | 2 => cutC (T.stepO ov m (T.callO ov m 1) none)
  | n + 3 => cutC (T.stepO ov m (T.callO ov m (n + 2)) (some (T.callO ov m n)))
def OvOk (M : Md) (base : Heap) (T : Tb) (ov : Ovr) : Prop := ∀ x b, ov x = some b → ∀ n low, FnsOk M base T n low → ∀ d f fd, T.fn x = some d → DefOk M base x d f fd → FnOk M.P M.w M.K M.mg base (L2N.CX M.P M.w) (n + 1) f fd d.ps (spOf M (b low))
theorem stepO_ok {T : Tb} {ov : Ovr} {m n : Nat} {base : Heap} {low : Cal} {lam : Option Cal} (ok : TbOk M base T) (oo : OvOk M base T ov) (hlow : FnsOk M base T n low) (hlam : ∀ l, lam = some l → ∃ k, n = k + 2 ∧ FnsOk M base T k l) : FnsOk M base T (n + 1) (cutC (T.stepO ov m low lam)) := fun x d f fd hd D => by
  refine FnOk.imp (sp := spOf M (T.stepO ov m low lam x)) ?_ cut_imp
  cases e : ov x with
  | none =>
    have q : T.stepO ov m low lam x = T.step m low lam x := by
      unfold Tb.stepO
      rw [e]
    rw [q]
    exact step_ok ok hlow hlam x d f fd hd D
  | some b =>
    have q : T.stepO ov m low lam x = b low := by
      unfold Tb.stepO
      rw [e]
    rw [q]
    exact oo x b e n low hlow d f fd hd D
/-- THE RULE, with cuts, and with what is told by hand -/
theorem fn_okO {T : Tb} {ov : Ovr} {m : Nat} {base : Heap} (ok : TbOk M base T) (oo : OvOk M base T ov) : ∀ n, FnsOk M base T n (T.callO ov m n)
  | 0 => zero_ok
  | 1 => stepO_ok ok oo zero_ok fun l h => (nomatch h)
  | 2 => stepO_ok ok oo (fn_okO ok oo 1) fun l h => (nomatch h)
  | n + 3 => stepO_ok ok oo (fn_okO ok oo (n + 2)) fun l h => ⟨n, rfl, by cases h; exact fn_okO ok oo n⟩
/-! ### spaced = text.replace("\n", " ").replace("(", " ( ").replace(")", " ) ") -/
def rep3 (t : Str) : Str := Txt.replace (Txt.replace (Txt.replace t "\n" " ") "(" " ( ") ")" " ) "
theorem pst_set {i : Nat} {x : Str} {e : Expr} {te : TE} {p pos : Pos} (hN : X.N.Nodup) (hi : X.N[i]? = some x) (hx : Loc X.env.scope x) (he : PET X e te) (hs : swapsWith e (some (.Name x p)) pos.line X.env = pure false) (hf : X.fn x = true ∨ X.env.scope.names.lookup x = some .local) :
    PST X (.Assign [.Name x p] e pos) (tAsg te (gName i)) := by
  intro pins s σ H D h0 I h
  refine wpAny_Assign_Name (thn (he pins s σ H _ h0 I h) fun u s1 ⟨v, H1, I1, r1, q1⟩ => ?_) hs
  exact store_ok I1 hN hi hx r1 (fun s2 I2 => ⟨_, H1, I2, q1⟩) hf
/-- the context of a def's body that has no lambdas -/
theorem in_def0 {T : Tb} {m n : Nat} {low : Cal} {qual : Str} {d : Fd} {f : Addr} {cdv : Value} {A : Around} {outer : List Env} {s : Shared} {H : Hp} {E : XK} {base : Heap} (ok : TbOk M base T) (S : FnScope d.N d.ps (defScope d.st)) (hlow : FnsOk M base T n low) (hr : Room n (A.deeper (envOfC qual (defScope d.st) s.heap.objs.size f cdv))) :
    In M (T.pgOf low) (T.gmOf m low none d) (fun cls d _ H => E cls d H) (cxOf (L2N.CX M.P M.w) M.P M.w M.K M.mg base d.N qual (defScope d.st) f cdv A outer s H E) := by
  let X : Cx := cxOf (L2N.CX M.P M.w) M.P M.w M.K M.mg base d.N qual (defScope d.st) f cdv A outer s H E
  let W' : WX := fun cls d _ H => E cls d H
  have at' : At M (T.gmOf m low none d) W' X := ⟨rfl, rfl, rfl, rfl, rfl, S.nd, rfl, S.kind, rfl, by have := hr.un; show (A.deeper _).units + 65 < _; omega, L2N.takes_of rfl rfl rfl rfl, passes_of rfl, fun _ _ => rfl⟩
  exact ⟨at', has_of ok hlow rfl rfl rfl rfl rfl hr, ok.glob low, fun _ _ _ _ _ h => h, fun e c hc => (nomatch hc)⟩
end G

set_option Elab.async false
set_option linter.all false
set_option maxRecDepth 100000
set_option maxHeartbeats 4000000
namespace G
open PySem L2
def NTabS61 : List (String × List String) := [
  ("is_integer", ["value"]),
  ("is_between", ["value", "least", "most"]),
  ("is_amount", ["value"]),
  ("is_word", ["value"]),
  ("is_ascending", ["numbers", "one", "other"]),
  ("are_marks", ["value", "bounds", "many", "greatest", "mark"]),
  ("is_marked", ["value", "bounds"]),
  ("spelled", ["number", "text", "left"]),
  ("first_words", ["many", "taken", "found", "number", "told"]),
  ("parts_in", ["tree", "first", "_", "form"]),
  ("with_parts", ["tree", "kids", "kind", "rows", "row", "form"]),
  ("part_by", ["tree", "path", "part", "index"]),
  ("is_path", ["tree", "value", "part", "index", "kids"]),
  ("replaced_part", ["tree", "path", "part", "kids"]),
  ("placed_parts", ["tree", "into_rows", "found", "todo", "place", "path", "part", "kids", "index", "kid"]),
  ("size_of", ["tree", "size", "todo", "part"]),
  ("count_pieces", ["part", "pattern", "_"]),
  ("pattern_holes", ["pattern", "piece"]),
  ("is_piece", ["value", "bounds", "kind", "told"]),
  ("is_pattern", ["value", "holes", "bounds", "found", "piece", "hole"]),
  ("are_row_patterns", ["value", "holes", "bounds", "row"]),
  ("is_fill", ["value", "holes"]),
  ("is_binder_name", ["value", "holes", "bounds"]),
  ("is_node", ["value", "holes", "bounds", "kind"]),
  ("has_shape", ["value", "bounds"]),
  ("fits_within", ["value", "bounds", "size", "depth", "todo", "part", "holes", "pattern", "form", "kid"]),
  ("own_names", ["tree", "first", "pattern", "_", "piece"]),
  ("all_names", ["tree", "found", "todo", "part"]),
  ("is_tree", ["value"]),
  ("is_plain", ["value", "found", "_", "part", "name"]),
  ("binds_in", ["part", "index"]),
  ("binders_around", ["tree", "path", "found", "part", "at", "index"]),
  ("scoped_parts", ["tree", "into_rows", "found", "todo", "place"]),
  ("scoped_kids", ["place", "into_rows", "path", "part", "around", "inner", "kids", "index", "kid"]),
  ("nearest_of", ["around", "name", "binder", "bound"]),
  ("rows_place", ["maker"]),
  ("meaning_within", ["work", "around", "name", "tree", "makings", "word", "marks", "found", "place"]),
  ("words_free_in", ["work", "uses", "_", "part", "around", "name"]),
  ("fits_at", ["tree", "path", "brought", "bounds", "left"]),
  ("plain_or_wanting", ["work", "tree", "meant", "placed", "path", "part", "around", "found"]),
  ("plain_by", ["tree", "placed", "meant", "free", "binders", "words", "path", "part", "_", "word"]),
  ("renamed_plainly", ["tree", "path", "meant", "words", "kind", "word", "kids", "at", "kid"]),
  ("stepped_within", ["program", "result"]),
  ("is_value", ["tree"]),
  ("stepped", ["program", "kind", "kids", "at"]),
  ("worked_ahead", ["kind"]),
  ("stepped_part", ["program", "at", "kids", "result"]),
  ("applied", ["kids", "one", "two"]),
  ("reckoned", ["sign", "kids", "one", "two", "amount"]),
  ("reckoned_amount", ["sign", "one", "two"]),
  ("tested", ["kids", "one", "two", "three"]),
  ("put_for", ["tree", "name", "value", "kind", "kids", "kid"]),
  ("is_store", ["value", "cell", "word", "_"]),
  ("is_cell", ["value"]),
  ("is_open", ["value"]),
  ("is_deed", ["value"]),
  ("need_store", ["value"]),
  ("need_open", ["value"]),
  ("need_deed", ["value"]),
  ("need_deeds", ["value", "deed"]),
  ("need_most", ["value"]),
  ("worked_out", ["store", "open_tree"]),
  ("deed_done", ["store", "deed"]),
  ("train_done", ["store", "deeds"]),
  ("worked_within", ["store", "open_tree", "cells", "asked", "steps", "result", "tree", "word", "amount"]),
  ("end_told", ["result"]),
  ("behind_train", ["store", "deeds", "result", "deed"]),
  ("behind_deed", ["store", "deed"]),
  ("has_cell", ["store", "word", "cell", "_"]),
  ("behind_end", ["store", "deed", "end", "word", "amount"]),
  ("early_steps", ["open_tree", "known", "cells", "steps", "word", "path", "_", "step"]),
  ("early_done", ["open_tree", "known", "step", "behind"]),
  ("is_early_paper", ["open_tree", "known", "value", "steps", "told", "tree", "step"]),
  ("early_paper", ["open_tree", "known", "most", "steps", "tree", "step"]),
  ("cells_known", ["open_tree", "known", "free", "word", "amount"]),
  ("ready_step", ["open_tree", "known", "cells", "path", "_", "word"]),
  ("behind_step", ["open_tree", "known", "step", "word", "path", "brought"]),
  ("brought_early", ["open_tree", "cells", "word", "path", "brought"]),
  ("part_early", ["part", "cells", "word"]),
  ("folded", ["part", "_", "sign", "one", "two", "amount"]),
  ("words_asked", ["deed"]),
  ("words_of_deed", ["deed"]),
  ("are_apart", ["deed", "other_deed"]),
  ("are_unlike", ["deed", "words", "other_deed", "other_words"]),
  ("are_apart_in", ["store", "deed", "other_deed"]),
  ("exchanged_orders", ["deeds"]),
  ("orders_of", ["deeds", "words", "ahead", "index", "deed", "near", "orders", "_", "at", "order"]),
  ("next_ones", ["order", "ahead", "left", "index", "at"]),
  ("are_exchanged", ["deeds", "other_deeds", "order", "index"]),
  ("unlike_store", ["deed", "other_deed", "most", "words", "ends", "other_ends", "store", "behind"]),
  ("all_stores", ["words", "most", "stores", "word", "store", "amount"]),
  ("behind_both", ["store", "first", "first_ends", "second", "second_ends", "result"]),
  ("end_known", ["store", "deed", "ends", "asked", "end", "words", "cell"]),
  ("need_at", ["value", "deeds"]),
  ("need_words", ["value", "word"]),
  ("shown_late", ["store", "deeds", "open_tree"]),
  ("shown_behind", ["store", "deeds", "open_tree", "result"]),
  ("shown_early", ["store", "deeds", "at", "words", "open_tree", "result"]),
  ("with_amounts", ["open_tree", "words", "store", "word", "amount"]),
  ("unlike_tree", ["store", "deeds", "at", "words", "late", "early", "word", "amount", "_", "other"]),
  ("read_tree", ["text", "tree"]),
  ("opens_too_many", ["text", "many", "sign"]),
  ("tree_read", ["text", "spaced", "groups", "item", "group"]),
  ("group_read", ["group", "head", "rest", "item"]),
  ("named_told", ["head", "rest", "name", "item"]),
  ("row_told", ["rest"]),
  ("trees_told", ["items", "many", "item"]),
  ("tree_told", ["item", "kind", "told"]),
  ("binder_name_told", ["item", "kind", "told"]),
  ("name_told", ["item", "kind", "told"]),
  ("marked_told", ["text", "first", "marks", "mark"]),
  ("piece_told", ["item", "kind", "told", "head", "_", "rest"]),
  ("letters_told", ["text", "letter"]),
  ("are_figures", ["text", "figures", "figure"]),
  ("figures_told", ["text"]),
  ("_law_cup", ["_law_script", "_law_cell", "_law_great"]),
  ("_law_roll", ["_law_cup_here", "_law_many", "_law_found", "_law_deep"]),
  ("_law_some", ["_law_cup_here", "_law_things"]),
  ("_law_names_of", ["_law_e", "_law_some_here", "_law_labels", "_law_label", "_law_good"]),
  ("_law_error", ["_law_call", "_law_e"]),
  ("_law_bad_trees", ["_law_some_here"]),
  ("_law_bad_stores", ["_law_some_here"]),
  ("_law_limit", ["_law_call", "_law_e"]),
  ("_law_stores_right", ["_law_odd", "_law_other", "_law_words", "_law_tree"]),
  ("_law_trees_right", ["_law_odd", "_law_other", "_law_words"]),
  ("_law_deeds_right", ["_law_odd", "_law_other", "_law_deed", "_law_words"]),
  ("law", ["_law_script", "_law_cup_here", "_law_other", "_law_odd", "_law_deed", "_law_wide"])
]
def NTab61 : List (Str × List Str) := NTabS61.map fun p => (Str.ofString p.1, p.2.map Str.ofString)
def lamNs61 : List Str := ["_law_stores_right", "_law_trees_right", "_law_deeds_right", "law"]
def fdOf61 : Stmt → Option (Str × Fd)
  | .FunctionDef name args body d r t sc a b c => some (name, ⟨.FunctionDef name args body d r t sc a b c, (NTab61.lookup name).getD [], args.args.map (·.arg), lamNs61.contains name⟩)
  | _ => none
def fds61 : List (Str × Fd) := main61.filterMap fdOf61
def asg161 : Stmt → Option (Str × Expr)
  | .Assign [.Name x _] e _ => some (x, e)
  | _ => none
def tb061 : Tb := ⟨fun _ => none, fun _ => false, fun _ => false, fun _ => none, fun _ => none, Str.ofString "_law_error", fun _ _ => none⟩
def constsF61 : List (Str × W) := (main61.filterMap asg161).foldl (fun (p : List (Str × W)) (xe : Str × Expr) => match (rcs (tb061.pgOf fun _ _ _ => none) 20).ev ⟨[], [], fun _ => false, fun _ => none⟩ xe.2 [] [] with
  | some (.ok w E) => (xe.1, w) :: p
  | _ => p) []
def cstW61 : Expr → Option W
  | .Constant (.int i) _ _ => some (.int i)
  | .Constant (.str s) _ _ => some (.str s)
  | _ => none
def zipD61 : List (Option Expr) → List Expr → List (Str × W)
  | some (.Constant (.str s) _ _) :: ks, v :: vs => match cstW61 v with
    | some w => (s, w) :: zipD61 ks vs
    | none => zipD61 ks vs
  | _, _ => []
def dctsF61 : List (Str × List (Str × W)) := main61.filterMap fun
  | .Assign [.Name x _] (.Dict ks vs _) _ => some (x, zipD61 ks vs)
  | _ => none
end G

set_option Elab.async false
set_option linter.all false
set_option maxRecDepth 100000
set_option maxHeartbeats 4000000
namespace G
open PySem L2 PySem.Spec PyProof.Rows
def labs61 : List (Str × Str) := [("InvalidStore", "store value"), ("InvalidDeed", "deed value"), ("InvalidDeeds", "deeds value"), ("InvalidStep", "step value"), ("InvalidWords", "words value"), ("InvalidTree", "tree value"), ("InvalidNumber", "number value")]
def onx61 : Onx := fun x E => (labs61.lookup x).map fun s => (.str s, E)
def T61 : Tb := ⟨fun x => match fds61.lookup x with
  | some _ => some (.fn x)
  | none => consts61.lookup x, fun x => nonL61.contains x, fun x => clssX61.contains x, fun x => fds61.lookup x, fun x => dcts61.lookup x, "_law_error", onx61⟩
def fdAt61 (x : Str) : Fd := (fds61.lookup x).getD ⟨.Pass ⟨0, 0, 0, 0⟩, [], [], false⟩
end G

set_option Elab.async false
set_option linter.all false
set_option maxRecDepth 100000
set_option maxHeartbeats 4000000
namespace G
open PySem L2 PySem.Spec PyProof.Rows
variable {M : Md} {H H' H1 H2 : Hp} {ι ι' ι1 ι2 : List Addr} {X : Cx} {W' : WX}
def dTr61 : Fd := fdAt61 "tree_read"
def trN : List Str := ["text", "spaced", "groups", "item", "group"]
theorem trN_eq : dTr61.N = trN ∧ dTr61.ps = (["text"] : List Str) := ⟨by kernel_rfl, by kernel_rfl⟩
theorem fnTr61 : T61.fn "tree_read" = some dTr61 := by kernel_rfl
theorem noCell61 : (defScope dTr61.st).names.all (fun y => match y.2 with
  | .cell => false
  | _ => true) = true := by decide +kernel
def bTr61 (low : Cal) (ws : List W) (E : Hh) : Option (Rz W) := match ws with
  | [.str t] => if t.length ≤ 1000 then ends (bodyA (T61.pgOf low) 60 (T61.gmOf 60 low none dTr61) (defBody dTr61.st).tail [some (.str t), some (.str (rep3 t)), none, none, none] E) else none
  | _ => none
def ov61 : Ovr := fun x => if x = "tree_read" then some bTr61 else none
theorem bTr_eq {low : Cal} {ws : List W} {E : Hh} {r : Rz W} (h : bTr61 low ws E = some r) : ∃ t, ws = [.str t] ∧ t.length ≤ 1000 ∧ ends (bodyA (T61.pgOf low) 60 (T61.gmOf 60 low none dTr61) (defBody dTr61.st).tail [some (.str t), some (.str (rep3 t)), none, none, none] E) = some r := by
  unfold bTr61 at h
  split at h
  · rename_i t
    split at h
    · exact ⟨t, rfl, by assumption, h⟩
    · cases h
  · cases h
theorem ov61_ok {base : Heap} (ok : TbOk M base T61) : OvOk M base T61 ov61 := fun x b e n low hlow d f fd hd D => by
  unfold ov61 at e
  split at e
  · rename_i hx
    subst hx
    obtain rfl := Option.some.inj e
    obtain rfl : dTr61 = d := Option.some.inj (fnTr61.symm.trans hd)
    obtain ⟨qual, oc, od, kV, doc, pm, an, cdv, ct, osl, rfl, lk, hcd, tb⟩ := D.F
    have eN : dTr61.N = trN := trN_eq.1
    have eP : dTr61.ps = (["text"] : List Str) := trN_eq.2
    refine fn_ofT lk hcd D.S (fun y hy z => ?_) (by rw [eP]; decide) (fun vs H Q E ⟨ι, E0, ws, R, rw', h⟩ => ?_) fun A outer s H vs Q E hr ⟨ι, E0, ws, R, rw', h⟩ => ?_
    · have q := List.all_eq_true.mp noCell61 y hy
      rw [z] at q
      cases q
    · have z : ∃ t, ws = [.str t] := by
        rcases h with ⟨w, E', e, _⟩ | ⟨y, E', e, _⟩
        all_goals
          obtain ⟨t, rfl, _⟩ := bTr_eq e
          exact ⟨t, rfl⟩
      obtain ⟨t, rfl⟩ := z
      rw [← rw'.length, eP]
      rfl
    · have i := in_def0 (m := 60) (A := A) (outer := outer) (s := s) (H := H) (E := E) (f := f) (cdv := cdv) ok D.S hlow hr
      have z : ∃ t, ws = [.str t] ∧ t.length ≤ 1000 := by
        rcases h with ⟨w, E', e, _⟩ | ⟨y, E', e, _⟩
        all_goals
          obtain ⟨t, rfl, l, _⟩ := bTr_eq e
          exact ⟨t, rfl, l⟩
      obtain ⟨t, rfl, hl⟩ := z
      obtain ⟨v, r, rfl, rv, rr⟩ := rw'
      obtain rfl : r = [] := rr
      obtain rfl : v = .str t := rv
      have key : ∀ r, bTr61 low [.str t] E0 = some r → ends (bodyA (T61.pgOf low) 60 (T61.gmOf 60 low none dTr61) (defBody dTr61.st).tail [some (.str t), some (.str (rep3 t)), none, none, none] E0) = some r := fun r e => by
        obtain ⟨t', e1, _, z⟩ := bTr_eq e
        cases e1
        exact z
      have n0 : dTr61.N[0]? = some ("text" : Str) := by rw [eN]; rfl
      have n1 : dTr61.N[1]? = some ("spaced" : Str) := by rw [eN]; rfl
      have l0 : (defScope dTr61.st).names.lookup ("text" : Str) = some .local := by decide +kernel
      have l1 : (defScope dTr61.st).names.lookup ("spaced" : Str) = some .local := by decide +kernel
      refine ⟨_, psst_cons (pst_set (i := 1) D.S.nd n1 (.inl l1) (CwR.pet_replT (CwR.pet_replT (CwR.pet_replC (pv 0 n0 (.inl l0))))) rfl (.inr l1)) (PSsT.of (bodyA_ok (n := 60) i (defBody dTr61.st).tail)), ?_⟩
      have b1 := TK.replace_len t "\n" " "
      have b2 := TK.replace_len (Txt.replace t "\n" " ") "(" " ( "
      have k1 : (" " : Str).length = 1 := by decide +kernel
      have k2 : (" ( " : Str).length = 3 := by decide +kernel
      have k3 : (" ) " : Str).length = 3 := by decide +kernel
      rw [k1] at b1
      rw [k2] at b2
      have st : start dTr61.N [V.str t] = [some (.str t), none, none, none, none] := by rw [eN]; rfl
      rw [st]
      refine ⟨.str t, rfl, t, rfl, by rw [k1]; omega, _, rfl, by rw [k2]; omega, _, rfl, by rw [k3]; omega, ?_⟩
      refine ⟨ι, E0, [some (.str t), some (.str (rep3 t)), none, none, none], R, ⟨rfl, fun j w e => ?_⟩, ?_⟩
      · match j, e with
        | 0, e =>
          obtain rfl : W.str t = w := by simpa using e
          exact ⟨.str t, rfl, rfl⟩
        | 1, e =>
          obtain rfl : W.str (rep3 t) = w := by simpa using e
          exact ⟨.str (rep3 t), rfl, rfl⟩
        | 2, e => simp at e
        | 3, e => simp at e
        | 4, e => simp at e
        | j + 5, e => simp at e
      · rcases h with ⟨w, E', e, k⟩ | ⟨y, E', e, k⟩
        · have z := key _ e
          unfold ends at z
          split at z
          · rename_i σ1 E1 eb
            cases z
            exact .inl ⟨_, _, eb, fun ι' H' x' R' σ' rs' => k ι' H' .non x' R' rfl⟩
          · rename_i w1 E1 eb
            cases z
            exact .inl ⟨_, _, eb, fun ι' H' x' R' v rv => k ι' H' v x' R' rv⟩
          · cases z
          · cases z
        · have z := key _ e
          unfold ends at z
          split at z
          · cases z
          · cases z
          · rename_i y1 E1 eb
            cases z
            exact .inr ⟨_, _, eb, fun ι' H' x' R' => k ι' H' x' R'⟩
          · cases z
  · cases e
end G

set_option Elab.async false
set_option linter.all false
set_option maxRecDepth 100000
set_option maxHeartbeats 2000000
namespace G
open PySem PySem.Spec PyProof.Rows L2
theorem zip_lookup_some : ∀ {ps : List Str} {us : List Value} {n : Str}, us.length = ps.length → n ∈ ps → ((ps.zip us).lookup n).isSome = true
  | [], _, _, _, h => by cases h
  | p :: ps, [], _, h, _ => by cases h
  | p :: ps, u :: us, n, h, m => by
    show (((p, u) :: ps.zip us).lookup n).isSome = true
    rw [List.lookup_cons]
    cases q : n == p with
    | true => rfl
    | false =>
      have hm : n ∈ ps := by
        rcases List.mem_cons.mp m with e | e
        · rw [e, beq_self_eq_true] at q; cases q
        · exact e
      exact zip_lookup_some (by simpa using h) hm
theorem zip_filterMap : ∀ {ps : List Str} {us : List Value}, us.length = ps.length → ps.Nodup → ∀ pre : List (Str × Value), (∀ n ∈ ps, pre.lookup n = none) → ps.filterMap (fun n => ((pre ++ ps.zip us).lookup n).map (n, ·)) = ps.zip us
  | [], us, h, _, _, _ => by simp
  | p :: ps, [], h, _, _, _ => by cases h
  | p :: ps, u :: us, h, nd, pre, hp => by
    obtain ⟨n1, n2⟩ := List.nodup_cons.mp nd
    have e1 : (pre ++ (p :: ps).zip (u :: us)).lookup p = some u := by
      rw [List.lookup_append, hp p List.mem_cons_self]
      show ((p, u) :: ps.zip us).lookup p = some u
      rw [List.lookup_cons, beq_self_eq_true]
    rw [List.filterMap_cons, e1]
    show (p, u) :: _ = (p, u) :: ps.zip us
    congr 1
    have z := zip_filterMap (ps := ps) (us := us) (by simpa using h) n2 (pre ++ [(p, u)]) fun n hn => by
      rw [List.lookup_append, hp n (List.mem_cons_of_mem _ hn)]
      show ((p, u) :: []).lookup n = none
      rw [List.lookup_cons]
      have : (n == p) = false := by
        cases q : n == p with
        | false => rfl
        | true => rw [eq_of_beq q] at hn; exact absurd hn n1
      rw [this]; rfl
    rw [List.append_assoc] at z
    exact z
theorem bind_gen {x qual : Str} {args : List Arg} {body : List Stmt} {scope : Scope} {kV doc pm : Value} {an : Option Addr} {cdv ct : Value} {us : List Value} (hl : us.length = (args.map (·.arg)).length) (nd : (args.map (·.arg)).Nodup) :
    bindArgs (PySem.W.fnOf x qual ⟨[], args, none, [], [], none, []⟩ body scope .none kV doc pm an cdv ct) ⟨us, []⟩ = pure ((args.map (·.arg)).zip us) := by
  have e1 : ∀ d, ((args.map (·.arg)).take d).filter (fun n => (((args.map (·.arg)).zip us).lookup n).isNone) = [] := fun d => by
    rw [List.filter_eq_nil_iff]
    intro n hn
    have := zip_lookup_some hl (List.mem_of_mem_take hn)
    cases q : ((args.map (·.arg)).zip us).lookup n with
    | none => rw [q] at this; cases this
    | some _ => simp
  have e2 := zip_filterMap hl nd [] fun n _ => rfl
  unfold bindArgs
  simp only [PySem.W.fnOf]
  have e3 : seqItems? (Value.none) = pure none := rfl
  have e4 : ¬ (us.length > (args.map (·.arg)).length) := by omega
  have e5 : ¬ args.length < us.length := by rw [List.length_map] at hl; omega
  simp [e3, e1, e4]
  rw [if_neg e5, ← List.filterMap_map]
  exact congrArg pure e2
end G

set_option Elab.async false
set_option linter.all false
set_option maxRecDepth 100000
set_option maxHeartbeats 2000000
namespace G
open PySem PySem.Spec PyProof.Rows L2
section
variable {M : Md} {h : Heap}
mutual
theorem rwB_ok (X : M.K.In h) (G : h.Ns mainGlobals M.mg) : ∀ {w : W} {u : Value}, rwB M.K w u = true → ∃ v, RelV v u ∧ ∀ H ι, RelW M H ι w v
  | .non, u, e => by
    cases u with
    | none => exact ⟨.non, rfl, fun _ _ => rfl⟩
    | _ => cases e
  | .bl b, u, e => by
    cases u with
    | bool c =>
      have q : b = c := eq_of_beq (show (b == c) = true from e)
      exact ⟨.bl b, by rw [q]; rfl, fun _ _ => rfl⟩
    | _ => cases e
  | .int i, u, e => by
    cases u with
    | int j t =>
      have q : i = j := of_decide_eq_true e
      exact ⟨.int i, ⟨t, by rw [q]⟩, fun _ _ => rfl⟩
    | _ => cases e
  | .str i, u, e => by
    cases u with
    | str j t =>
      have q : i = j := of_decide_eq_true e
      exact ⟨.str i, ⟨t, by rw [q]⟩, fun _ _ => rfl⟩
    | _ => cases e
  | .ref i, u, e => by
    cases u <;> cases e
  | .ty n, u, e => by
    cases u with
    | type m =>
      have q : n = m := of_decide_eq_true e
      exact ⟨.ty n, by rw [q]; rfl, fun _ _ => rfl⟩
    | _ => cases e
  | .fn x, u, e => by
    cases u with
    | ref f => exact ⟨.ref f, rfl, fun _ _ => ⟨f, PySem.W.mg_of X G (He.eqO_ok e), rfl⟩⟩
    | _ => cases e
  | .tup ws, u, e => by
    cases u with
    | ref a =>
      unfold rwB at e
      cases q : M.K.lookup a with
      | none => rw [q] at e; cases e
      | some o =>
        obtain ⟨oc, od, dt, osl⟩ := o
        rw [q] at e
        cases oc with
        | type c =>
          cases dt with
          | seq its n =>
            obtain ⟨h1, h2⟩ := He.ba (show (decide (c = "tuple") && (decide (its.size ≤ sizeLine) && rwBs M.K ws its.toList)) = true from e)
            obtain ⟨h3, h4⟩ := He.ba h2
            obtain ⟨vs, r1, r2⟩ := rwBs_ok X G h4
            exact ⟨.ref a, rfl, fun H ι => ⟨a, vs, rfl, .inr ⟨_, its, n, q, congrArg Value.type (of_decide_eq_true h1), rfl, of_decide_eq_true h3, r1⟩, r2 H ι⟩⟩
          | _ => cases e
        | _ => cases dt <;> cases e
    | _ => cases e
theorem rwBs_ok (X : M.K.In h) (G : h.Ns mainGlobals M.mg) : ∀ {ws : List W} {us : List Value}, rwBs M.K ws us = true → ∃ vs, Vals vs us ∧ ∀ H ι, RelWs M H ι ws vs
  | [], us, e => by
    cases us with
    | nil => exact ⟨[], .nil, fun _ _ => rfl⟩
    | cons _ _ => cases e
  | w :: ws, us, e => by
    cases us with
    | nil => cases e
    | cons u us =>
      obtain ⟨h1, h2⟩ := He.ba (show (rwB M.K w u && rwBs M.K ws us) = true from e)
      obtain ⟨v, a1, a2⟩ := rwB_ok X G h1
      obtain ⟨vs, b1, b2⟩ := rwBs_ok X G h2
      exact ⟨v :: vs, .cons a1 b1, fun H ι => ⟨v, vs, rfl, a2 H ι, b2 H ι⟩⟩
end
end
/-! ### a dict that the text writes -/
theorem dEs_ok {M : Md} {h : Heap} (X : M.K.In h) (G : h.Ns mainGlobals M.mg) (z : Str) : ∀ {l : List DictEntry} {kvs : List (Str × W)}, dEs M.K l kvs = true → (∃ r, (match l.find? (·.key.isStr z) with
      | some e => some (some e.val)
      | none => if l.any (·.refKey) then none else some none) = some r ∧ KdV M kvs z r)
  | [], [], _ => ⟨none, rfl, rfl⟩
  | [], _ :: _, e => by cases e
  | _ :: _, [], e => by cases e
  | d :: l, p :: kvs, e => by
    obtain ⟨h1, h2⟩ := He.ba (show ((match d.key with
      | .str x _ => decide (x = p.1)
      | _ => false) && (rwB M.K p.2 d.val && dEs M.K l kvs)) = true from e)
    obtain ⟨h3, h4⟩ := He.ba h2
    cases q : d.key with
    | str x t =>
      rw [q] at h1
      have ex : x = p.1 := of_decide_eq_true h1
      have e1 : d.key.isStr z = (x == z) := by rw [q]; rfl
      have e2 : d.refKey = false := by unfold DictEntry.refKey; rw [q]
      have el : (p :: kvs).lookup z = if z == p.1 then some p.2 else kvs.lookup z := by
        obtain ⟨p1, p2⟩ := p
        rw [List.lookup_cons]
        cases z == p1 <;> rfl
      cases b : x == z with
      | true =>
        rw [List.find?_cons, e1, b]
        have ez : x = z := eq_of_beq b
        obtain ⟨v, a1, a2⟩ := rwB_ok X G h3
        refine ⟨some d.val, rfl, ?_⟩
        unfold KdV
        rw [el, ← ez, ex, beq_self_eq_true]
        exact ⟨d.val, v, rfl, a1, a2⟩
      | false =>
        rw [List.find?_cons, e1, b, List.any_cons, e2, Bool.false_or]
        obtain ⟨r, r1, r2⟩ := dEs_ok X G z h4
        refine ⟨r, r1, ?_⟩
        unfold KdV at r2 ⊢
        have nz : (z == p.1) = false := by
          rw [← ex]
          cases c : z == x with
          | false => rfl
          | true => rw [eq_of_beq c, beq_self_eq_true] at b; cases b
        rw [el, nz]
        exact r2
    | _ => rw [q] at h1; cases h1
/-! ### scopes and parameters -/
def fnScopeB (N P : List Str) (sc : Scope) : Bool := decide (sc.kind = .function) && (!sc.isCoroutine && (!sc.isGenerator && (decide N.Nodup && (decide (N.take P.length = P) && (P.all (fun x => decide (sc.names.lookup x = some .local) || decide (sc.names.lookup x = some .cell)) && sc.names.all fun y => decide (y.2 ≠ .free))))))
theorem fnScopeB_ok {N P : List Str} {sc : Scope} (e : fnScopeB N P sc = true) : FnScope N P sc := by
  obtain ⟨h1, e⟩ := He.ba e
  obtain ⟨h2, e⟩ := He.ba e
  obtain ⟨h3, e⟩ := He.ba e
  obtain ⟨h4, e⟩ := He.ba e
  obtain ⟨h5, e⟩ := He.ba e
  obtain ⟨h6, h7⟩ := He.ba e
  refine ⟨of_decide_eq_true h1, by simpa using h2, by simpa using h3, of_decide_eq_true h4, of_decide_eq_true h5, fun x hx => ?_, fun y hy => of_decide_eq_true (List.all_eq_true.mp h7 y hy)⟩
  rcases Bool.or_eq_true_iff.mp (List.all_eq_true.mp h6 x hx) with z | z
  · exact .inl (of_decide_eq_true z)
  · exact .inr (of_decide_eq_true z)
def argsB (a : Arguments) (ps : List Str) : Bool := match a with
  | ⟨[], as, none, [], [], none, []⟩ => decide (as.map (·.arg) = ps) && decide ps.Nodup
  | _ => false
theorem argsB_ok {a : Arguments} {ps : List Str} (e : argsB a ps = true) : ∃ as : List Arg, a = ⟨[], as, none, [], [], none, []⟩ ∧ as.map (·.arg) = ps ∧ ps.Nodup := by
  unfold argsB at e
  split at e
  · obtain ⟨h1, h2⟩ := He.ba e
    exact ⟨_, rfl, of_decide_eq_true h1, of_decide_eq_true h2⟩
  · cases e
/-! ### a module's table, and what the head has to tell of it -/
structure Tq where
  fds : List (Str × Fd)
  cs : List (Str × W)
  non : List Str
  exc : List Str
  dct : List (Str × List (Str × W))
  er : Str
  onx : Onx
def Tq.tb (q : Tq) : Tb := ⟨fun x => match q.fds.lookup x with
  | some _ => some (.fn x)
  | none => q.cs.lookup x, fun x => q.non.contains x, fun x => q.exc.contains x, fun x => q.fds.lookup x, fun x => q.dct.lookup x, q.er, q.onx⟩
def Tq.lams (q : Tq) : List Str := (q.fds.filter (·.2.lam)).map (·.1)
def Tq.tf (q : Tq) : List He.Defn := q.lams.map fun x => (x, none)
def Tq.tabs (q : Tq) (K : PySem.W.Frag) : List (Addr × Str) := q.lams.map fun x => ((He.cT K (x, none)).2, (x ++ ".<locals>.") ++ "<lambda>")
def Tq.fa (q : Tq) : List He.Fa := q.fds.map (fun p => .glo p.1) ++ (q.non.map .free ++ (q.exc.map .glo ++ (q.exc.map .exc ++ q.dct.map fun p => .glo p.1)))
def Tq.dd (p : Str × Fd) : He.DefD := ⟨(p.1, none), p.1, p.1, defArgs p.2.st, defBody p.2.st, defScope p.2.st, [], []⟩
def Tq.fn (q : Tq) : List He.DefD := q.fds.map Tq.dd
def Tq.ts (q : Tq) : List He.Tab := q.dct.map fun p => (fun K => He.ga K p.1, p.2.map (·.1))
def Tq.plain (q : Tq) : Bool := (q.fds.all fun p => fnScopeB p.2.N p.2.ps (defScope p.2.st) && (argsB (defArgs p.2.st) p.2.ps && !(p.1 == ("__debug__" : Str)))) && q.dct.all fun p => !(p.1 == ("__debug__" : Str))
def Tq.ok (q : Tq) (K : PySem.W.Frag) : Bool := (q.cs.all fun p => match PySem.W.nsIn K mainGlobals p.1 with
  | some (some u) => rwB K p.2 u
  | _ => false) && ((q.dct.all fun p => dctB K (He.ga K p.1) p.2) && decide ((q.tabs K).map (·.1)).Nodup)
theorem lookup_memS {α : Type} {x : Str} {o : α} : ∀ {l : List (Str × α)}, l.lookup x = some o → (x, o) ∈ l
  | [], h => by cases h
  | (b, u) :: r, h => by
    rw [List.lookup_cons] at h
    cases q : x == b with
    | true =>
      rw [q] at h
      cases h
      rw [eq_of_beq q]
      exact List.mem_cons_self
    | false =>
      rw [q] at h
      exact List.mem_cons_of_mem _ (lookup_memS h)
theorem nodup_map {α β : Type} {f : α → β} : ∀ {l : List α}, (l.map f).Nodup → ∀ p ∈ l, ∀ r ∈ l, f p = f r → p = r
  | [], _, _, h, _, _, _ => by cases h
  | a :: l, nd, p, hp, r, hr, e => by
    obtain ⟨n1, n2⟩ := List.nodup_cons.mp nd
    rcases List.mem_cons.mp hp with e1 | e1 <;> rcases List.mem_cons.mp hr with e2 | e2
    · rw [e1, e2]
    · exact absurd (List.mem_map.mpr ⟨r, e2, by rw [← e, e1]⟩) n1
    · exact absurd (List.mem_map.mpr ⟨p, e1, by rw [e, e2]⟩) n1
    · exact nodup_map n2 p e1 r e2 e
theorem Tq.defOk {q : Tq} {M : Md} {h base : Heap} (hT : M.T = q.tabs M.K) (c : He.SaysX q.fa q.fn q.ts q.tf q.ok M.w h M.K) (X : M.K.In h) (G : h.Ns mainGlobals M.mg) (hp : q.plain = true) (tb : ∀ p ∈ q.tf.map (He.cT M.K), LamX.TabB base M.mg p.1 p.2) {x : Str} {d : Fd} (hd : q.fds.lookup x = some d) :
    (∃ f fd, DefOk M base x d f fd) ∧ (x == ("__debug__" : Str)) = false := by
  have hm : (x, d) ∈ q.fds := lookup_memS hd
  obtain ⟨h1, _⟩ := He.ba hp
  obtain ⟨s1, s2⟩ := He.ba (List.all_eq_true.mp h1 _ hm)
  obtain ⟨s3, s4⟩ := He.ba s2
  refine ⟨?_, by simpa using s4⟩
  obtain ⟨fd, F⟩ := c.t.d.defs (d := Tq.dd (x, d)) (List.mem_map.mpr ⟨_, hm, rfl⟩)
  have g : M.mg x = some (.ref (He.ga M.K x)) := He.glo_ok X G (c.t.d.facts (f := .glo x) (List.mem_append_left _ (List.mem_map.mpr ⟨_, hm, rfl⟩)))
  have F' : FunD M.K x x (defArgs d.st) (defBody d.st) (defScope d.st) [] [] (He.ga M.K x) fd := F
  obtain ⟨as, ea, em, nd⟩ := argsB_ok s3
  have nd' : (as.map (·.arg)).Nodup := by rw [em]; exact nd
  refine ⟨He.ga M.K x, fd, ⟨?_, F'.kp, fnScopeB_ok s1, g, F'.bindsN fun kV doc pm an cdv ct us hl => ?_⟩⟩
  · obtain ⟨oc, od, dV, kV, doc, pm, an, cdv, ct, osl, rfl, lk, hcd, hD, hK⟩ := F'.ex
    rcases hD with ⟨_, rfl⟩ | ⟨e, _⟩
    · refine ⟨x, oc, od, kV, doc, pm, an, cdv, ct, osl, rfl, lk, hcd, fun hl => ?_⟩
      obtain ⟨c0, rfl⟩ := He.codeIn_ref hcd
      have ec : He.codeOf M.K (x, none) = c0 := He.codeOf_eq (p := (x, none)) lk rfl
      have mx : x ∈ q.lams := List.mem_map.mpr ⟨(x, d), List.mem_filter.mpr ⟨hm, hl⟩, rfl⟩
      have t := tb (He.cT M.K (x, none)) (List.mem_map.mpr ⟨(x, none), List.mem_map.mpr ⟨x, mx, rfl⟩, rfl⟩)
      have e1 : (He.cT M.K (x, none)).1 = c0 := ec
      rw [e1] at t
      refine ⟨c0, _, t, rfl, ?_, fun p hpm e => ?_⟩
      · rw [hT]
        exact List.mem_map.mpr ⟨x, mx, rfl⟩
      · rw [hT] at hpm
        have m0 : ((He.cT M.K (x, none)).2, (x ++ ".<locals>.") ++ "<lambda>") ∈ q.tabs M.K := List.mem_map.mpr ⟨x, mx, rfl⟩
        have nd := of_decide_eq_true (He.ba (He.ba c.more).2).2
        exact congrArg Prod.snd (nodup_map nd p hpm _ m0 e)
    · exact absurd rfl e
  · have := bind_gen (x := x) (qual := x) (body := defBody d.st) (scope := defScope d.st) (kV := kV) (doc := doc) (pm := pm) (an := an) (cdv := cdv) (ct := ct) (by rw [em]; exact hl) nd'
    rw [em, ← ea] at this
    exact this
theorem Tq.globOk {q : Tq} {M : Md} {h : Heap} (c : He.SaysX q.fa q.fn q.ts q.tf q.ok M.w h M.K) (X : M.K.In h) (G : h.Ns mainGlobals M.mg) (hp : q.plain = true) (low : Cal) : Glob M (q.tb.pgOf low) := by
  refine ⟨fun x w e => ?_, fun x e => ?_, fun x e => ?_, fun x kvs e => ?_⟩
  · have e' : (match q.fds.lookup x with
      | some _ => some (W.fn x)
      | none => q.cs.lookup x) = some w := e
    cases z : q.fds.lookup x with
    | some d =>
      rw [z] at e'
      cases e'
      have g : M.mg x = some (.ref (He.ga M.K x)) := He.glo_ok X G (c.t.d.facts (f := .glo x) (List.mem_append_left _ (List.mem_map.mpr ⟨_, lookup_memS z, rfl⟩)))
      exact ⟨.ref _, _, g, rfl, fun _ _ => ⟨_, g, rfl⟩⟩
    | none =>
      rw [z] at e'
      have k := List.all_eq_true.mp (He.ba c.more).1 _ (lookup_memS e')
      dsimp only at k
      cases n : PySem.W.nsIn M.K mainGlobals x with
      | none => rw [n] at k; cases k
      | some r =>
        rw [n] at k
        cases r with
        | none => cases k
        | some u =>
          obtain ⟨v, r1, r2⟩ := rwB_ok X G k
          exact ⟨v, u, PySem.W.mg_of X G n, r1, r2⟩
  · have m : x ∈ q.non := List.contains_iff_mem.mp e
    exact He.free_ok X G (c.t.d.facts (f := .free x) (List.mem_append_right _ (List.mem_append_left _ (List.mem_map.mpr ⟨x, m, rfl⟩))))
  · have m : x ∈ q.exc := List.contains_iff_mem.mp e
    have g := He.glo_ok X G (c.t.d.facts (f := .glo x) (List.mem_append_right _ (List.mem_append_right _ (List.mem_append_left _ (List.mem_map.mpr ⟨x, m, rfl⟩)))))
    obtain ⟨h1, h2, h3, h4⟩ := He.exc_ok (c.t.d.facts (f := .exc x) (List.mem_append_right _ (List.mem_append_right _ (List.mem_append_right _ (List.mem_append_left _ (List.mem_map.mpr ⟨x, m, rfl⟩))))))
    exact ⟨_, g, h1, h2, h3, h4⟩
  · have m : (x, kvs) ∈ q.dct := lookup_memS e
    have g := He.glo_ok X G (c.t.d.facts (f := .glo x) (List.mem_append_right _ (List.mem_append_right _ (List.mem_append_right _ (List.mem_append_right _ (List.mem_map.mpr ⟨(x, kvs), m, rfl⟩))))))
    have k := List.all_eq_true.mp (He.ba (He.ba c.more).2).1 _ m
    have nd : (x == ("__debug__" : Str)) = false := by simpa using List.all_eq_true.mp (He.ba hp).2 _ m
    obtain ⟨i, hi, ei⟩ := List.mem_iff_getElem.mp (List.mem_map.mpr ⟨(x, kvs), m, rfl⟩ : ((fun K => He.ga K x, kvs.map (·.1)) : He.Tab) ∈ q.ts)
    obtain ⟨es, n, D⟩ := c.t.tab i (t := (fun K => He.ga K x, kvs.map (·.1))) ((List.getElem?_eq_getElem hi).trans (congrArg some ei))
    refine ⟨_, g, nd, ⟨⟨es, n, D.at_, D.lit, fun z => ?_⟩, D.low⟩⟩
    have lk : M.K.lookup (He.ga M.K x) = some ⟨.type "dict", none, .dict es n, #[]⟩ := D.at_
    dsimp only at k
    unfold dctB at k
    rw [lk] at k
    obtain ⟨r, r1, r2⟩ := dEs_ok X G z k
    refine ⟨r, ?_, r2⟩
    unfold PySem.W.nsIn
    rw [lk]
    exact r1
theorem Tq.tbOk {q : Tq} {M : Md} {h base : Heap} (hT : M.T = q.tabs M.K) (c : He.SaysX q.fa q.fn q.ts q.tf q.ok M.w h M.K) (X : M.K.In h) (G : h.Ns mainGlobals M.mg) (hp : q.plain = true) (tb : ∀ p ∈ q.tf.map (He.cT M.K), LamX.TabB base M.mg p.1 p.2) (hc : (∃ x d, q.tb.fn x = some d ∧ d.lam = true) → ∀ k, Catch M base k q.er q.onx) : TbOk M base q.tb :=
  ⟨Tq.globOk c X G hp, fun x d e => Tq.defOk hT c X G hp tb e, hc⟩
end G

set_option Elab.async false
set_option linter.all false
set_option maxRecDepth 100000
set_option maxHeartbeats 4000000
namespace G
open PySem L2 PySem.Spec PyProof.Rows
variable {M : Md} {base : Heap} {H H' H1 H2 : Hp} {ι ι' ι1 ι2 : List Addr} {X : Cx} {W' : WX}
/-! ### the class TooMany, and its __init__ -/
def iniN : List Str := ["self", "limit"]
theorem scIni : FnScope iniN iniN (defScope iniSt61) := ⟨rfl, rfl, rfl, by decide +kernel, rfl, by decide +kernel, by decide +kernel⟩
theorem argsIni : argsB (defArgs iniSt61) iniN = true := by kernel_rfl
theorem ini_ok {fI : Addr} {fd : FuncData} (F : FunD M.K "__init__" "TooMany.__init__" (defArgs iniSt61) (defBody iniSt61) (defScope iniSt61) [] [] fI fd) : FnOk M.P M.w M.K M.mg base (L2N.CX M.P M.w) 1 fI fd iniN (spIni M.K) :=
  F.ok (k := 0) scIni (fun vs H Q E ⟨a, C, v, e, _⟩ => by rw [e]; rfl) fun cdv A outer s H vs Q E hr ⟨a, C, v, e, T, hn, ea, k⟩ => by
    subst e
    refine ⟨_, pss_one (ps_ost (pv 0 rfl (.inl (by show (defScope iniSt61).names.lookup _ = _; decide +kernel))) (pv 1 rfl (.inl (by show (defScope iniSt61).names.lookup _ = _; decide +kernel)))), ?_⟩
    exact ⟨v, rfl, .ref a, rfl, a, C, rfl, T, hn, .inl ⟨ea, fun dx h1 h2 => k dx h1 h2⟩⟩
theorem binds_ini {K : PySem.W.Frag} {fI : Addr} {fd : FuncData} (F : FunD K "__init__" "TooMany.__init__" (defArgs iniSt61) (defBody iniSt61) (defScope iniSt61) [] [] fI fd) : L2.Binds K fd iniN [] := F.bindsN fun kV doc pm an cdv ct us hl => by
  obtain ⟨as, ea, em, nd⟩ := argsB_ok argsIni
  have := bind_gen (x := "__init__") (qual := "TooMany.__init__") (body := defBody iniSt61) (scope := defScope iniSt61) (kV := kV) (doc := doc) (pm := pm) (an := an) (cdv := cdv) (ct := ct) (args := as) (us := us) (by rw [em]; exact hl) (by rw [em]; exact nd)
  rw [em, ← ea] at this
  exact this
theorem oexB_ok {K : PySem.W.Frag} {C : Addr} (e : oexB K C = true) : OexC K C := by
  obtain ⟨h1, e⟩ := He.ba e
  obtain ⟨h2, e⟩ := He.ba e
  obtain ⟨h3, e⟩ := He.ba e
  obtain ⟨h4, h5⟩ := He.ba e
  refine ⟨?_, He.eqO_ok h2, of_decide_eq_true h3, of_decide_eq_true h4, h5⟩
  split at h1
  · rename_i dd cd sl ho
    split at h1
    · rename_i C' bm k0 k1 k2 k3 n k5 hm hs
      obtain ⟨q1, h1⟩ := He.ba h1
      obtain ⟨q2, h1⟩ := He.ba h1
      obtain ⟨q3, h1⟩ := He.ba h1
      obtain ⟨q4, q5⟩ := He.ba h1
      obtain rfl : C' = C := eq_of_beq q1
      obtain rfl : n = "ValueError.__new__" := eq_of_beq q2
      obtain ⟨nm, bs, mro, ns, qn, hd, sn, sub, ab, col, del⟩ := cd
      dsimp only at hm q3 q4
      obtain rfl : del = false := by simpa using q3
      subst q4 hm
      have hsl : sl = #[k0, k1, k2, k3, some (.builtin "ValueError.__new__"), k5] := by
        obtain ⟨l⟩ := sl
        simp only at hs
        rw [hs]
      subst hsl
      exact ⟨nm, qn, ns, bs, bm, sn, sub, ab, col, dd, k0, k1, k2, k3, k5, ho, q5⟩
    · cases h1
  · cases h1
theorem low_ok {h : Heap} (e : lowB M.K = true) (X : M.K.In h) (G : h.Ns mainGlobals M.mg) {fd : FuncData} (F : FunD M.K "__init__" "TooMany.__init__" (defArgs iniSt61) (defBody iniSt61) (defScope iniSt61) [] [] (He.fAd M.K ("TooMany", some "__init__")) fd) : LowM M base "TooMany" (He.ga M.K "TooMany") := by
  obtain ⟨h1, e⟩ := He.ba e
  obtain ⟨h2, e⟩ := He.ba e
  obtain ⟨h3, e⟩ := He.ba e
  obtain ⟨h4, e⟩ := He.ba e
  obtain ⟨h5, e⟩ := He.ba e
  obtain ⟨h6, h7⟩ := He.ba e
  have Ce := exCB_ok h6
  exact ⟨PySem.W.mg_of X G (He.eqO_ok h1), oexB_ok h2, He.eqO_ok h3, ⟨_, fd, iniN, He.eqO_ok h4, of_decide_eq_true h5, ini_ok F, binds_ini F⟩, Ce.hg, Ce.hk, Ce.hs, Ce.hd, of_decide_eq_true h7⟩
end G

set_option Elab.async false
set_option linter.all false
set_option maxRecDepth 100000
set_option maxHeartbeats 0
namespace G
open PySem L2 PySem.Spec PyProof.Rows
variable {M : Md} {H H' H1 H2 : Hp} {ι ι' ι1 ι2 : List Addr} {X : Cx} {W' : WX}
/-! ### a statement's end, cut -/
def nxT (n : Nat) : Option (Rz Fl) → Option (Sg × Hh)
  | some (.ok (.nx σ) E) => some (σ, E.take n)
  | _ => none
theorem gd_nxT {P : Pg} {m n : Nat} {Γ : Gm} {D : Ends} {s : Stmt} {ss : List Stmt} {σE σ1 : Sg} {E E1 : Hh} (i : In M P Γ W' X) (h : nxT n (stepS P (rcs P m) Γ 30 s σE E) = some (σ1, E1)) (c1 : clS n σ1 = true) (c2 : clE n E1 = true) (g : Gd M X D ss σ1 E1) : Gd M X D (s :: ss) σE E := by
  obtain ⟨t, ht, k⟩ := g
  refine ⟨_, pss_cons (stepS_ok (rcs_ok m) i 30 s) ht, fun ι σ H R rs => ?_⟩
  unfold nxT at h
  split at h
  · rename_i σ2 E2 e
    obtain ⟨rfl, rfl⟩ := Prod.mk.inj (Option.some.inj h)
    exact ⟨ι, E, σE, R, rs, .inl ⟨_, _, e, fun ι' H' x R' σ' rs' => k _ σ' H' (R'.takeI c2) (rs'.takeI c1)⟩⟩
  · cases h
theorem gd_nx0 {P : Pg} {m : Nat} {Γ : Gm} {D : Ends} {s : Stmt} {ss : List Stmt} {σE σ1 : Sg} {E E1 : Hh} (i : In M P Γ W' X) (h : stepS P (rcs P m) Γ 30 s σE E = some (.ok (.nx σ1) E1)) (g : Gd M X D ss σ1 E1) : Gd M X D (s :: ss) σE E := by
  obtain ⟨t, ht, k⟩ := g
  exact ⟨_, pss_cons (stepS_ok (rcs_ok m) i 30 s) ht, fun ι σ H R rs => ⟨ι, E, σE, R, rs, .inl ⟨_, _, h, fun ι' H' x R' σ' rs' => k ι' σ' H' R' rs'⟩⟩⟩
/-! ### the law's places -/
def dLaw61 : Fd := fdAt61 "law"
def cO (n : Nat) : Cal := T61.callO ov61 60 n
def pL61 : Pg := T61.pgOf (cO 124)
def gL61 : Gm := T61.gmOf 60 (cO 124) (some (cO 122)) dLaw61
def stL61 (i : Nat) : Stmt := (defBody dLaw61.st).getD i (.Pass ⟨0, 0, 0, 0⟩)
def runS61 (i : Nat) (σ : Sg) (E : Hh) : Option (Rz Fl) := stepS pL61 (rcs pL61 60) gL61 30 (stL61 i) σ E
def w1 : W := .tup [.str "amount", .int 1]
def wDeed : W := .tup [.str "x", w1]
def wLastS : W := .tup [.tup [.str "a", .int 0], .tup [.str "b", .int 0], .tup [.str "c", .int 0], .tup [.str "d", .int 0], .tup [.str "e", .int 0]]
def wWide : W := .tup [.str "x", .tup [.str "reckon", .str "+", .tup [.str "reckon", .str "+", .tup [.str "use", .tup [.str "a", .tup []]], .tup [.str "use", .tup [.str "b", .tup []]]], .tup [.str "reckon", .str "+", .tup [.str "use", .tup [.str "c", .tup []]], .tup [.str "use", .tup [.str "d", .tup []]]]]]
def sL (o : W) (odd deed wide : Option W) : Sg := [none, none, some o, odd, deed, wide]
end G

set_option Elab.async false
set_option linter.all false
set_option maxRecDepth 100000
set_option maxHeartbeats 0
namespace G
open PySem L2 PySem.Spec PyProof.Rows
variable {M : Md} {base : Heap} {H H' H1 H2 : Hp} {ι ι' ι1 ι2 : List Addr} {X : Cx} {W' : WX}
/-! ### statements from a known state, with what they leave -/
def GdX (M : Md) (X : Cx) (D : Ends) (ι0 : List Addr) (H0 : Hp) (ss : List Stmt) (σE : Sg) (E : Hh) : Prop := ∃ t, PSs X ss t ∧ ∀ ι σ H, Ext M ι0 H0 ι H → Rel M ι E H → RelS M H ι σE σ → t D σ H
theorem gdx_nxT {P : Pg} {m : Nat} {Γ : Gm} {D : Ends} {ι0 : List Addr} {H0 : Hp} {s : Stmt} {ss : List Stmt} {σE σ1 : Sg} {E E1 : Hh} (i : In M P Γ W' X) (h : nxT ι0.length (stepS P (rcs P m) Γ 30 s σE E) = some (σ1, E1)) (c1 : clS ι0.length σ1 = true) (c2 : clE ι0.length E1 = true) (g : GdX M X D ι0 H0 ss σ1 E1) : GdX M X D ι0 H0 (s :: ss) σE E := by
  obtain ⟨t, ht, k⟩ := g
  refine ⟨_, pss_cons (stepS_ok (rcs_ok m) i 30 s) ht, fun ι σ H x0 R rs => ?_⟩
  unfold nxT at h
  split at h
  · rename_i σ2 E2 e
    obtain ⟨rfl, rfl⟩ := Prod.mk.inj (Option.some.inj h)
    refine ⟨ι, E, σE, R, rs, .inl ⟨_, _, e, fun ι' H' x R' σ' rs' => k _ σ' H' ?_ (R'.takeI c2) (rs'.takeI c1)⟩⟩
    have x1 := x0.trans x
    obtain ⟨z, hz⟩ := x1.pre
    have e2 : ι'.take ι0.length = ι0 := by rw [← hz, List.take_left]
    rw [e2]
    exact ⟨List.prefix_refl _, x1.2, x1.3⟩
  · cases h
/-! ### unlike_store(deed, deed, n), n beyond what is gone through -/
def dUs61 : Fd := fdAt61 "unlike_store"
def usN : List Str := ["deed", "other_deed", "most", "words", "ends", "other_ends", "store", "behind"]
theorem usN_eq : dUs61.N = usN ∧ dUs61.ps = (["deed", "other_deed", "most"] : List Str) := ⟨by kernel_rfl, by kernel_rfl⟩
theorem fnUs61 : T61.fn "unlike_store" = some dUs61 := by kernel_rfl
def pU61 : Pg := T61.pgOf (cO 121)
def gU61 : Gm := T61.gmOf 60 (cO 121) none dUs61
def stU61 (i : Nat) : Stmt := (defBody dUs61.st).getD i (.Pass ⟨0, 0, 0, 0⟩)
def runU (i : Nat) (σ : Sg) (E : Hh) : Option (Rz Fl) := stepS pU61 (rcs pU61 60) gU61 30 (stU61 i) σ E
def sU (n : Int) (w : Option W) : Sg := [some wDeed, some wDeed, some (.int n), w, none, none, none, none]
/-- words is a list: where it stands -/
theorem lu_0 (n : Int) : nxT 1 (runU 0 (sU n none) [.lst []]) = some (sU n none, [.lst []]) := by kernel_rfl
theorem lu_1 (n : Int) : nxT 1 (runU 1 (sU n none) [.lst []]) = some (sU n none, [.lst []]) := by kernel_rfl
theorem lu_2a : nxT 1 (runU 2 (sU 4 none) [.lst []]) = some (sU 4 none, [.lst []]) := by kernel_rfl
theorem lu_2b : nxT 1 (runU 2 (sU 100 none) [.lst []]) = some (sU 100 none, [.lst []]) := by kernel_rfl
/-- two statements at once; slot f is forgotten -/
def nxF (n f : Nat) : Option (Rz Fl) → Option (Sg × Hh)
  | some (.ok (.nx σ) E) => some (σ.set f none, E.take n)
  | _ => none
def two (n f : Nat) (a b : Sg → Hh → Option (Rz Fl)) (σ : Sg) (E : Hh) : Option (Sg × Hh) := match a σ E with
  | some (.ok (.nx σ1) E1) => nxF n f (b σ1 E1)
  | _ => none
theorem RelS.forget {f : Nat} {σE : Sg} {σ : L2.St} (h : RelS M H ι σE σ) : RelS M H ι (σE.set f none) σ := ⟨by rw [List.length_set]; exact h.1, fun i w e => by
  rw [List.getElem?_set] at e
  split at e
  · split at e
    · cases e
    · cases e
  · exact h.2 i w e⟩
theorem gdx_two {P : Pg} {m f : Nat} {Γ : Gm} {D : Ends} {ι0 : List Addr} {H0 : Hp} {s s2 : Stmt} {ss : List Stmt} {σE σ1 : Sg} {E E1 : Hh} (i : In M P Γ W' X) (h : two ι0.length f (stepS P (rcs P m) Γ 30 s) (stepS P (rcs P m) Γ 30 s2) σE E = some (σ1, E1)) (c1 : clS ι0.length σ1 = true) (c2 : clE ι0.length E1 = true) (g : GdX M X D ι0 H0 ss σ1 E1) : GdX M X D ι0 H0 (s :: s2 :: ss) σE E := by
  obtain ⟨t, ht, k⟩ := g
  refine ⟨_, pss_cons (stepS_ok (rcs_ok m) i 30 s) (pss_cons (stepS_ok (rcs_ok m) i 30 s2) ht), fun ι σ H x0 R rs => ?_⟩
  unfold two at h
  split at h
  · rename_i σ2 E2 e
    unfold nxF at h
    split at h
    · rename_i σ3 E3 e3
      obtain ⟨rfl, rfl⟩ := Prod.mk.inj (Option.some.inj h)
      refine ⟨ι, E, σE, R, rs, .inl ⟨_, _, e, fun ι' H' x R' σ' rs' => ⟨ι', E2, σ2, R', rs', .inl ⟨_, _, e3, fun ι'' H'' x'' R'' σ'' rs'' => k _ σ'' H'' ?_ (R''.takeI c2) (rs''.forget.takeI c1)⟩⟩⟩⟩
      have x1 := (x0.trans x).trans x''
      obtain ⟨z, hz⟩ := x1.pre
      have e2 : ι''.take ι0.length = ι0 := by rw [← hz, List.take_left]
      rw [e2]
      exact ⟨List.prefix_refl _, x1.2, x1.3⟩
    · cases h
  · cases h
theorem lu_34a : two 1 3 (runU 3) (runU 4) (sU 4 none) [.lst []] = some (sU 4 none, [.lst []]) := by kernel_rfl
theorem lu_34b : two 1 3 (runU 3) (runU 4) (sU 100 none) [.lst []] = some (sU 100 none, [.lst []]) := by kernel_rfl
/-- the test ahead of the raise -/
def teU (e : Expr) (σ : Sg) (E : Hh) : Option (Rz Bool) := (rcs pU61 60).te gU61 e σ E
def cond5 : Expr := match stU61 5 with
  | .If e _ _ _ => e
  | _ => .Constant .none 0 ⟨0, 0, 0, 0⟩
theorem lu_5a : teU cond5 (sU 4 none) [.lst []] = some (.ok true [.lst []]) := by kernel_rfl
theorem lu_5b : teU cond5 (sU 100 none) [.lst []] = some (.ok true [.lst []]) := by kernel_rfl
def arg5 : Expr := match stU61 5 with
  | .If _ [.Raise (some (.Call _ [e] _ _)) _ _] _ _ => e
  | _ => .Constant .none 0 ⟨0, 0, 0, 0⟩
theorem lu_6 (n : Int) : (rcs pU61 60).ev gU61 arg5 (sU n none) [.lst []] = some (.ok (.int 3) [.lst []]) := by kernel_rfl
def spUs (M : Md) (C : Addr) : Sp := fun vs H Q Ex => ∃ ι n, Rel M ι [.lst []] H ∧ RelWs M H ι [wDeed, wDeed, .int n] vs ∧ (n = 4 ∨ n = 100) ∧ ∀ ι' H' dx, Ext M ι H ι' H' → Rel M ι' [.lst []] H' → H' dx = some (.xd [("limit", .int 3)]) → Ex (.ref C) (some dx) H'
theorem gdx_end {D : Ends} {ι0 : List Addr} {H0 : Hp} {n : Int} {C : Addr} {A : Around} (i : In M pU61 gU61 W' X) (L : LowM M X.base "TooMany" C) (hr : Room 2 X.A) (hte : teU cond5 (sU n none) [.lst []] = some (.ok true [.lst []]))
    (k : ∀ σ ι' H' dx, Ext M ι0 H0 ι' H' → Rel M ι' [.lst []] H' → H' dx = some (.xd [("limit", .int 3)]) → W' (.ref C) (some dx) σ H') : GdX M X D ι0 H0 ((defBody dUs61.st).drop 5) (sU n none) [.lst []] := by
  have gT : Gl X ("TooMany" : Str) := by
    have e : (defScope dUs61.st).names.lookup ("TooMany" : Str) = some .globalImplicit := by decide +kernel
    show X.env.scope.names.lookup _ = _
    rw [i.at'.names]
    exact e
  refine ⟨_, pss_cons (ps_if (c := cond5) ((rcs_ok 60).te i cond5) (pss_one (ps_raiseN (e := arg5) i.at'.calm i.at'.tk i.at'.P i.at'.w i.at'.K i.at'.mg L hr gT (by decide) rfl ((rcs_ok 60).ev i arg5))) pss_nil) (bodyA_ok (n := 60) i ((defBody dUs61.st).drop 6)), fun ι σ H x0 R rs => ?_⟩
  refine ⟨ι, [.lst []], sU n none, R, rs, .inl ⟨true, [.lst []], hte, fun ι1 H1 x1 R1 => ?_⟩⟩
  dsimp only
  rw [if_pos rfl]
  refine ⟨ι1, [.lst []], sU n none, R1, rs.ext x1, .inl ⟨.int 3, [.lst []], lu_6 n, fun ι2 H2 v x2 R2 rv dx H3 keep hd => ?_⟩⟩
  obtain rfl : v = .int 3 := rv
  have xx : LamX.ExtN H2 H3 := LamX.ExtN.of keep
  exact k σ ι2 H3 dx (((x0.trans x1).trans x2).trans (ext_extN xx)) (rel_extN R2 xx (R2.tabs.ext keep)) hd
end G

set_option Elab.async false
set_option linter.all false
set_option maxRecDepth 100000
set_option maxHeartbeats 0
namespace G
open PySem L2 PySem.Spec PyProof.Rows
variable {M : Md} {base : Heap} {H H' H1 H2 : Hp} {ι ι' ι1 ι2 : List Addr} {X : Cx} {W' : WX}
theorem usBody : defBody dUs61.st = stU61 0 :: stU61 1 :: stU61 2 :: stU61 3 :: stU61 4 :: (defBody dUs61.st).drop 5 := by kernel_rfl
theorem us_ok {C : Addr} {f : Addr} {fd : FuncData} (ok : TbOk M base T61) (L : LowM M base "TooMany" C) (D : DefOk M base "unlike_store" dUs61 f fd) : FnOk M.P M.w M.K M.mg base (L2N.CX M.P M.w) 122 f fd dUs61.ps (spUs M C) := by
  obtain ⟨qual, oc, od, kV, doc, pm, an, cdv, ct, osl, rfl, lk, hcd, tb⟩ := D.F
  refine fn_of lk hcd D.S (fun vs H Q E ⟨ι, n, R, rw', _⟩ => ?_) fun A outer s H vs Q E hr ⟨ι, n, R, rw', hn, k⟩ => ?_
  · rw [← rw'.length, usN_eq.2]
    rfl
  · have i := in_def0 (m := 60) (A := A) (outer := outer) (s := s) (H := H) (E := E) (f := f) (cdv := cdv) ok D.S (fn_okO (m := 60) ok (ov61_ok ok) 121) hr
    let X : Cx := cxOf (L2N.CX M.P M.w) M.P M.w M.K M.mg base dUs61.N qual (defScope dUs61.st) f cdv A outer s H E
    have i' : In M pU61 gU61 (fun cls d _ H => E cls d H) X := i
    have e1 : ι.length = 1 := R.len
    have rs : RelS M H ι (sU n none) (start dUs61.N vs) := by
      have z := startE_ok (N := dUs61.N) rw'
      rw [show startE dUs61.N [wDeed, wDeed, .int n] = sU n none by rw [usN_eq.1]; rfl] at z
      exact z
    have hr2 : Room 2 X.A := hr.mono (by decide)
    have run : GdX M X { nx := fun _ H' => Q .non H', rt := Q } ι H (defBody dUs61.st) (sU n none) [.lst []] := by
      rw [usBody]
      rcases hn with rfl | rfl
      · exact gdx_nxT i' (by rw [e1]; exact lu_0 4) (by rw [e1]; rfl) (by rw [e1]; rfl) (gdx_nxT i' (by rw [e1]; exact lu_1 4) (by rw [e1]; rfl) (by rw [e1]; rfl) (gdx_nxT i' (by rw [e1]; exact lu_2a) (by rw [e1]; rfl) (by rw [e1]; rfl)
          (gdx_two (f := 3) i' (by rw [e1]; exact lu_34a) (by rw [e1]; rfl) (by rw [e1]; rfl) (gdx_end (A := A) i' L hr2 lu_5a fun σ ι' H' dx x R hd => k ι' H' dx x R hd))))
      · exact gdx_nxT i' (by rw [e1]; exact lu_0 100) (by rw [e1]; rfl) (by rw [e1]; rfl) (gdx_nxT i' (by rw [e1]; exact lu_1 100) (by rw [e1]; rfl) (by rw [e1]; rfl) (gdx_nxT i' (by rw [e1]; exact lu_2b) (by rw [e1]; rfl) (by rw [e1]; rfl)
          (gdx_two (f := 3) i' (by rw [e1]; exact lu_34b) (by rw [e1]; rfl) (by rw [e1]; rfl) (gdx_end (A := A) i' L hr2 lu_5b fun σ ι' H' dx x R hd => k ι' H' dx x R hd))))
    obtain ⟨t, ht, hq⟩ := run
    exact ⟨t, ht, hq ι _ H (Ext.refl _ _) R rs⟩
/-! ### the def that tells the limit -/
def dLim61 : Fd := fdAt61 "_law_limit"
abbrev sLim : Stmt := dLim61.st
def limN : List Str := ["_law_call", "_law_e"]
theorem limN_eq : dLim61.N = limN ∧ dLim61.ps = (["_law_call"] : List Str) := ⟨by kernel_rfl, by kernel_rfl⟩
theorem scLim : FnScope limN ["_law_call"] (defScope sLim) := ⟨rfl, rfl, rfl, by decide +kernel, rfl, by decide +kernel, by decide +kernel⟩
def suiteLim : List Stmt := match defBody sLim with
  | .Try _ (.ExceptHandler _ _ b _ :: _) _ _ _ :: _ => b
  | _ => []
def ToldL (C : Addr) (a : Addr) (cls : Value) (d : Option Addr) (D : Ends) (σ : L2.St) (H : Hp) : Prop := cls = .ref C ∧ (1 < List.length σ → σ[1]? = some (some (.ref a))) ∧ ∃ dd n, d = some dd ∧ H dd = some (.xd [("limit", .int n)]) ∧ D.rt (.int n) H
theorem pss_suiteL {a : Addr} {oe : Obj} {cls : Value} {d : Option Addr} {pn : List (Addr × Obj)} {C : Addr} (aK : X.K = M.K) (L : LowM M base "TooMany" C) (hz : L2N.Zn cls d oe) (hf : ∃ vs, oe.data = .fields vs) (nd : X.N = limN) (hs : X.env.scope = defScope sLim) :
    PSs (X.suite a ((a, oe) :: pn)) suiteLim (fun D σ H => ToldL C a cls d D σ H) := ⟨fun pins s σ H D I h => by
  obtain ⟨rfl, h1, dd, n, rfl, hd, q⟩ := h
  let Y : Cx := X.suite a ((a, oe) :: pn)
  have hlen : List.length σ = 2 := by
    have z := I.len
    rw [show (X.suite a ((a, oe) :: pn)).N = limN from nd] at z
    exact z
  have n1 : Y.N[1]? = some ("_law_e" : Str) := by
    show X.N[1]? = _
    rw [nd]
    rfl
  have v1 : Vis Y.env.scope "_law_e" := .inl (by
    show X.env.scope.names.lookup _ = _
    rw [hs]
    decide +kernel)
  have e1 := h1 (by omega)
  refine (pss_one (ps_ret (pe_lim (X := X) aK L hz.zc hf (pv (X := X.suite a ((a, oe) :: pn)) 1 n1 v1) rfl))).run pins s σ H D I ?_
  exact ⟨_, e1, rfl, rfl, dd, .int n, rfl, hd, q⟩⟩
/-- what the def makes of it -/
def TTL (C : Addr) : (XK → Hp → VK → Prop) → Hp → VK → Prop := fun tl H Q =>
  tl (fun cls d H' => cls = .ref C ∧ ∃ a n, d = some a ∧ H' a = some (.xd [("limit", .int n)]) ∧ Q (.int n) H') H fun _ H' => Q .non H'
theorem lim_gives {k : Nat} {g : Addr} {cdg : Value} {q : Str} {C : Addr} (hmg : X.mg = M.mg) (aK : X.K = M.K) (hr : Room (k + 2) X.A) (L : LowM M base "TooMany" C) :
    GivesN X limN "_law_limit" (defScope sLim) g cdg (defBody sLim) "_law_call" q (TTL C) := by
  intro f c' s H Q tl act hc h
  have mT : X.mg "TooMany" = some (.ref C) := by rw [hmg]; exact L.mg
  have kd : ∀ (x : Str) (n : NameKind), (defScope sLim).names.lookup x = some n → (gotZ X limN "_law_limit" (defScope sLim) g cdg s H).nox.env.kindOf x = some n := fun x n e => e
  refine ⟨_, pss_cons (L2N.ps_try_as (X := (gotZ X limN "_law_limit" (defScope sLim) g cdg s H).nox) (i := 1) (c := .ref C) (Wout := noW) (ts := fun a cls d D σ HH => ToldL C a cls d D σ HH)
      (tb := fun W D σ H => ∃ Ech : XK, (∀ cls d σ' H', Ech cls d H' → W cls d σ' H') ∧ σ[0]? = some (some (.ref f)) ∧ H c' = some (LamX.CodeO c' q) ∧ tl Ech H fun _ H' => D.nx σ H')
      rfl rfl scLim.nd rfl (kd _ _ (by decide +kernel)) ⟨kd _ _ (by decide +kernel), by decide, .inl mT⟩ takesNo (fun W pn xe tk _ => ⟨fun pins s' σ H' D I h' => ?_⟩) (fun a oe cls d pn hz hf => pss_suiteL (X := (gotZ X limN "_law_limit" (defScope sLim) g cdg s H).nox) (a := a) (oe := oe) (cls := cls) (d := d) (pn := pn) aK L hz hf rfl rfl)) (pss_one (ps_ret pe_non)), ?_⟩
  · obtain ⟨Ech, hW, h1, h2, h3⟩ := h'
    exact (pss_one (ps_expr (act W pn xe Ech _ _ tk hW))).run pins s' σ H' D I ⟨h1, h2, h3⟩
  · have h0 : tl (fun cls d H' => cls = .ref C ∧ ∃ a n, d = some a ∧ H' a = some (.xd [("limit", .int n)]) ∧ Q (.int n) H') H fun _ H' => Q .non H' := h
    refine ⟨_, fun cls d σ' H' w => ?_, rfl, hc, h0⟩
    obtain ⟨rfl, dd, n, rfl, hd, hQ⟩ := w
    refine ⟨true, by rw [show (gotZ X limN "_law_limit" (defScope sLim) g cdg s H).nox.K = M.K from aK]; exact L.te, fun _ a na => ?_, fun z => by cases z⟩
    refine ⟨rfl, fun hl => ?_, dd, n, rfl, hd, hQ⟩
    rw [List.length_set] at hl
    exact List.getElem?_set_self hl
end G

set_option Elab.async false
set_option linter.all false
set_option maxRecDepth 100000
set_option maxHeartbeats 0
namespace G
open PySem L2 PySem.Spec PyProof.Rows
variable {M : Md} {base : Heap} {H H' H1 H2 : Hp} {ι ι' ι1 ι2 : List Addr} {X : Cx} {W' : WX}
def isDeed : W → Bool
  | .tup [.str a, .tup [.str b, .int i]] => decide (a = "x") && (decide (b = "amount") && decide (i = 1))
  | _ => false
theorem isDeed_ok {w : W} (h : isDeed w = true) : w = wDeed := by
  unfold isDeed at h
  split at h
  · simp only [Bool.and_eq_true, decide_eq_true_eq] at h
    obtain ⟨rfl, rfl, rfl⟩ := h
    rfl
  · cases h
def limK (ca : Act (List W)) : Act W := fun σ E => match ca σ E with
  | some (.ok [d1, d2, .int n] [.lst []]) => if isDeed d1 = true ∧ isDeed d2 = true ∧ (n = 4 ∨ n = 100) then some (.ok (.int 3) [.lst []]) else none
  | _ => none
theorem limK_ok {ca : Act (List W)} {σ : Sg} {E : Hh} {r : Rz W} (h : limK ca σ E = some r) : ∃ n, ca σ E = some (.ok [wDeed, wDeed, .int n] [.lst []]) ∧ (n = 4 ∨ n = 100) ∧ r = .ok (.int 3) [.lst []] := by
  unfold limK at h
  split at h
  · rename_i d1 d2 n e
    split at h
    · rename_i q
      obtain ⟨q1, q2, q3⟩ := q
      rw [isDeed_ok q1, isDeed_ok q2] at e
      exact ⟨n, e, q3, (Option.some.inj h).symm⟩
    · cases h
  · cases h
def limA (ca : Act (List W)) (cb : Act W) : Act W := fun σ E => match limK ca σ E with
  | some r => some r
  | none => match cb σ E with
    | some (.ok _ E1) => some (.ok .non E1)
    | _ => none
/-- a def that catches, told by what it makes of a call -/
structure CatchT (M : Md) (base : Heap) (k : Nat) (er : Str) (TT : (XK → Hp → VK → Prop) → Hp → VK → Prop) : Prop where
  ex : ∃ (g : Addr) (pg : Arguments) (bg : List Stmt) (sg : Scope) (dV kV doc pm : Value) (an : Option Addr) (cdv ct oc : Value) (od : Option Addr) (osl : Array (Option Value)) (Ng : List Str) (a : Str),
    M.mg er = some (.ref g) ∧ PySem.W.keepIn M.K (.ref g) = true ∧ M.K.lookup g = some ⟨oc, od, .func (PySem.W.fnOf er er pg bg sg dV kV doc pm an cdv ct), osl⟩ ∧ PySem.W.codeIn M.K cdv er = true ∧
    L2.Binds M.K (PySem.W.fnOf er er pg bg sg dV kV doc pm an cdv ct) [a] [] ∧ FnScope Ng [a] sg ∧ Ng[0]? = some a ∧ Vis sg a ∧ (er == ("__debug__" : Str)) = false ∧ (a == ("__debug__" : Str)) = false ∧ (a == ("__classdict__" : Str)) = false ∧
    ∀ (X : Cx) (q : Str), X.prog = M.P → X.w = M.w → X.K = M.K → X.mg = M.mg → X.base = base → Room (k + 2) X.A → GivesN X Ng er sg g cdv bg a q TT
def pM61 : Pg := T61.pgOf (cO 122)
def lamS61 (scope : Scope) : Gm := ⟨dLaw61.N, scope.names, fun _ => false, fun _ => none⟩
def hkL (e : Expr) : Option (Act W) := match e with
  | .Call (.Name x _) [.Lambda params (.Call (.Name y p2) (a1 :: as) [] q2) scope _] [] _ =>
    if x = "_law_limit" ∧ y = "unlike_store" ∧ LamX.lamSB (defScope dLaw61.st) scope = true ∧ noParams params = true ∧ (defScope dLaw61.st).names.lookup x = some .globalImplicit ∧ glB (lamS61 scope) y = true ∧ (a1 :: as).all plainArg = true then
      some (limA (wArgs ((rcs pM61 60).ev (lamS61 scope)) (a1 :: as)) ((rcs pM61 60).ev (lamS61 scope) (.Call (.Name y p2) (a1 :: as) [] q2)))
    else gL61.hk e
  | _ => gL61.hk e
def gH61 : Gm := { gL61 with hk := hkL }
def tK (M : Md) (C : Addr) (ca : Act (List W)) (Ex : XK) : TE := fun σ H _ => ∃ ι E0 σE n, Rel M ι E0 H ∧ RelS M H ι σE σ ∧ ca σE E0 = some (.ok [wDeed, wDeed, .int n] [.lst []]) ∧ (n = 4 ∨ n = 100) ∧
  ∀ ι' H' dx, Ext M ι H ι' H' → Rel M ι' [.lst []] H' → H' dx = some (.xd [("limit", .int 3)]) → Ex (.ref C) (some dx) H'
theorem lim_imp {C : Addr} {ca : Act (List W)} {cb : Act W} : ∀ (σ : L2.St) (H : Hp) (Q : VK), SE M W' (limA ca cb) σ H Q → LamX.tLam M.T (TTL C) (fun Ex => fun σ H Q => tK M C ca Ex σ H Q ∨ SE M (fun cls d _ H => Ex cls d H) cb σ H Q) σ H Q := fun σ H Q ⟨ι, E, σE, R, rs, k⟩ => by
  refine ⟨R.tabs, fun H1 x T => ?_⟩
  have xx : Ext M ι H ι H1 := ext_extN x
  unfold limA at k
  cases e : limK ca σE E with
  | some r =>
    rw [e] at k
    obtain ⟨n, e1, hn, rfl⟩ := limK_ok e
    refine .inl ⟨ι, E, σE, n, rel_extN R x T, rs.ext xx, e1, hn, fun ι' H' dx x' R' hd => ⟨rfl, dx, 3, rfl, hd, k.ok ι' H' _ (xx.trans x') R' rfl⟩⟩
  | none =>
    rw [e] at k
    dsimp only at k
    split at k
    · rename_i w E1 e2
      exact .inr ⟨ι, E, σE, rel_extN R x T, rs.ext xx, .inl ⟨w, E1, e2, fun ι1 H2 v x1 R1 _ => k.ok ι1 H2 _ (xx.trans x1) R1 rfl⟩⟩
    · exact k.none.elim
theorem pe_hk {C : Addr} (i : In M pL61 gL61 W' X) (ok : TbOk M X.base T61) (L : LowM M X.base "TooMany" C) (ct : CatchT M X.base 122 "_law_limit" (TTL C)) (tb : Tbd M X.base X.env.code X.env.qual) (hr : Room 124 X.A) (hs : X.env.scope = defScope dLaw61.st) :
    ∀ e c, hkL e = some c → PE X e (SE M W' c) := by
  intro e c h
  unfold hkL at h
  split at h
  · rename_i x p1 params y p2 a1 as q2 scope p3 p4
    split at h
    · rename_i hh
      obtain ⟨rfl, rfl, hL, hP, hG, hY, hpl⟩ := hh
      obtain rfl := Option.some.inj h
      obtain rfl := noParams_ok hP
      have at' := i.at'
      obtain ⟨gf, pg, bg, sg, dV, kV, doc, pm, an, cdv, ctv, oc, od, osl, Ng, a, e1, e2, e3, e4, e5, e6, e7, e8, e9, e10, e11, hGv⟩ := ct.ex
      obtain ⟨cc, Pt, TB, hc, hm, hu⟩ := tb.ex
      have Ls : LamX.LamS X.env.scope scope := LamX.lamS_by (by rw [hs]; exact hL)
      have hg : Gl X ("_law_limit" : Str) := by
        show X.env.kindOf _ = _
        unfold Env.kindOf
        rw [hs]
        exact hG
      refine PE.imp (pe_lamN (T := M.T) (TT := TTL C) (t := fun Ex => fun σ H Q => tK M C (wArgs ((rcs pM61 60).ev (lamS61 scope)) (a1 :: as)) Ex σ H Q ∨ SE M (fun cls d _ H => Ex cls d H) ((rcs pM61 60).ev (lamS61 scope) (.Call (.Name "unlike_store" p2) (a1 :: as) [] q2)) σ H Q) (k := 122) hg (by rw [at'.mg]; exact e1) (by rw [at'.K]; exact e2) (by rw [at'.K]; exact e3) (by rw [at'.K]; exact e4) (by rw [at'.K]; exact e5) e6 e7 e8
        (hGv X _ at'.P at'.w at'.K at'.mg rfl hr) (by rw [at'.mg]; exact TB) hc hm hu hr Ls rfl (fun _ _ _ _ _ => rfl) (fun A outer s H E f c' hr' => ?_) e9 e10 e11) lim_imp
      have aL : At M (lamS61 scope) (fun cls d _ H => E cls d H) (lamN X A outer s H E scope f c') := by
        refine ⟨at'.P, at'.w, at'.K, at'.mg, at'.N, at'.nd, rfl, Ls.kind, rfl, ?_, L2N.takes_of rfl rfl rfl rfl, passes_of rfl, fun x h => (nomatch h)⟩
        have := hr'.un
        show (A.deeper _).units + 65 < _
        omega
      have iL : In M pM61 (lamS61 scope) (fun cls d _ H => E cls d H) (lamN X A outer s H E scope f c') := ⟨aL, has_of ok (fn_okO (m := 60) ok (ov61_ok ok) 122) at'.P at'.w at'.K at'.mg rfl hr', ok.glob _, fun _ _ _ _ _ h => h, fun _ _ h => (nomatch h)⟩
      refine PE.or2 ?_ ((rcs_ok 60).ev iL _)
      obtain ⟨⟨fU, fdU, DU⟩, hdb⟩ := ok.fn _ _ fnUs61
      have F' : FnOk X.prog X.w X.K X.mg X.base (L2N.CX X.prog X.w) 122 fU fdU dUs61.ps (spUs M C) := by
        rw [at'.P, at'.w, at'.K, at'.mg]
        exact us_ok ok L DU
      have hp2 := hpl
      rw [List.all_cons, Bool.and_eq_true] at hp2
      refine PE.imp (pe_callS (X := lamN X A outer s H E scope f c') F' hr' (glB_ok aL hY) (by show X.mg _ = _; rw [at'.mg]; exact DU.m) (by show PySem.W.keepIn X.K _ = _; rw [at'.K]; exact DU.kp) (by show Binds X.K _ _ _; rw [at'.K]; exact DU.b) (fun σ => L2N.passAt aL.tk σ) (pa_args (fun e => (rcs_ok 60).ev iL e) (a1 :: as)) hdb (starEach_cons hp2.1) (starEach_plain hp2.2)) fun σ H Q ⟨ι, E0, σE, n, R, rs, ea, hn, k⟩ => ?_
      exact ⟨ι, E0, σE, R, rs, .inl ⟨_, _, ea, fun ι1 H1 vs x1 R1 rws => ⟨ι1, n, R1, rws, hn, fun ι' H' dx x R' hd => k ι' H' dx (x1.trans x) R' hd⟩⟩⟩
    · exact i.hk _ c h
  · exact i.hk _ c h
theorem in_hk {C : Addr} (i : In M pL61 gL61 W' X) (ok : TbOk M X.base T61) (L : LowM M X.base "TooMany" C) (ct : CatchT M X.base 122 "_law_limit" (TTL C)) (tb : Tbd M X.base X.env.code X.env.qual) (hr : Room 124 X.A) (hs : X.env.scope = defScope dLaw61.st) : In M pL61 gH61 W' X :=
  ⟨⟨i.at'.P, i.at'.w, i.at'.K, i.at'.mg, i.at'.N, i.at'.nd, i.at'.names, i.at'.kind, i.at'.calm, i.at'.units, i.at'.tk, i.at'.own, i.at'.fnc⟩, i.has, i.glob, i.wind, pe_hk i ok L ct tb hr hs⟩
def runH (i : Nat) (σ : Sg) (E : Hh) : Option (Rz Fl) := stepS pL61 (rcs pL61 60) gH61 30 (stL61 i) σ E
theorem l61_12 (o : W) : nxT 1 (runH 12 (sL o (some (.str "1")) (some wDeed) (some wWide)) [.lst []]) = some (sL o (some (.str "1")) (some wDeed) (some wWide), [.lst []]) := by kernel_rfl
end G

set_option Elab.async false
set_option linter.all false
set_option maxRecDepth 100000
set_option maxHeartbeats 4000000
namespace G
open PySem L2 PySem.Spec PyProof.Rows HotX
/-! ### StopIteration while an error is handled -/
section
variable {prog : Program} {w : World} {A : Around} {E : Value → Shared → Prop} {s : Shared}
theorem stop_hot {α : Type} {x1 : Addr} {Q : α → Shared → Prop} (hot : HotAt A x1 s.heap) (hE : ∀ h' e, (∀ b o, s.heap.get? b = some o → h'.get? b = some o) → (∃ o, h'.get? e = some o ∧ o.cls = .type "StopIteration") → E (.ref e) { s with heap := h' }) :
    wpAny (model prog w) A (newExc (.type "StopIteration") [] >>= fun e => (raiseNew e : Sem α)) Q E s := by
  obtain ⟨hh, o1, vs1, h1, d1, c1⟩ := hot
  refine wpAny_bind ?_
  simp only [newExc, newTuple]
  refine wpAny_bind (wpAny_newObj_type ?_ (by size_fits))
  refine wpAny_bind (m := firstArgMember _ _) (wpAny_of_eq (a := Value.none) (by first | rfl | (simp only [firstArgMember]; rfl)) ?_)
  refine wpAny_newObj_type ?_ (by size_fits)
  have up : ∀ (p q : Obj) (b : Addr) (o : Obj), s.heap.get? b = some o → ((s.heap.push p).push q).get? b = some o := fun p q b o e => Heap.get?_push_of_some _ (Heap.get?_push_of_some _ e)
  refine raiseNew_hot ⟨hh, o1, vs1, up _ _ _ _ h1, d1, c1⟩ (Nat.ne_of_lt (Heap.lt_size (Heap.get?_push_of_some _ h1))) (Heap.get?_push_size _ rfl) rfl (by first | (simp; done) | (simp; omega) | (simp only [Array.size_append]; simp; omega)) ?_
  refine hE _ _ (fun b o e => ?_) ⟨_, Heap.get?_update_self _ (Heap.get?_push_size _ rfl) rfl, rfl⟩
  rw [Heap.get?_update_other _ _ (Nat.ne_of_gt (Heap.lt_size (Heap.get?_push_of_some _ e)))]
  exact up _ _ b o e
theorem lnext_end_hot {it l x1 : Addr} {i : Nat} {items : Array Value} {Q : Value → Shared → Prop} (hot : HotAt A x1 s.heap) (hne : x1 ≠ it) (hit : s.heap.IsListIter it l i) (hl : s.heap.IsList l items) (hx : items[i]? = none)
    (hE : ∀ h' e, Heap.ExtBut it s.heap h' → (∃ o, h'.get? e = some o ∧ o.cls = .type "StopIteration") → E (.ref e) { s with heap := h' }) : wpAny (model prog w) A (Builtin.SmallTypes.nextOf (.ref it)) Q E s := by
  obtain ⟨hh, o1, vs1, h1, d1, c1⟩ := hot
  obtain ⟨o, ho, hc, hd⟩ := id hit
  obtain ⟨ol, hol, _, nl, hdl⟩ := hl
  unfold Builtin.SmallTypes.nextOf
  refine wpAny_bind (wpAny_callSpecial?_slot (name := Str.ofString "__next__") hit.typeIs slot_listiter_next (wpAny_call_entry slot_listiter_next hit.typeIs entry_listiter_next ?_ (args_listiter_next _)))
  show wpAny _ _ (field (.ref it) 0 >>= _) _ _ s
  refine wpAny_bind (wpAny_field ho hd (x := .ref l) rfl (wpAny_ite ?_))
  rw [if_neg (show ¬ ((Value.ref l == Value.none) = true) from Bool.false_ne_true)]
  show wpAny _ _ (field (.ref it) 1 >>= _) _ _ s
  refine wpAny_bind (wpAny_field ho hd (x := .int i 0) rfl ?_)
  show wpAny _ _ (seqItems? (.ref l) >>= _) _ _ s
  refine wpAny_bind (wpAny_seqItems hol hdl ?_)
  simp only [Int.toNat_natCast, hx]
  refine wpAny_bind (wpAny_rule (wpAny_bind (wpAny_setField ho hd (by simp) ?_)))
  refine stop_hot (x1 := x1) ⟨hh, o1, vs1, (Heap.get?_update_other _ _ (Ne.symm hne)).trans h1, d1, c1⟩ fun h' e k he => hE h' e (fun b o hb z => k b o ((Heap.get?_update_other _ _ (Ne.symm hb)).trans z)) he
theorem tnext_end_hot {it t x1 : Addr} {i : Nat} {items : Array Value} {Q : Option Value → Shared → Prop} (hot : HotAt A x1 s.heap) (hne : x1 ≠ it) (hit : IsTupIter s.heap it t i) (ht : IsTup s.heap t items) (hx : items[i]? = none)
    (hQ : ∀ h', Heap.ExtBut it s.heap h' → Q none { s with heap := h' }) : wpAny (model prog w) A (pyNext (.ref it)) Q E s := by
  obtain ⟨hh, o1, vs1, h1, d1, c1⟩ := hot
  obtain ⟨o, ho, hc, hd⟩ := id hit
  obtain ⟨ol, hol, _, nl, hdl⟩ := ht
  unfold pyNext
  refine wpAny_bind (wpAny_attempt (wpAny_callSpecial?_slot (name := Str.ofString "__next__") hit.typeIs slot_tupleiter_next (wpAny_call_entry slot_tupleiter_next hit.typeIs entry_tupleiter_next ?_ (args_tupleiter_next _))))
  show wpAny _ _ (field (.ref it) 0 >>= _) _ _ s
  refine wpAny_bind (wpAny_field ho hd (x := .ref t) rfl (wpAny_ite ?_))
  rw [if_neg (show ¬ ((Value.ref t == Value.none) = true) from Bool.false_ne_true)]
  show wpAny _ _ (field (.ref it) 1 >>= _) _ _ s
  refine wpAny_bind (wpAny_field ho hd (x := .int i 0) rfl ?_)
  show wpAny _ _ (seqItems? (.ref t) >>= _) _ _ s
  refine wpAny_bind (wpAny_seqItems hol hdl ?_)
  simp only [Int.toNat_natCast, hx]
  refine wpAny_bind (wpAny_rule (wpAny_bind (wpAny_setField ho hd (by simp) ?_)))
  refine stop_hot (x1 := x1) ⟨hh, o1, vs1, (Heap.get?_update_other _ _ (Ne.symm hne)).trans h1, d1, c1⟩ fun h' e k ⟨oe, he, hec⟩ => ?_
  refine wpAny_bind (wpAny_isInstance (T := "StopIteration") (b := true) ⟨oe, he, hec⟩ isSubtype_stop ?_)
  exact wpAny_pure (hQ h' fun b o hb z => k b o ((Heap.get?_update_other _ _ (Ne.symm hb)).trans z))
/-- a, b = a tuple of two, while an error is handled -/
theorem unpack_hot {t x1 : Addr} {items : Array Value} {targets : List (Bool × (Value → Sem Unit))} {Q : Unit → Shared → Prop} (hot : HotAt A x1 s.heap) (ht : IsTup s.heap t items) (hn : targets.length = items.size) (hstar : targets.findIdx? (·.1) = none)
    (h : ∀ h', Heap.ExtBut s.heap.objs.size s.heap h' → wpAny (model prog w) A (assignInOrder (targets.map (·.2)) items.toList) Q E { s with heap := h' }) : wpAny (model prog w) A (unpack (.ref t) targets) Q E s := by
  obtain ⟨hh, o1, vs1, h1, d1, c1⟩ := hot
  have hlt : t ≠ s.heap.objs.size := by obtain ⟨o, ho, _⟩ := ht; exact Nat.ne_of_lt (Heap.lt_size ho)
  have hx1 : x1 ≠ s.heap.objs.size := Nat.ne_of_lt (Heap.lt_size h1)
  unfold unpack
  rw [hn, hstar]
  refine wpAny_bind (wpAny_holding ?_)
  unfold unpackItems notIterableAtAll
  refine wpAny_bind (wpAny_bind (wpAny_specialOf ht.typeIs slot_tuple_iter.lookup (wpAny_pure ?_)))
  simp only [Bool.false_eq_true, if_false]
  refine wpAny_bind (wpAny_holding (iter_tuple ht (wpAny_bind (wpAny_holding (draw_tuple hlt items.size 0 _ _ ⟨_, Heap.get?_push_size _ rfl, rfl, rfl⟩ (ht.push _) (by omega) fun h2 it2 sb2 => ?_)))))
  have all : (items.toList.drop 0).take items.size = items.toList := List.take_of_length_le (by simp)
  rw [all, if_neg (by simp)]
  have hot2 : HotAt A x1 h2 := ⟨hh, o1, vs1, sb2.extBut x1 o1 hx1 (Heap.get?_push_of_some _ h1), d1, c1⟩
  refine wpAny_bind (wpAny_holding (tnext_end_hot hot2 hx1 it2 ((ht.push _).extBut sb2.extBut hlt) (by simp) fun h3 e3 => ?_))
  simp only [Option.isSome_none, Bool.false_eq_true, if_false]
  exact wpAny_pure (h h3 fun b o hb e => e3 b o hb (sb2.extBut b o hb (Heap.get?_push_of_some _ e)))
/-- a list's iterator, while an error is handled -/
theorem draws_hot {x1 : Addr} (it l : Addr) (hne : l ≠ it) (hx1 : x1 ≠ it) (items : Array Value) (hh : A.handled = some (.ref x1)) :
    Draws prog w A it [it, l, x1] items.size (fun i v => items[i]? = some v) (fun i h => (h.IsListIter it l i ∧ h.IsList l items) ∧ HotAt A x1 h) where
  live := fun _ _ st => let ⟨o, ho, _⟩ := st.1.1; ⟨o, ho⟩
  frame := fun _ _ _ st hk => ⟨⟨st.1.1.at fun o e => hk it (by simp) o e, st.1.2.at fun o e => hk l (by simp) o e⟩, by
    obtain ⟨hh, o1, vs1, h1, d1, c1⟩ := st.2
    exact ⟨hh, o1, vs1, hk x1 (by simp) _ h1, d1, c1⟩⟩
  item := fun i s Q E hi st hQ => by
    refine wpAny_nextOf_list_item st.1.1 st.1.2 (x := items[i]) (by simp [hi]) fun h' hit' hs' => ?_
    obtain ⟨hh, o1, vs1, h1, d1, c1⟩ := st.2
    exact hQ _ h' s.toks (by simp [hi]) ⟨⟨hit', st.1.2.extBut hs'.extBut hne⟩, hh, o1, vs1, hs'.extBut x1 o1 hx1 h1, d1, c1⟩ hs'
  done := fun s Q E st hE => lnext_end_hot st.2 hx1 st.1.1 st.1.2 (by simp) hE
end
end G

set_option Elab.async false
set_option linter.all false
set_option maxRecDepth 100000
set_option maxHeartbeats 4000000
namespace G
open PySem L2 PySem.Spec PyProof.Rows HotX
variable {M : Md} {H H' H1 H2 : Hp} {ι ι' ι1 ι2 : List Addr} {X : Cx} {W' : WX}
/-- an iterator's turns, in contexts with C -/
structure TurnC (C : Cx → Prop) (P : Program) (w : World) (K : PySem.W.Frag) (tg : Expr) (J : It) (fp : List Addr) (it : Addr) (tn : Nat → Heap → Prop) : Prop where
  mem : it ∈ fp
  obj : ∀ i h, tn i h → ∀ b ∈ fp, ∃ o, h.get? b = some o ∧ ∀ v, o.data ≠ .cell v
  keep : ∀ i h h', tn i h → (∀ b ∈ fp, ∀ o, h.get? b = some o → h'.get? b = some o) → tn i h'
  item : ∀ X : Cx, X.prog = P → X.w = w → X.K = K → C X → ∀ (i : Nat) (pins : List (Addr × Obj)) (s : Shared) (σ : L2.St) (H : Hp) (E : Value → Shared → Prop), Inv X pins σ H s → (∀ b ∈ fp, FpOk X pins H b) → tn i s.heap → J.go i H →
    wpAny (model P w) X.A (pyNext (.ref it)) (fun r s1 => ∃ u, r = some u ∧ wpAny (model P w) X.A (letOwnedTupleGo tg (.ref it) u) (fun _ s2 => ∃ x H', Inv X pins σ H' s2 ∧ RelV x u ∧ J.yld i H x H' ∧ tn (i + 1) s2.heap ∧ ∀ b ∈ fp, H' b = none) E s1) E s
  done : ∀ X : Cx, X.prog = P → X.w = w → X.K = K → C X → ∀ (i : Nat) (pins : List (Addr × Obj)) (s : Shared) (σ : L2.St) (H : Hp) (E : Value → Shared → Prop), Inv X pins σ H s → (∀ b ∈ fp, FpOk X pins H b) → tn i s.heap → J.stop i H →
    wpAny (model P w) X.A (pyNext (.ref it)) (fun r s1 => r = none ∧ Inv X pins σ H s1) E s
  self : ∀ (A : Around) (i : Nat) (s : Shared) (Q : Value → Shared → Prop) (E : Value → Shared → Prop), tn i s.heap → Q (.ref it) s → wpAny (model P w) A (pyIter (.ref it)) Q E s
def PIEC (C : Cx → Prop) (X : Cx) (pins : List (Addr × Obj)) (σ : L2.St) (tg : Expr) (R : It → Hp → Prop) (itv : Value) (s2 : Shared) : Prop :=
  ∃ (it : Addr) (fp : List Addr) (tn : Nat → Heap → Prop) (J : It) (H' : Hp), itv = .ref it ∧ Inv X pins σ H' s2 ∧ TurnC C X.prog X.w X.K tg J fp it tn ∧ tn 0 s2.heap ∧ (∀ b ∈ fp, FpOk X pins H' b) ∧ R J H'
structure PIC (C : Cx → Prop) (X : Cx) (tg iter : Expr) (wi : TI) : Prop where
  run : ∀ (pins : List (Addr × Obj)) (s : Shared) (σ : L2.St) (H : Hp) (R : It → Hp → Prop), Inv X pins σ H s → wi σ H R →
    wpAny (model X.prog X.w) X.A (eval iter X.env) (fun v s1 => wpAny (model X.prog X.w) X.A (pyIter v) (PIEC C X pins σ tg R) X.xe s1) X.xe s
/-- the loop of a clause, in contexts with C -/
theorem loop_hot {C : Cx → Prop} {Y : Cx} {c : Ck} {gens : List Comprehension} {scope : Scope} {pos p : Pos} {pins : List (Addr × Obj)} {σ : L2.St} {vs vd : List Nat} {s : Shared} {j : Nat} {tg : Expr} {ifs : List Expr} {m : Value → Env → Sem PySem.Fin → Sem PySem.Fin} {J : It} {fp : List Addr} {it : Addr} {tn : Nat → Heap → Prop}
    {acc : Value} {g : TG} {tt : TT} {body : TH} {Wm : Nat → Nat → Hp → Prop} {Out : Hp → Prop} {R : Result → Shared → Prop} (hx : Y.xe = fun _ _ => False) (hc : C Y) (te : TurnEq (c.ex gens scope pos) j tg ifs p m) (T : TurnC C Y.prog Y.w Y.K tg J fp it tn) (pg : PG Y tg g) (pt : PTs Y ifs tt) (pm : PAct Y vd (m acc Y.env) body) (sub : ∀ l ∈ vd, l ∈ vs)
    (I : Inv Y pins (L2.wipe σ vs) H s) (st : tn 0 s.heap) (hf : ∀ b ∈ fp, FpOk Y pins H b) (m0 : Nat) (w0 : Wm 0 m0 H)
    (turn : ∀ i n H, Wm i n H → (J.stop i H ∧ Out H) ∨ (J.go i H ∧ ∃ Nx : Hp → Prop, (∀ H', Nx H' → ∃ n', n' < n ∧ Wm (i + 1) n' H') ∧ ∀ x H', J.yld i H x H' → g x (L2.wipe σ vs) H' fun σ2 H2 => L2.wipe σ2 vs = L2.wipe σ vs ∧ tt σ2 H2 fun b H3 => if b = true then body σ2 H3 Nx else Nx H3))
    (hR : ∀ s' H', Inv Y pins (L2.wipe σ vs) H' s' → Out H' → R (.ok .next) s') : codeAny (model Y.prog Y.w) Y.A (.compLoop (c.ex gens scope pos) j (.ref it) acc Y.env) R s := by
  have goal : ∀ (hq : (Code.compLoop (c.ex gens scope pos) j (.ref it) acc Y.env).quiet = true) (hu : Y.A.under (.compLoop (c.ex gens scope pos) j (.ref it) acc Y.env) = Y.A)
      (hd : ∀ {Q : PySem.Fin → Shared → Prop} {E : Value → Shared → Prop} {s : Shared}, wpAny (model Y.prog Y.w) Y.A (compTurn (c.ex gens scope pos) j (.ref it) acc Y.env) Q (notedBy (model Y.prog Y.w) Y.A Y.env E) s → wpAny (model Y.prog Y.w) Y.A ((model Y.prog Y.w).den (.compLoop (c.ex gens scope pos) j (.ref it) acc Y.env)) Q E s),
      codeAny (model Y.prog Y.w) Y.A (.compLoop (c.ex gens scope pos) j (.ref it) acc Y.env) R s := fun hq hu hd => by
    refine codeAny_loop hq (fun n s' => ∃ i H', Inv Y pins (L2.wipe σ vs) H' s' ∧ tn i s'.heap ∧ (∀ b ∈ fp, FpOk Y pins H' b) ∧ Wm i n H') (fun n s1 h1 => ?_) m0 ⟨0, H, I, st, hf, w0⟩
    obtain ⟨i, H1, I1, st1, f1, w1⟩ := h1
    rw [hu]
    refine hd ?_
    rw [te]
    refine wpAny_bind (wpAny_standAt (wpAny_bind ?_))
    have up : ∀ {α : Type} {t : Sem α} {Q Q' : α → Shared → Prop} {E' : Value → Shared → Prop} {s : Shared}, wpAny (model Y.prog Y.w) Y.A t Q Y.xe s → (∀ a s, Q a s → Q' a s) → wpAny (model Y.prog Y.w) Y.A t Q' E' s := fun h k => by
      rw [hx] at h
      exact thnF h k
    rcases turn i n H1 w1 with ⟨stop, out⟩ | ⟨go, Nx, hNx, step⟩
    · refine thnF (T.done Y rfl rfl rfl hc i pins s1 _ H1 (fun _ _ => False) I1 f1 st1 stop) fun r s2 ⟨hr, I2⟩ => ?_
      subst hr
      exact wpAny_pure (hR s2 H1 I2 out)
    · refine thnF (T.item Y rfl rfl rfl hc i pins s1 _ H1 (fun _ _ => False) I1 f1 st1 go) fun r s2 ⟨u, hr, h2⟩ => ?_
      subst hr
      refine wpAny_bind (thnF h2 fun _ s3 ⟨x, H3, I3, r3, y3, st3, n3⟩ => ?_)
      have f3 : ∀ b ∈ fp, FpOk Y pins H3 b := fun b hb => fp_stays (f1 b hb) (n3 b hb)
      have I3' := I3.pinned f3 (T.obj _ _ st3)
      refine wpAny_bind (up (pg.run _ s3 _ H3 x u _ I3' r3 (step x H3 y3)) fun _ s4 ⟨σ4, H4, I4, hw4, q4⟩ => ?_)
      refine wpAny_bind (up (pt.run _ s4 σ4 H4 _ I4 q4) fun b s5 ⟨H5, I5, q5⟩ => ?_)
      have fin : ∀ {s' : Shared} {H' : Hp} {σ' : L2.St}, Inv Y (pins ++ pinsAt fp s3.heap) σ' H' s' → L2.wipe σ' vd = L2.wipe σ4 vd → Nx H' → ∃ m', m' < n ∧ ∃ i H', Inv Y pins (L2.wipe σ vs) H' s' ∧ tn i s'.heap ∧ (∀ b ∈ fp, FpOk Y pins H' b) ∧ Wm i m' H' := fun {s' H' σ'} I' hw' nx => by
        obtain ⟨m', hm, w'⟩ := hNx H' nx
        have pin' : ∀ b ∈ fp, ∀ o, s3.heap.get? b = some o → s'.heap.get? b = some o ∧ H' b = none := fun b hb o e => by
          have z := I'.pin (b, o) (List.mem_append_right _ (List.mem_append_right _ (mem_pinsAt hb e)))
          exact ⟨z.1, z.2.1⟩
        have hlen : (L2.wipe σ vs).length = σ'.length := by rw [← hw4, L2.wipe_length, ← L2.wipe_length σ4 vd, ← hw', L2.wipe_length]
        refine ⟨m', hm, i + 1, H', I'.unpinned.weak hlen (fun l v e => by
          rw [← hw4] at e
          obtain ⟨e1, nl⟩ := L2.wipe_some e
          have nd : l ∉ vd := fun h => nl (sub l h)
          rw [← L2.wipe_out nd, ← hw', L2.wipe_out nd] at e1
          exact e1), T.keep _ _ _ st3 fun b hb o e => (pin' b hb o e).1, fun b hb => ?_, w'⟩
        obtain ⟨o, e, _⟩ := T.obj _ _ st3 b hb
        exact fp_stays (f1 b hb) (pin' b hb o e).2
      cases b with
      | false =>
        rw [if_neg Bool.false_ne_true] at q5 ⊢
        exact wpAny_pure ⟨rfl, fin I5 rfl q5⟩
      | true =>
        rw [if_pos rfl] at q5 ⊢
        exact pm.run _ s5 σ4 H5 Nx _ _ _ I5 q5 fun s' H' σ' I' hw' nx => wpAny_pure ⟨rfl, fin I' hw' nx⟩
  cases c with
  | l elt => exact goal rfl rfl fun h => wpAny_noted h
  | d k v => exact goal rfl rfl fun h => wpAny_noted h
  | s e => exact goal rfl rfl fun h => wpAny_noted h
theorem core_hot {C : Cx → Prop} {c : Ck} {pins : List (Addr × Obj)} {s : Shared} {σ : L2.St} {Q : VK} {tg iter : Expr} {ifs : List Expr} {rest : List Comprehension} {scope : Scope} {own : List (Str × Nat)} {vd : List Nat} {pos pos' p : Pos} {wi : TI} {g : TG} {tt : TT} {body : Addr → TH} {m : Value → Env → Sem PySem.Fin → Sem PySem.Fin} {use : Option (Value → Sem Unit)} {Qf : Value → Shared → Prop}
    (hC : ∀ (s : Shared) (H : Hp) (σ : L2.St) (L : Addr) (cl : List (Str × Addr)) (fp : List Addr), Inv X pins σ H s → (∀ b ∈ fp, FpOk X pins H b) → C (X.blk s H scope (compEnvC scope cl L X.env) fp)) (hN : X.N.Nodup) (I : Inv X pins σ H s) (hi : PIC C X tg iter wi) (ok : BlkOk X.N X.env.scope scope own) (sub : ∀ l ∈ vd, l ∈ own.map (·.2))
    (te : TurnEq (c.ex (⟨tg, iter, ifs, 0⟩ :: rest) scope pos) 0 tg ifs p m)
    (hg : Blks X scope fun Y => C Y → PG Y tg g) (ht : Blks X scope fun Y => PTs Y ifs tt) (hm : ∀ D, Blks X scope fun Y => PAct Y vd (m (.ref D) Y.env) (body D)) (hs : ∀ x, foldedSetIterable iter X.env x = pure x)
    (h : tCk X.prog X.w c wi g tt body (own.map (·.2)) σ H Q)
    (hRR : ∀ D C s' m H', Inv X pins σ H' s' → Q (.ref D) H' → s'.heap.Ns C m → FpOk X pins H' C → compPost (model X.prog X.w) X.A X.xe use Qf (.ref D) C (.ok .next) s') :
    wpAny (model X.prog X.w) X.A (comprehension (c.ex (⟨tg, iter, ifs, 0⟩ :: rest) scope pos) scope X.env pos' c.new false (eval iter X.env) use) Qf X.xe s := by
  have hfree : ∀ y ∈ scope.names, y.2 = .free → ∃ z, X.env.cells.lookup y.1 = some z := fun y hy e => (ok.free y hy e).elim (fun k => I.ok.has _ (.inl k)) (fun k => I.ok.has _ (.inr k))
  have hcl : clausesOf (c.ex (⟨tg, iter, ifs, 0⟩ :: rest) scope pos) = ⟨tg, iter, ifs, 0⟩ :: rest := by cases c <;> rfl
  refine wpAny_comprehension_free (use := use) hcl hs (closure_ok hfree) ok.kind (fun y hy e => by rw [ok.uniq y hy, e]) (thn (hi.run pins s σ H _ I h) fun xv s1 h1 => thn h1 fun itv s2 h2 => ?_)
  obtain ⟨it, fp, tn, J, H2, e, I2, T, st2, f2, q⟩ := h2
  subst e
  refine c.new_ok (newEnv_comp ?_)
  generalize hD : s2.heap.objs.size = D
  have hDn : H2 D = none := I2.hok.fresh (Nat.le_of_eq hD)
  obtain ⟨Wm, ⟨m0, w0⟩, turn⟩ := q D hDn
  generalize hs3 : ({ s2 with heap := s2.heap.push (c.obj X.w) } : Shared) = s3
  have h3 : s3.heap = s2.heap.push (c.obj X.w) := by rw [← hs3]
  have I3 : Inv X pins σ (upd H2 D (c.ho X.prog X.w D)) s3 := by
    rw [← hs3]
    refine I2.laid (t' := s2.toks) (fun b o e => Heap.get?_push_of_some _ e) (Nat.le_of_eq hD) ?_
    rw [← hD]
    exact Ck.ok s2.heap I2.big
  have f3 : ∀ b ∈ fp, FpOk X pins (upd H2 D (c.ho X.prog X.w D)) b ∧ b < s3.heap.objs.size := fun b hb => by
    obtain ⟨o, e, _⟩ := T.obj _ _ st2 b hb
    have lt := Heap.lt_size e
    refine ⟨fp_stays (f2 b hb) ?_, by rw [h3, Heap.size_push]; exact Nat.lt_succ_of_lt lt⟩
    rw [upd_ne (by rw [← hD]; exact Nat.ne_of_lt lt)]
    exact (f2 b hb).1
  have st3 : tn 0 s3.heap := T.keep _ _ _ st2 fun b _ o e => by rw [h3]; exact Heap.get?_push_of_some _ e
  have I4 := block_start I3 ok hN f3
  generalize hcells : cellsFrom (s3.heap.objs.size + 1) scope.names (cloFrom X.env.cells scope.names []) = cl at I4
  have cY := hC s3 (upd H2 D (c.ho X.prog X.w D)) σ s3.heap.objs.size cl fp I3 fun b hb => (f3 b hb).1
  have pg := hg s3 (upd H2 D (c.ho X.prog X.w D)) s3.heap.objs.size cl fp cY
  have pt := ht s3 (upd H2 D (c.ho X.prog X.w D)) s3.heap.objs.size cl fp
  have pm := hm D s3 (upd H2 D (c.ho X.prog X.w D)) s3.heap.objs.size cl fp
  show codeAny _ _ (.compStart (c.ex (⟨tg, iter, ifs, 0⟩ :: rest) scope pos) 0 (.ref it) (.ref D) (compEnvC scope cl s3.heap.objs.size X.env)) (compPost (model X.prog X.w) X.A X.xe use Qf (.ref D) s3.heap.objs.size) { s3 with heap := pushCells (s3.heap.push { cls := .type "dict", data := .dict #[] }) scope.names }
  generalize hH3 : upd H2 D (c.ho X.prog X.w D) = H3 at I3 I4 pg pt pm w0 f3 cY
  generalize hs4 : ({ s3 with heap := pushCells (s3.heap.push { cls := .type "dict", data := .dict #[] }) scope.names } : Shared) = s4 at I4 ⊢
  have st4 : tn 0 s4.heap := T.keep _ _ _ st3 fun b _ o e => by rw [← hs4]; exact pushCells_keeps _ _ _ _ (Heap.get?_push_of_some _ e)
  have f4 : ∀ b ∈ fp, FpOk (X.blk s3 H3 scope (compEnvC scope cl s3.heap.objs.size X.env) fp) [] H3 b := fun b hb =>
    ⟨(f3 b hb).1.1, (I4.ok.exf b hb).1, I4.ok.exfs b hb, .inl hb, fun x z e => (I4.ok.exf b hb).2 x z e, fun p hp => absurd (show p ∈ ([] : List (Addr × Obj)) ++ [] from hp) (by simp)⟩
  have loop : codeAny (model X.prog X.w) X.A (.compLoop (c.ex (⟨tg, iter, ifs, 0⟩ :: rest) scope pos) 0 (.ref it) (.ref D) (compEnvC scope cl s3.heap.objs.size X.env)) (compPost (model X.prog X.w) X.A X.xe use Qf (.ref D) s3.heap.objs.size) s4 :=
    loop_hot (C := C) (Y := X.blk s3 H3 scope (compEnvC scope cl s3.heap.objs.size X.env) fp) (Out := Q (.ref D)) rfl cY te T pg pt pm sub I4 st4 f4 m0 w0 turn fun s6 H6 I6 out => by
      have I7 : Inv X pins σ H6 s6 := I3.call' (ch := fp) I6.os I6.base I6.hok I6.bare fun b hb => ⟨(f3 b hb).1.2.2.2.1, (f3 b hb).1.2.1, (f3 b hb).1.2.2.2.2.1, (f3 b hb).1.2.2.2.2.2⟩
      have nC : H6 s3.heap.objs.size = none := I6.free
      obtain ⟨mm, hn, _⟩ := I6.loc
      exact hRR D s3.heap.objs.size s6 mm H6 I7 out hn (I3.fpOk (Nat.le_refl _) nC)
  exact start_gen rfl loop (T.self X.A 0 _ _ _ st4 loop)
/-- a list, as a value -/
theorem pe_lcC {C : Cx → Prop} {elt tg iter : Expr} {ifs : List Expr} {rest : List Comprehension} {scope : Scope} {own : List (Str × Nat)} {vd : List Nat} {pos p : Pos} {wi : TI} {g : TG} {tt : TT} {body : Addr → TH} {m : Value → Env → Sem PySem.Fin → Sem PySem.Fin}
    (hC : ∀ (pins : List (Addr × Obj)) (s : Shared) (H : Hp) (σ : L2.St) (L : Addr) (cl : List (Str × Addr)) (fp : List Addr), Inv X pins σ H s → (∀ b ∈ fp, FpOk X pins H b) → C (X.blk s H scope (compEnvC scope cl L X.env) fp)) (hN : X.N.Nodup) (hi : PIC C X tg iter wi) (ok : BlkOk X.N X.env.scope scope own) (sub : ∀ l ∈ vd, l ∈ own.map (·.2))
    (te : TurnEq ((Ck.l elt).ex (⟨tg, iter, ifs, 0⟩ :: rest) scope pos) 0 tg ifs p m) (hg : Blks X scope fun Y => C Y → PG Y tg g) (ht : Blks X scope fun Y => PTs Y ifs tt) (hm : ∀ D, Blks X scope fun Y => PAct Y vd (m (.ref D) Y.env) (body D)) (hs : ∀ x, foldedSetIterable iter X.env x = pure x) :
    PE X (.ListComp elt (⟨tg, iter, ifs, 0⟩ :: rest) scope pos) (tCk X.prog X.w (.l elt) wi g tt body (own.map (·.2))) := ⟨fun pins s σ H Q I h => by
  rw [arm_eval_ListComp]
  refine core_hot (C := C) (c := .l elt) (hC pins) hN I hi ok sub te hg ht hm hs h fun D L s' m H' I' q hn f => ⟨m, hn, fun h'' sb => ?_⟩
  obtain ⟨f0, f1, f2, f3, f4, f5⟩ := f
  exact ⟨.ref D, H', I'.turned (t' := s'.toks) (fun b o hb e => (sb.2 b hb).trans e) f0 f1 f3 f4 f5, rfl, q⟩⟩
end G

set_option Elab.async false
set_option linter.all false
set_option maxRecDepth 100000
set_option maxHeartbeats 4000000
namespace G
open PySem L2 PySem.Spec PyProof.Rows HotX L2H
variable {M : Md} {H H' H1 H2 : Hp} {ι ι' ι1 ι2 : List Addr} {X : Cx} {W' : WX}
/-- the context bears the handled error at x1 -/
def HotY (x1 : Addr) (Y : Cx) : Prop := Y.A.handled = some (.ref x1) ∧ ∀ (pins : List (Addr × Obj)) (σ : L2.St) (H : Hp) (s : Shared), Inv Y pins σ H s → HotAt Y.A x1 s.heap
theorem hotY_of {p : Addr × Obj} (h : Hot1 X.A p) (hp : p ∈ X.pn) : HotY p.1 X := ⟨h.1, fun pins σ H s I => by
  obtain ⟨vs, e1, e2⟩ := h.2
  exact ⟨h.1, p.2, vs, (I.pin p (List.mem_append_left _ hp)).1, e1, e2⟩⟩
theorem hotY_blk {p : Addr × Obj} {pins : List (Addr × Obj)} {σ : L2.St} {s0 : Shared} {H0 : Hp} {scope : Scope} {env : Env} {fp : List Addr} (h : Hot1 X.A p) (hp : p ∈ X.pn) (I0 : Inv X pins σ H0 s0) (f : ∀ b ∈ fp, FpOk X pins H0 b) : HotY p.1 (X.blk s0 H0 scope env fp) := ⟨h.1, fun pins' σ' H' s' I => by
  obtain ⟨vs, e1, e2⟩ := h.2
  obtain ⟨g1, g2, g3, g4, g5⟩ := I0.pin p (List.mem_append_left _ hp)
  have nf : p.1 ∉ fp := fun hm => (f p.1 hm).2.2.2.2.2 p (List.mem_append_left _ hp) rfl
  have ns : p.1 ∉ (X.blk s0 H0 scope env fp).fs := fun hm => (List.mem_cons.mp (I0.stkSub p.1 hm)).elim g3 g4
  exact ⟨h.1, p.2, vs, I.base.keep p.1 p.2 g1 g2 ns nf, e1, e2⟩⟩
/-- a, b = a pair -/
theorem pg_tupH {x1 : Addr} {es : List Expr} {k : Nat} {pos : Pos} {t : TGs} {n : Nat} (hc : HotY x1 X) (h : PGs X es t) (hn : (assignEach es X.env).length = n) (hst : (assignEach es X.env).findIdx? (·.1) = none) : PG X (.Tuple es k pos) (gTup X.K n t) := by
  refine ⟨fun pins s σ H v u Q I r hw => ?_⟩
  obtain ⟨a, xs, rfl, hq, hl, hw⟩ := hw
  cases r
  obtain ⟨its, rv, ht, hz⟩ := I.tuple hq
  rw [assign_Tuple]
  refine wpAny_bind (wpAny_standAt (unpack_hot (hc.2 _ _ _ _ I) ht (by simp [hn, ← hl, rv.length]) hst fun h' hx => ?_))
  exact h.run pins _ σ H xs _ Q (I.kept (t' := s.toks) fun b o e => hx b o (Nat.ne_of_lt (Heap.lt_size e)) e) (by simpa using rv) hw
/-- zip of two lists -/
theorem turn_zipH {x1 : Addr} {P : Program} {w : World} {K : PySem.W.Frag} {elts : List Expr} {kk : Nat} {tpos : Pos} {a b z TI TO i1 i2 : Addr} (D : ZipSep2 z TI TO i1 i2 [i1, a, x1] [i2, b, x1]) (na : a ≠ i1) (nb : b ≠ i2) (n1 : x1 ≠ i1) (n2 : x1 ≠ i2) :
    TurnC (HotY x1) P w K (.Tuple elts kk tpos) (ItzB K false false a b) [z, TI, TO, i1, i2] z (fun i h => IsZip h z TI TO .none ∧ IsTupOf2 h TI (.ref i1) (.ref i2) ∧ (∃ x y, IsTupOf2 h TO x y) ∧ ItB false h i1 a i ∧ ItB false h i2 b i) where
  mem := List.mem_cons_self ..
  obj := fun i h ⟨hz, hI, ⟨x, y, hO⟩, h1, h2⟩ c hc => by
    simp only [List.mem_cons, List.not_mem_nil, or_false] at hc
    rcases hc with rfl | rfl | rfl | rfl | rfl
    · exact ⟨_, hz, fun v q => nomatch q⟩
    · exact ⟨_, hI, fun v q => nomatch q⟩
    · exact ⟨_, hO, fun v q => nomatch q⟩
    · exact itB_obj h1
    · exact itB_obj h2
  keep := fun i h h' ⟨hz, hI, ⟨x, y, hO⟩, h1, h2⟩ k => ⟨k z (by simp) _ hz, k TI (by simp) _ hI, ⟨x, y, k TO (by simp) _ hO⟩, itB_keep h1 fun o q => k i1 (by simp) o q, itB_keep h2 fun o q => k i2 (by simp) o q⟩
  item := by
    rintro X rfl rfl rfl hc i pins s σ H E I hf ⟨hz, hI, ⟨x0, y0, hO⟩, h1, h2⟩ ⟨xs, ys, x, y, qx, qy, hx, hy⟩
    obtain ⟨ux, rv, p⟩ := seqB_of I qx
    obtain ⟨uy, rv2, p2⟩ := seqB_of I qy
    obtain ⟨u, hu, ru⟩ := rv.get hx
    obtain ⟨u2, hu2, ru2⟩ := rv2.get hy
    have hot := hc.2 _ _ _ _ I
    have hh : X.A.in1.handled = some (.ref x1) := hc.1
    have hot1 : HotAt X.A.in1 x1 s.heap := hot
    have lz : z < s.heap.objs.size := Heap.lt_size hz
    have l1 : i < ux.toArray.size := by simpa using (List.getElem?_eq_some_iff.mp hu).1
    have l2 : i < uy.toArray.size := by simpa using (List.getElem?_eq_some_iff.mp hu2).1
    refine wpAny_pyNext_zipD2_item D (draws_hot i1 a na n1 _ hh) (draws_hot i2 b nb n2 _ hh) hz hI hO ⟨⟨h1, p⟩, hot1⟩ ⟨⟨h2, p2⟩, hot1⟩ l1 l2 fun v1 v2 h' tk e1 e2 z' O' s1 s2 hT hsz hk => ?_
    have e1 : u = v1 := Option.some.inj (by rw [← hu, ← e1]; simp)
    have e2 : u2 = v2 := Option.some.inj (by rw [← hu2, ← e2]; simp)
    subst e1 e2
    refine ⟨_, rfl, wpAny_letOwnedTupleGo_zip (s := { s with heap := h', toks := tk }) z' fun h'' z'' sb => ?_⟩
    have hT2 : h''.get? s.heap.objs.size = some { cls := .type "tuple", data := .seq #[u, u2] } := (sb.2 _ (Nat.ne_of_gt lz)).trans hT
    have new : ObjOk X.prog X.w (upd H s.heap.objs.size (.tup [x, y])) h'' s.heap.objs.size (.tup [x, y]) := ⟨(by decide : (2 : Nat) ≤ sizeLine), _, .cons ru (.cons ru2 .nil), _, hT2, rfl, _, rfl⟩
    have ks : ∀ c o, c ∉ [z, TI, TO, i1, i2] → s.heap.get? c = some o → h''.get? c = some o := fun c o hc q => by
      simp only [List.mem_cons, List.not_mem_nil, or_false, not_or] at hc
      exact (sb.2 c hc.1).trans (hk c o hc.1 hc.2.2.1 hc.2.2.2.1 hc.2.2.2.2 q)
    have I1 : Inv X pins σ (upd H s.heap.objs.size (.tup [x, y])) { s with heap := h'', toks := tk } := I.turnedNew ks hf (Nat.le_refl _) new
    refine ⟨.ref s.heap.objs.size, _, I1, rfl, ⟨_, x, y, rfl, I.hok.fresh (Nat.le_refl _), rfl, fun l hl => by rw [seqB_one I hl qx]; exact hx, fun l hl => by rw [seqB_one I hl qy]; exact hy⟩, ⟨z'', (sb.2 _ D.TIz).trans (hk _ _ D.TIz D.TITO D.TIi1 D.TIi2 hI), ⟨u, u2, (sb.2 _ D.TOz).trans O'⟩, itB_keep (k := false) s1.1.1 fun o q => (sb.2 _ (fun e => D.zf1 (e ▸ D.mem1))).trans q, itB_keep (k := false) s2.1.1 fun o q => (sb.2 _ (fun e => D.zf2 (e ▸ D.mem2))).trans q⟩, fun c hcm => ?_⟩
    have lt : c < s.heap.objs.size := by
      simp only [List.mem_cons, List.not_mem_nil, or_false] at hcm
      rcases hcm with rfl | rfl | rfl | rfl | rfl
      · exact lz
      · exact Heap.lt_size hI
      · exact Heap.lt_size hO
      · obtain ⟨_, e, _⟩ := itB_obj h1; exact Heap.lt_size e
      · obtain ⟨_, e, _⟩ := itB_obj h2; exact Heap.lt_size e
    rw [upd_ne (Nat.ne_of_lt lt)]
    exact (hf c hcm).1
  done := by
    rintro X rfl rfl rfl hc i pins s σ H E I hf ⟨hz, hI, ⟨x0, y0, hO⟩, h1, h2⟩ ⟨xs, ys, qx, qy, b1, b2, b3⟩
    obtain ⟨ux, rv, p⟩ := seqB_of I qx
    obtain ⟨uy, rv2, p2⟩ := seqB_of I qy
    have hot1 : HotAt X.A.in1 x1 s.heap := hc.2 _ _ _ _ I
    have hh : X.A.in1.handled = some (.ref x1) := hc.1
    have e1 : ux.toArray.size = xs.length := by rw [rv.length]; simp
    have e2 : uy.toArray.size = ys.length := by rw [rv2.length]; simp
    refine wpAny_pyNext_zipD2_end D (draws_hot i1 a na n1 _ hh) (draws_hot i2 b nb n2 _ hh) hz hI hO ⟨⟨h1, p⟩, hot1⟩ ⟨⟨h2, p2⟩, hot1⟩ (by rw [e1]; exact b1) (by rw [e2]; exact b2) (by rw [e1, e2]; exact b3) fun h' tk hk => ⟨rfl, I.turnedL (fun c o hc q => ?_) hf⟩
    simp only [List.mem_cons, List.not_mem_nil, or_false, not_or] at hc
    exact hk c o hc.1 hc.2.2.1 hc.2.2.2.1 hc.2.2.2.2 q
  self := fun A i s Q E st h => wpAny_pyIter_zip st.1 h
def iZipL (K : PySem.W.Frag) (ta : TA) : TI := fun σ H R => ta σ H fun vs H1 => ∃ a b xs ys, vs = [.ref a, .ref b] ∧ SqL K H1 a xs ∧ SqL K H1 b ys ∧ R (ItzB K false false a b) H1
theorem pi_zipH {x1 : Addr} {e e2 : Expr} {ta : TA} {p pos tpos : Pos} {elts : List Expr} {kk : Nat} (hc : HotY x1 X) (hg : Gl X "zip") (hm : X.mg "zip" = none) (hp : [e, e2].all plainArg = true) (ha : PA X [e, e2] ta) :
    PIC (HotY x1) X (.Tuple elts kk tpos) (.Call (.Name "zip" p) [e, e2] [] pos) (iZipL X.K ta) := ⟨fun pins s σ H R I h => by
  rw [List.all_cons, Bool.and_eq_true] at hp
  refine Call_ (ld_blt I hg hm PyProof.Rows.boot_zip (PyProof.Rows.callWith_type1 (thn (ha.run pos pins s σ H _ I h) fun us s1 hr => ?_) (starEach_cons hp.1) (starEach_plain hp.2)))
  obtain ⟨vs, H1, I1, r1, a, b, xs, ys, rfl, qx, qy, q⟩ := hr
  obtain ⟨v, v2, rfl, ra, rb⟩ : ∃ v v2, us = [v, v2] ∧ RelV (.ref a) v ∧ RelV (.ref b) v2 := by
    cases r1 with
    | cons r rr => cases rr with
      | cons r' rr => cases rr; exact ⟨_, _, rfl, r, r'⟩
  cases ra
  cases rb
  obtain ⟨ux, rv, px⟩ := seqB_of (k := false) I1 qx
  obtain ⟨uy, rv2, py⟩ := seqB_of (k := false) I1 qy
  have l1 := isB_lt px
  have l2 := isB_lt py
  have l3 : x1 < s1.heap.objs.size := by
    obtain ⟨_, o1, _, h1, _⟩ := hc.2 _ _ _ _ I1
    exact Heap.lt_size h1
  refine zip_begins2 (beginsB false a _) (beginsB false b _) px py fun h' z' I' O' j1 j2 hsz hk => wpAny_pyIter_zip z' ?_
  have I2 : Inv X pins σ H1 { s1 with heap := h' } := I1.kept (t' := s1.toks) hk
  have m2 : ∀ {c : Addr} (l : c < s1.heap.objs.size), ∀ y ∈ [c, x1], y < s1.heap.objs.size := fun {c} l y hy => by
    simp only [List.mem_cons, List.not_mem_nil, or_false] at hy
    rcases hy with rfl | rfl
    · exact l
    · exact l3
  refine ⟨_, _, _, _, H1, rfl, I2, turn_zipH (x1 := x1) (i1 := s1.heap.objs.size) (i2 := s1.heap.objs.size + 1) (zip_sep2 (N := s1.heap.objs.size) (m2 l1) (m2 l2)) (Nat.ne_of_lt l1) (Nat.ne_of_lt (Nat.lt_succ_of_lt l2)) (Nat.ne_of_lt l3) (Nat.ne_of_lt (Nat.lt_succ_of_lt l3)), ⟨z', I', ⟨_, _, O'⟩, itB_new j1, itB_new j2⟩, fun c hc => fresh_fp I1 ?_, q⟩
  simp only [List.mem_cons, List.not_mem_nil, or_false] at hc
  rcases hc with rfl | rfl | rfl | rfl | rfl
  · exact Nat.le_add_right _ _
  · exact Nat.le_add_right _ _
  · exact Nat.le_add_right _ _
  · exact Nat.le_refl _
  · exact Nat.le_add_right _ _⟩
end G

set_option Elab.async false
set_option linter.all false
set_option maxRecDepth 100000
set_option maxHeartbeats 4000000
namespace G
open PySem L2 PySem.Spec PyProof.Rows HotX L2H
variable {M : Md} {H H' H1 H2 : Hp} {ι ι' ι1 ι2 : List Addr} {X : Cx} {W' : WX}
/-! ### isinstance of the error that is handled -/
theorem call_isP {p : Addr × Obj} {D : Addr} (hp : p ∈ X.pn) (C : L2.ExcC X.K D) (hz : Zc (.ref D) none p.2) (hf : ∃ vs, p.2.data = .fields vs) : CallR X (.builtin "isinstance") (rIsE X.K D p.1) := by
  obtain ⟨a, oe⟩ := p
  intro pins s σ H xs us Q I r h
  obtain ⟨c, cv, b, rfl, hcv, e, q⟩ := h
  cases r with
  | cons rx rr =>
    cases rr with
    | cons rt rr =>
      cases rr
      cases rx
      obtain rfl := hcv _ rt
      have hget := (I.pin (a, oe) (List.mem_append_left _ hp)).1
      have J : PySem.W.InstAt s.heap a oe D none := by
        obtain ⟨vs, hv⟩ := hf
        obtain ⟨oc, od, oda, osl⟩ := oe
        obtain ⟨h1, h2⟩ := hz
        dsimp only at h1 h2 hv
        subst h1 h2 hv
        exact ⟨hget, rfl, rfl, trivial⟩
      exact PySem.W.kia_one (PySem.W.handS_kitx_exc C.hg C.hk C.hs C.hd C.ha C.hn C.ht C.hm) I.kIn J e (fun z => nomatch z) fun tk => ⟨.bl b, H, I.kept (t' := tk) fun _ _ z => z, rfl, q⟩
def tIs (i : Nat) (a : Addr) (b : Bool) : TE := fun σ H Q => σ[i]? = some (some (.ref a)) ∧ Q (.bl b) H
theorem pe_isP {p : Addr × Obj} {D C : Addr} {i : Nat} {e y : Str} {b : Bool} {p1 p2 p3 p4 : Pos} (hp : p ∈ X.pn) (Ce : L2.ExcC X.K D) (hz : Zc (.ref D) none p.2) (hf : ∃ vs, p.2.data = .fields vs) (hi : X.mg "isinstance" = none) (gi : Gl X "isinstance") (hN : X.N[i]? = some e) (hv : Vis X.env.scope e) (he1 : (e == ("__debug__" : Str)) = false) (he2 : (e == ("__classdict__" : Str)) = false)
    (gy : Gl X y) (hy : X.mg y = some (.ref C)) (hd : (y == ("__debug__" : Str)) = false) (k : PySem.W.kitOne X.K (.ref D) (.ref C) = some b) : PE X (.Call (.Name "isinstance" p1) [.Name e p2, .Name y p3] [] p4) (tIs i p.1 b) :=
  PE.imp (pe_callB (call_isP hp Ce hz hf) gi hi PyProof.Rows.boot_isinstance (pa_cons (pe_var hN hv he1 he2) (pa_cons (pe_glob gy hy (v := .ref C) rfl hd) pa_nil))) fun σ H Q ⟨h1, h2⟩ => ⟨_, h1, .ref C, .ref C, b, rfl, fun u r => r, k, h2⟩
/-! ### an item that is kept -/
theorem act_appV {D : Addr} {elt : Expr} {te : TE} (hx : X.xe = fun _ _ => False) (he : PE X elt te) : PAct X [] (fun k => Ck.emit (.l elt) (.ref D) X.env >>= fun _ => k) (fun σ H Q => te σ H fun y H1 => ∃ xs, H1 D = some (.lst xs) ∧ xs.length < sizeLine ∧ Q (upd H1 D (.lst (xs ++ [y])))) := ⟨fun pins s σ H Q k Qk Er I h hk => by
  have up : ∀ {α : Type} {t : Sem α} {Q Q' : α → Shared → Prop} {E' : Value → Shared → Prop} {s : Shared}, wpAny (model X.prog X.w) X.A t Q X.xe s → (∀ a s, Q a s → Q' a s) → wpAny (model X.prog X.w) X.A t Q' E' s := fun h k => by
    rw [hx] at h
    exact thnF h k
  exact wpAny_bind (wpAny_bind (up (he.run pins s σ H _ I h) fun x s1 ⟨y, H4, I4, r4, xs, e4, hz, q⟩ => wpAny_bind (app_ok I4 e4 hz r4 fun s5 I5 => wpAny_pure (hk s5 _ σ I5 rfl q))))⟩
theorem pe_isV {p : Addr × Obj} {D : Addr} {i : Nat} {e : Str} {b : Bool} {p1 p2 p3 p4 : Pos} (hp : p ∈ X.pn) (Ce : L2.ExcC X.K D) (hz : Zc (.ref D) none p.2) (hf : ∃ vs, p.2.data = .fields vs) (hi : X.mg "isinstance" = none) (gi : Gl X "isinstance") (hN : X.N[i]? = some e) (hv : Vis X.env.scope e) (he1 : (e == ("__debug__" : Str)) = false) (he2 : (e == ("__classdict__" : Str)) = false)
    (gy : Gl X "ValueError") (hy : X.mg "ValueError" = none) (k : PySem.W.kitOne X.K (.ref D) (.type "ValueError") = some b) : PE X (.Call (.Name "isinstance" p1) [.Name e p2, .Name "ValueError" p3] [] p4) (tIs i p.1 b) :=
  PE.imp (pe_callB (call_isP hp Ce hz hf) gi hi PyProof.Rows.boot_isinstance (pa_cons (pe_var hN hv he1 he2) (pa_cons (pe_bltn (v := .ty "ValueError") (u := .type "ValueError") gy hy (by decide +kernel) rfl) pa_nil))) fun σ H Q ⟨h1, h2⟩ => ⟨_, h1, .ty "ValueError", .type "ValueError", b, rfl, fun u r => r, k, h2⟩
/-! ### what names the error -/
def dNm61 : Fd := fdAt61 "_law_names_of"
abbrev sNm : Stmt := dNm61.st
def nmN : List Str := ["_law_e", "_law_some_here", "_law_labels", "_law_label", "_law_good"]
theorem dNm61_eq : dNm61.N = nmN ∧ dNm61.ps = (["_law_e"] : List Str) := ⟨by kernel_rfl, by kernel_rfl⟩
theorem scNm : FnScope nmN ["_law_e"] (defScope sNm) := ⟨rfl, rfl, rfl, by decide +kernel, rfl, by decide +kernel, by decide +kernel⟩
/-- the texts of the marks that stand -/
def pick : List Str → List Bool → List Str
  | x :: xs, b :: bs => if b = true then x :: pick xs bs else pick xs bs
  | _, _ => []
def labT : Str := "store deed deeds step words tree number many value"
def labL : List Str := ["store", "deed", "deeds", "step", "words", "tree", "number", "many", "value"]
theorem labL_eq : Txt.split labT " " = labL := by decide +kernel
/-- the eight classes, and which of them D is below; at last ValueError -/
structure Kits (X : Cx) (D : Addr) (bs : Nat → Bool) : Prop where
  at_ : ∀ (i : Nat) (y : Str), nmC[i]? = some y → ∃ C, X.mg y = some (.ref C) ∧ PySem.W.kitOne X.K (.ref D) (.ref C) = some (bs i)
  ve : PySem.W.kitOne X.K (.ref D) (.type "ValueError") = some (bs 8)
end G

set_option Elab.async false
set_option linter.all false
set_option maxRecDepth 100000
set_option maxHeartbeats 4000000
namespace G
open PySem L2 PySem.Spec PyProof.Rows HotX L2H
variable {M : Md} {H H' H1 H2 : Hp} {ι ι' ι1 ι2 : List Addr} {X : Cx} {W' : WX}
def nmComp : Expr := match defBody sNm with
  | [_, _, _, _, .Return (some (.Call _ [e] _ _)) _] => e
  | _ => .Constant .none 0 ⟨0, 0, 0, 0⟩
def nmElt : Expr := match nmComp with
  | .ListComp e _ _ _ => e
  | _ => .Constant .none 0 ⟨0, 0, 0, 0⟩
def nmGen : Comprehension := match nmComp with
  | .ListComp _ (g :: _) _ _ => g
  | _ => ⟨.Constant .none 0 ⟨0, 0, 0, 0⟩, .Constant .none 0 ⟨0, 0, 0, 0⟩, [], 0⟩
def nmSc : Scope := match nmComp with
  | .ListComp _ _ s _ => s
  | _ => default
theorem nm_l3 : nmSc.names.lookup ("_law_label" : Str) = some .local := by decide +kernel
theorem nm_l4 : nmSc.names.lookup ("_law_good" : Str) = some .local := by decide +kernel
def nmOwn : List (Str × Nat) := [("_law_label", 3), ("_law_good", 4)]
theorem nm_blk : BlkOk nmN (defScope sNm) nmSc nmOwn := ⟨rfl, by decide +kernel, by decide +kernel, by decide +kernel, by decide +kernel⟩
theorem pick_step {ls : List Str} {bs : List Bool} : ∀ {i : Nat} {x : Str} {b : Bool}, ls[i]? = some x → bs[i]? = some b → pick (ls.take (i + 1)) (bs.take (i + 1)) = pick (ls.take i) (bs.take i) ++ (if b = true then [x] else []) := by
  induction ls generalizing bs with
  | nil => intro i x b h; simp at h
  | cons l ls ih =>
    intro i x b h1 h2
    cases bs with
    | nil => simp at h2
    | cons c bs =>
      cases i with
      | zero =>
        simp at h1 h2
        subst h1 h2
        cases c <;> simp [pick]
      | succ i =>
        have z := ih (bs := bs) (i := i) (by simpa using h1) (by simpa using h2)
        show (if c = true then l :: pick (ls.take (i + 1)) (bs.take (i + 1)) else pick (ls.take (i + 1)) (bs.take (i + 1))) = (if c = true then l :: pick (ls.take i) (bs.take i) else pick (ls.take i) (bs.take i)) ++ _
        rw [z]
        cases c <;> simp
theorem pick_len : ∀ (ls : List Str) (bs : List Bool), (pick ls bs).length ≤ ls.length
  | [], _ => Nat.le_refl _
  | l :: ls, [] => Nat.zero_le _
  | l :: ls, c :: bs => by
    have z := pick_len ls bs
    show (if c = true then l :: pick ls bs else pick ls bs).length ≤ ls.length + 1
    cases c <;> simp <;> omega
def bsL (bs : Nat → Bool) : List Bool := [bs 0, bs 1, bs 2, bs 3, bs 4, bs 5, bs 6, bs 7, bs 8]
/-- the comprehension -/
theorem pe_nmComp {p : Addr × Obj} {bs : Nat → Bool} (hot : Hot1 X.A p) (hp : p ∈ X.pn) (hzip : X.mg "zip" = none) (nd : X.N = nmN) (hs : X.env.scope = defScope sNm) :
    PE X nmComp (fun σ H Q => ∃ m, List.length σ = 5 ∧ σ[1]? = some (some (.ref m)) ∧ σ[2]? = some (some (.str labT)) ∧ H m = some (.lst ((bsL bs).map V.bl)) ∧
      ∀ H' L, (∀ b o, H b = some o → H' b = some o) → H' L = some (.lst ((pick labL (bsL bs)).map V.str)) → Q (.ref L) H') := by
  have gl : ∀ x : Str, (defScope sNm).names.lookup x = some .globalImplicit → Gl X x := fun x e => by
    show X.env.kindOf _ = _
    unfold Env.kindOf
    rw [hs]
    exact e
  have v : ∀ x : Str, (defScope sNm).names.lookup x = some .local → Vis X.env.scope x := fun x e => .inl (by rw [hs]; exact e)
  have n1 : X.N[1]? = some ("_law_some_here" : Str) := by rw [nd]; rfl
  have n2 : X.N[2]? = some ("_law_labels" : Str) := by rw [nd]; rfl
  have n3 : X.N[3]? = some ("_law_label" : Str) := by rw [nd]; rfl
  have n4 : X.N[4]? = some ("_law_good" : Str) := by rw [nd]; rfl
  have hN : X.N.Nodup := by rw [nd]; exact scNm.nd
  refine PE.imp (pe_lcC (C := HotY p.1) (own := nmOwn) (vd := []) (g := gTup X.K 2 (gCons (gName 3) (gCons (gName 4) gNil))) (tt := tB (tVar 4)) (body := fun D σ H Q => tVar 3 σ H fun y H1 => ∃ xs, H1 D = some (.lst xs) ∧ xs.length < sizeLine ∧ Q (upd H1 D (.lst (xs ++ [y])))) (fun pins s H σ L cl fp I f => hotY_blk hot hp I f) hN (pi_zipH (hotY_of hot hp) (gl "zip" (by decide +kernel)) hzip rfl (pa_cons (pe_split (pv 2 n2 (v "_law_labels" (by decide +kernel))) pe_str) (pa_cons (pv 1 n1 (v "_law_some_here" (by decide +kernel))) pa_nil)))
    (by rw [nd, hs]; exact nm_blk) (fun l h => by cases h) (turn_last rfl rfl) (fun s H L cl fp hY => pg_tupH (n := 2) hY (pgs_cons (pg_name (i := 3) hN n3 (.inl nm_l3) (hf := .inr nm_l3)) (pgs_cons (pg_name (i := 4) hN n4 (.inl nm_l4) (hf := .inr nm_l4)) pgs_nil)) rfl rfl)
    (fun s H L cl fp => pts_one (pt_val (pv 4 n4 (.inl nm_l4)))) (fun D s H L cl fp => act_appV rfl (pv 3 n3 (.inl nm_l3))) (fun _ => rfl)) fun σ H Q h => ?_
  obtain ⟨m, hlen, s1, s2, hm, hQ⟩ := h
  refine ⟨_, s2, ⟨_, rfl⟩, _, _, rfl, rfl, by decide, by decide, fun l hl => ?_⟩
  rw [labL_eq]
  refine ⟨_, s1, ?_⟩
  generalize hH1 : upd H l _ = H1
  have x1 : ∀ b o, H b = some o → H1 b = some o := fun b o e => by
    rw [← hH1]
    exact (upd_ne (ne_of_none e hl)).trans e
  have hl1 : H1 l = some (.lst (labL.map V.str)) := by rw [← hH1]; exact upd_same
  have hb1 := x1 _ _ hm
  refine ⟨l, m, _, _, rfl, SqL.of hl1, SqL.of hb1, fun L hL => ?_⟩
  have x2 : ∀ b o, H1 b = some o → (upd H1 L ((Ck.l nmElt).ho X.prog X.w L)) b = some o := fun b o e => (upd_ne (ne_of_none e hL)).trans e
  refine ⟨fun i n H' => n + i = 9 ∧ (∀ b o, H1 b = some o → H' b = some o) ∧ H' L = some (.lst ((pick (labL.take i) ((bsL bs).take i)).map V.str)), ⟨9, rfl, x2, upd_same⟩, fun i n H' ⟨w1, w2, w3⟩ => ?_⟩
  have hl2 := w2 _ _ hl1
  have hb2 := w2 _ _ hb1
  by_cases h7 : i = 9
  · subst h7
    exact .inl ⟨⟨_, _, SqL.of hl2, SqL.of hb2, Nat.le_refl _, Nat.le_refl _, .inl rfl⟩, hQ H' L (fun b o e => w2 b o (x1 b o e)) w3⟩
  · have hi : i < 9 := by omega
    obtain ⟨x, hx⟩ : ∃ x, labL[i]? = some x := ⟨_, List.getElem?_eq_getElem hi⟩
    obtain ⟨b, hb⟩ : ∃ b, (bsL bs)[i]? = some b := ⟨_, List.getElem?_eq_getElem hi⟩
    have hx' : (labL.map V.str)[i]? = some (.str x) := by rw [List.getElem?_map, hx]; rfl
    have hb' : ((bsL bs).map V.bl)[i]? = some (.bl b) := by rw [List.getElem?_map, hb]; rfl
    refine .inr ⟨⟨_, _, _, _, SqL.of hl2, SqL.of hb2, hx', hb'⟩, fun H3 => (n - 1) + (i + 1) = 9 ∧ (∀ b o, H1 b = some o → H3 b = some o) ∧ H3 L = some (.lst ((pick (labL.take (i + 1)) ((bsL bs).take (i + 1))).map V.str)), fun H3 q => ⟨n - 1, by omega, q⟩, fun v H3 y => ?_⟩
    obtain ⟨T, x', y', rfl, hT, rfl, qx, qy⟩ := y
    obtain rfl : V.str x = x' := Option.some.inj (hx'.symm.trans (qx _ (SqL.of hl2)))
    obtain rfl : V.bl b = y' := Option.some.inj (hb'.symm.trans (qy _ (SqL.of hb2)))
    have w2' : ∀ c o, H1 c = some o → (upd H' T (.tup [V.str x, V.bl b])) c = some o := fun c o e => (upd_ne (ne_of_none (w2 c o e) hT)).trans (w2 c o e)
    have w3' : (upd H' T (.tup [V.str x, V.bl b])) L = some (.lst ((pick (labL.take i) ((bsL bs).take i)).map V.str)) := (upd_ne (ne_of_none w3 hT)).trans w3
    have nL : ∀ c o, H1 c = some o → c ≠ L := fun c o e z => by
      rw [z, hL] at e
      cases e
    refine ⟨T, _, rfl, .inl (.inl upd_same), rfl, _, _, rfl, _, _, rfl, rfl, ?_, .bl b, ?_, b, rfl, ?_⟩
    · show L2.wipe (List.set (List.set (L2.wipe σ [3, 4]) 3 _) 4 _) [3, 4] = L2.wipe σ [3, 4]
      rw [wipe_set (by decide), wipe_set (by decide), wipe_wipe]
    · show (List.set (List.set (L2.wipe σ [3, 4]) 3 _) 4 _)[4]? = _
      rw [List.getElem?_set_self (by rw [List.length_set, L2.wipe_length]; omega)]
    · have ps := pick_step hx hb
      cases b with
      | false =>
        dsimp only
        rw [if_neg Bool.false_ne_true]
        rw [if_neg Bool.false_ne_true, List.append_nil] at ps
        exact ⟨by omega, w2', by rw [ps]; exact w3'⟩
      | true =>
        dsimp only
        rw [if_pos rfl]
        rw [if_pos rfl] at ps
        refine ⟨.str x, ?_, _, w3', ?_, by omega, fun c o e => (upd_ne (nL c o e)).trans (w2' c o e), ?_⟩
        · show (List.set (List.set (L2.wipe σ [3, 4]) 3 _) 4 _)[3]? = _
          rw [List.getElem?_set_ne (by decide), List.getElem?_set_self (by rw [L2.wipe_length]; omega)]
        · rw [List.length_map]
          have z := pick_len (labL.take i) ((bsL bs).take i)
          have z2 : (labL.take i).length ≤ 9 := by
            rw [List.length_take]
            exact Nat.min_le_right _ _
          have sz : 10 ≤ sizeLine := by decide
          omega
        · rw [ps, List.map_append]
          exact upd_same
end G

set_option Elab.async false
set_option linter.all false
set_option maxRecDepth 100000
set_option maxHeartbeats 4000000
namespace G
open PySem L2 PySem.Spec PyProof.Rows HotX L2H
variable {M : Md} {H H' H1 H2 : Hp} {ι ι' ι1 ι2 : List Addr} {X : Cx} {W' : WX}
theorem pick_sum : ∀ (ls : List Str) (bs : List Bool), ((pick ls bs).map (·.length)).sum ≤ (ls.map (·.length)).sum
  | [], _ => Nat.le_refl _
  | l :: ls, [] => Nat.zero_le _
  | l :: ls, c :: bs => by
    have z := pick_sum ls bs
    show ((if c = true then l :: pick ls bs else pick ls bs).map (·.length)).sum ≤ _
    cases c
    · rw [if_neg Bool.false_ne_true, List.map_cons, List.sum_cons]
      omega
    · rw [if_pos rfl, List.map_cons, List.map_cons, List.sum_cons, List.sum_cons]
      omega
def nmR (bs : Nat → Bool) : Str := Txt.join " " (pick labL (bsL bs))
theorem pss_named {p : Addr × Obj} {D : Addr} {bs : Nat → Bool} (hot : Hot1 X.A p) (hp : p ∈ X.pn) (Ce : L2.ExcC X.K D) (hz : Zc (.ref D) none p.2) (hf : ∃ vs, p.2.data = .fields vs) (ki : Kits X D bs) (hi : X.mg "isinstance" = none) (hzip : X.mg "zip" = none) (hve : X.mg "ValueError" = none) (nd : X.N = nmN) (hs : X.env.scope = defScope sNm)
    (H : Hp) (Q : VK) (h : ∀ H', (∀ b o, H b = some o → H' b = some o) → Q (.str (nmR bs)) H') : ∃ t, PSs X (defBody sNm) t ∧ t { nx := fun _ H' => Q .non H', rt := Q } (start nmN [.ref p.1]) H := by
  have gl : ∀ x : Str, (defScope sNm).names.lookup x = some .globalImplicit → Gl X x := fun x e => by
    show X.env.kindOf _ = _
    unfold Env.kindOf
    rw [hs]
    exact e
  have v : ∀ x : Str, (defScope sNm).names.lookup x = some .local → Vis X.env.scope x := fun x e => .inl (by rw [hs]; exact e)
  have n0 : X.N[0]? = some ("_law_e" : Str) := by rw [nd]; rfl
  have n1 : X.N[1]? = some ("_law_some_here" : Str) := by rw [nd]; rfl
  have n2 : X.N[2]? = some ("_law_labels" : Str) := by rw [nd]; rfl
  have hN : X.N.Nodup := by rw [nd]; exact scNm.nd
  have l1 : X.env.scope.names.lookup ("_law_some_here" : Str) = some .local := by rw [hs]; decide +kernel
  have l2 : X.env.scope.names.lookup ("_law_labels" : Str) = some .local := by rw [hs]; decide +kernel
  have gi := gl "isinstance" (by decide +kernel)
  have v0 := v "_law_e" (by decide +kernel)
  have is : ∀ (i : Nat) (y : Str), nmC[i]? = some y → Gl X y → (y == ("__debug__" : Str)) = false → ∀ {p1 p2 p3 p4 : Pos}, PE X (.Call (.Name "isinstance" p1) [.Name "_law_e" p2, .Name y p3] [] p4) (tIs 0 p.1 (bs i)) := fun i y e g d p1 p2 p3 p4 => by
    obtain ⟨C, m, k⟩ := ki.at_ i y e
    exact pe_isP hp Ce hz hf hi gi n0 v0 (by decide) (by decide) g m d k
  have isv : ∀ {p1 p2 p3 p4 : Pos}, PE X (.Call (.Name "isinstance" p1) [.Name "_law_e" p2, .Name "ValueError" p3] [] p4) (tIs 0 p.1 (bs 8)) := pe_isV hp Ce hz hf hi gi n0 v0 (by decide) (by decide) (gl "ValueError" (by decide +kernel)) hve ki.ve
  have v1 := v "_law_some_here" (by decide +kernel)
  refine ⟨_, pss_cons (ps_set (i := 1) hN n1 (.inl l1) (pe_lst (pa_cons (is 0 "InvalidStore" rfl (gl _ (by decide +kernel)) (by decide)) (pa_cons (is 1 "InvalidDeed" rfl (gl _ (by decide +kernel)) (by decide)) (pa_cons (is 2 "InvalidDeeds" rfl (gl _ (by decide +kernel)) (by decide)) (pa_cons (is 3 "InvalidStep" rfl (gl _ (by decide +kernel)) (by decide)) pa_nil))))) (hf := .inr l1))
    (pss_cons (ps_set (i := 1) hN n1 (.inl l1) (pe_op op_cat (pv 1 n1 v1) (pe_lst (pa_cons (is 4 "InvalidWords" rfl (gl _ (by decide +kernel)) (by decide)) (pa_cons (is 5 "InvalidTree" rfl (gl _ (by decide +kernel)) (by decide)) (pa_cons (is 6 "InvalidNumber" rfl (gl _ (by decide +kernel)) (by decide)) pa_nil))))) (hf := .inr l1))
    (pss_cons (ps_set (i := 1) hN n1 (.inl l1) (pe_op op_cat (pv 1 n1 v1) (pe_lst (pa_cons (is 7 "TooMany" rfl (gl _ (by decide +kernel)) (by decide)) (pa_cons isv pa_nil)))) (hf := .inr l1))
    (pss_cons (ps_set (i := 2) hN n2 (.inl l2) pe_str (hf := .inr l2))
    (pss_one (ps_ret (pe_join pe_str (pe_nmComp (bs := bs) hot hp hzip nd hs))))))), ?_⟩
  have s0 : (start nmN [.ref p.1])[0]? = some (some (V.ref p.1)) := rfl
  refine ⟨s0, s0, s0, s0, by show 4 ≤ sizeLine; decide, fun p1 hp1 => ?_⟩
  generalize hHa : upd H p1 _ = Ha
  have xa : ∀ b o, H b = some o → Ha b = some o := fun b o e => by rw [← hHa]; exact (upd_ne (ne_of_none e hp1)).trans e
  have ha1 : Ha p1 = some (.lst [V.bl (bs 0), V.bl (bs 1), V.bl (bs 2), V.bl (bs 3)]) := by rw [← hHa]; exact upd_same
  refine ⟨.ref p1, rfl, rfl, rfl, rfl, by show 3 ≤ sizeLine; decide, fun p2 hp2 => ⟨p1, p2, _, _, rfl, rfl, (upd_ne (ne_of_none ha1 hp2)).trans ha1, upd_same, by show 7 ≤ sizeLine; decide, fun p3 hp3 => ?_⟩⟩
  generalize hHb : upd (upd Ha p2 _) p3 _ = Hb
  have xb : ∀ b o, H b = some o → Hb b = some o := fun b o e => by
    have e1 : upd Ha p2 (.lst [V.bl (bs 4), V.bl (bs 5), V.bl (bs 6)]) b = some o := (upd_ne (ne_of_none (xa b o e) hp2)).trans (xa b o e)
    rw [← hHb]
    exact (upd_ne (ne_of_none e1 hp3)).trans e1
  have hb1 : Hb p3 = some (.lst [V.bl (bs 0), V.bl (bs 1), V.bl (bs 2), V.bl (bs 3), V.bl (bs 4), V.bl (bs 5), V.bl (bs 6)]) := by rw [← hHb]; exact upd_same
  refine ⟨.ref p3, rfl, rfl, rfl, by show 2 ≤ sizeLine; decide, fun p4 hp4 => ⟨p3, p4, _, _, rfl, rfl, (upd_ne (ne_of_none hb1 hp4)).trans hb1, upd_same, by show 9 ≤ sizeLine; decide, fun p5 hp5 => ?_⟩⟩
  generalize hHc : upd (upd Hb p4 _) p5 _ = Hc
  have xc : ∀ b o, H b = some o → Hc b = some o := fun b o e => by
    have e1 : upd Hb p4 (.lst [V.bl (bs 7), V.bl (bs 8)]) b = some o := (upd_ne (ne_of_none (xb b o e) hp4)).trans (xb b o e)
    rw [← hHc]
    exact (upd_ne (ne_of_none e1 hp5)).trans e1
  have hc1 : Hc p5 = some (.lst ((bsL bs).map V.bl)) := by rw [← hHc]; exact upd_same
  refine ⟨⟨_, rfl⟩, p5, rfl, rfl, rfl, hc1, fun H' L x hL => ?_⟩
  refine ⟨_, L, pick labL (bsL bs), rfl, rfl, .inl (SqL.of hL), ?_, h H' fun b o e => x b o (xc b o e)⟩
  have z1 := pick_sum labL (bsL bs)
  have z2 := pick_len labL (bsL bs)
  have z3 : (labL.map (·.length)).sum = 42 := by decide +kernel
  have z4 : labL.length = 9 := rfl
  have z5 : (" " : Str).length = 1 := by decide +kernel
  rw [z5]
  omega
end G

set_option Elab.async false
set_option linter.all false
set_option maxRecDepth 100000
set_option maxHeartbeats 4000000
namespace G
open PySem L2 PySem.Spec PyProof.Rows HotX L2H
variable {M : Md} {H H' H1 H2 : Hp} {ι ι' ι1 ι2 : List Addr} {X : Cx} {W' : WX}
def noX : XK := fun _ _ _ => False
/-- a def called while the error at p is handled: its body may look at p -/
theorem pe_callP {k : Nat} {p : Addr × Obj} {f : Addr} {x name qual : Str} {params : Arguments} {body : List Stmt} {scope : Scope} {dV kV doc pm cdv ct oc : Value} {an od : Option Addr} {osl : Array (Option Value)} {N ps : List Str} {sp : Sp} {q pos : Pos} {e : Expr} {es : List Expr} {t : TA}
    (lk : X.K.lookup f = some ⟨oc, od, .func (PySem.W.fnOf name qual params body scope dV kV doc pm an cdv ct), osl⟩) (hcd : PySem.W.codeIn X.K cdv qual = true) (S : FnScope N ps scope) (hot : Hot1 X.A p) (hp : p ∈ X.pn) (hr : RoomH (k + 1) X.A) (hg : Gl X x) (hm : X.mg x = some (.ref f)) (hk : PySem.W.keepIn X.K (.ref f) = true)
    (hb : L2.Binds X.K (PySem.W.fnOf name qual params body scope dV kV doc pm an cdv ct) ps []) (ha : PA X (e :: es) t) (hdb : (x == ("__debug__" : Str)) = false) (he : starEach (e :: es) X.env = (false, eval e X.env) :: starEach es X.env) (hpl : (backTo pos (starEach es X.env)).any (·.1) = false)
    (hbody : ∀ (s : Shared) (H : Hp) (vs : List V) (Q : VK), sp vs H Q noX → ∃ t, PSs (cxH (L2N.CX X.prog X.w) X.prog X.w X.K X.mg X.base N qual scope f cdv X.A X.stack s H noX p) body t ∧ t { nx := fun _ H' => Q .non H', rt := Q } (L2.start N vs) H) :
    PE X (.Call (.Name x q) (e :: es) [] pos) (fun σ H Q => t σ H fun vs H1 => vs.length = ps.length ∧ sp vs H1 Q noX) := by
  refine ⟨fun pins s σ H Q I h => wpAny_Call_Name_kw (ld_glob I hg hm ?_ hdb)⟩
  refine PySem.W.callWith_K (h₀ := X.base) I.ok.mod.kin hk (thn (ha.run pos pins s σ H _ I h) fun us s1 ⟨vs, H1, I1, r, hl, hsp⟩ => ⟨I1.kIn, ?_⟩) he hpl
  have P1 := I1.pin p (List.mem_append_left _ hp)
  have hpin : PinOk X.stack H1 s1 p := ⟨P1.1, P1.2.1, fun z => (List.mem_cons.mp (I1.stkSub p.1 z)).elim P1.2.2.1 P1.2.2.2.1, P1.2.2.2.2⟩
  have e0 := I1.env0
  have lu : (us ++ []).length = ps.length := by rw [List.append_nil, ← r.length]; exact hl
  have bnd := hb s1 us I1.kIn lu
  rw [List.append_nil] at bnd
  have KX := I1.kIn
  have lim : s1.heap.NoLimit := e0.mod.nolimit.keeps fun b o z => (e0.bs b o z).1
  have kinds : ∀ y ∈ ps.zip us, scope.names.lookup y.1 = some .local ∨ (scope.names.lookup y.1 = some .cell ∧ ((cellsFrom (s1.heap.objs.size + 1) scope.names []).lookup y.1).isSome = true) := fun ⟨n, u⟩ hy => by
    rcases S.par n (List.of_mem_zip hy).1 with z | z
    · exact .inl z
    · exact .inr ⟨z, PySem.W.cellsFrom_some _ _ _ (.inl z)⟩
  have rc : codeAny (model X.prog X.w) X.A (.call (.ref f) ⟨us, []⟩) (CR (L2N.CX X.prog X.w) X.stack X.prog X.w H1 s1 Q noX) s1 := by
    refine codeAny_call_function hr.depth (KX _ _ lk) rfl S.co S.gen rfl (PySem.W.codeRec_of KX hcd) (bnd _ _ _ _ (wpAny_newFunctionEnv_cells S.kind kinds fun env ee s2 x => ?_))
    subst ee
    refine ⟨lim.keeps x.toInCall.keep, codeAny_func ?_⟩
    obtain ⟨tb, htb, hq⟩ := hbody s1 H1 vs Q hsp
    have J := inv_startH (CX := L2N.CX X.prog X.w) (E := noX) S hpin e0 hl r x
    refine wpAny_mono (htb.run [] s2 _ H1 _ J hq) (fun fl s3 hs => ?_) fun u s3 hs => hs
    cases fl with
    | ret u =>
      obtain ⟨v, σ', H', J', rv, q'⟩ := hs
      exact ⟨v, H', J'.os, J'.bare, J'.base, J'.hok, rv, q'⟩
    | next =>
      obtain ⟨σ', H', J', q'⟩ := hs
      exact ⟨V.non, H', J'.os, J'.bare, J'.base, J'.hok, rfl, q'⟩
    | brk =>
      obtain ⟨_, _, _, q'⟩ := hs
      exact q'.elim
    | cont =>
      obtain ⟨_, _, _, q'⟩ := hs
      exact q'.elim
  refine wpAny_call (codeAny_mono rc fun r s' hq => ?_)
  cases r with
  | error u =>
    obtain ⟨_, _, _, _, _, _, _, _, _, _, _, _, z⟩ := hq
    exact z.elim
  | ok fl =>
    cases fl with
    | ret u => exact I1.after hq
    | next => exact False.elim hq
    | brk => exact False.elim hq
    | cont => exact False.elim hq
end G

set_option Elab.async false
set_option linter.all false
set_option maxRecDepth 100000
set_option maxHeartbeats 4000000
namespace G
open PySem L2 PySem.Spec PyProof.Rows HotX L2H
variable {M : Md} {H H' H1 H2 : Hp} {ι ι' ι1 ι2 : List Addr} {X : Cx} {W' : WX}
/-! ### the def that catches -/
def dEr61 : Fd := fdAt61 "_law_error"
abbrev sEr : Stmt := dEr61.st
def erN : List Str := ["_law_call", "_law_e"]
theorem erN_eq : dEr61.N = erN ∧ dEr61.ps = (["_law_call"] : List Str) := ⟨by kernel_rfl, by kernel_rfl⟩
theorem scEr : FnScope erN ["_law_call"] (defScope sEr) := ⟨rfl, rfl, rfl, by decide +kernel, rfl, by decide +kernel, by decide +kernel⟩
theorem takesNoX {X : Cx} : L2N.Takes X noW := takesNo
/-- what is told of the def that names errors -/
structure NmOk (K : PySem.W.Frag) (mg : Str → Option Value) : Prop where
  ex : ∃ (f : Addr) (dV kV doc pm cdv ct oc : Value) (an od : Option Addr) (osl : Array (Option Value)) (qual : Str), mg "_law_names_of" = some (.ref f) ∧ PySem.W.keepIn K (.ref f) = true ∧
    K.lookup f = some ⟨oc, od, .func (PySem.W.fnOf "_law_names_of" qual (defArgs sNm) (defBody sNm) (defScope sNm) dV kV doc pm an cdv ct), osl⟩ ∧ PySem.W.codeIn K cdv qual = true ∧ L2.Binds K (PySem.W.fnOf "_law_names_of" qual (defArgs sNm) (defBody sNm) (defScope sNm) dV kV doc pm an cdv ct) ["_law_e"] []
/-- what the suite is told of the error's class -/
def Told (X : Cx) (a : Addr) (cls : Value) (d : Option Addr) (D : Ends) (σ : L2.St) (H : Hp) : Prop := ∃ (Dc : Addr) (bs : Nat → Bool), cls = .ref Dc ∧ d = none ∧ L2.ExcC X.K Dc ∧ Kits X Dc bs ∧ (1 < List.length σ → σ[1]? = some (some (.ref a))) ∧
  ∀ H', (∀ b o, H b = some o → H' b = some o) → D.rt (.str (nmR bs)) H'
def suiteEr : List Stmt := match defBody sEr with
  | .Try _ (.ExceptHandler _ _ b _ :: _) _ _ _ :: _ => b
  | _ => []
theorem pss_suite {a : Addr} {oe : Obj} {cls : Value} {d : Option Addr} {pn : List (Addr × Obj)} (hz : L2N.Zn cls d oe) (hf : ∃ vs, oe.data = .fields vs) (nm : NmOk X.K X.mg) (hi : X.mg "isinstance" = none) (hzip : X.mg "zip" = none) (hve : X.mg "ValueError" = none) (nd : X.N = erN) (hs : X.env.scope = defScope sEr) (hr : RoomH 1 X.A) :
    PSs (X.suite a ((a, oe) :: pn)) suiteEr (fun D σ H => Told X a cls d D σ H) := ⟨fun pins s σ H D I h => by
  obtain ⟨Dc, bs, rfl, rfl, Ce, ki, h1, hQ⟩ := h
  obtain ⟨f, dV, kV, doc, pm, cdv, ct, oc, an, od, osl, qual, m1, m2, m3, m4, m5⟩ := nm.ex
  let Y : Cx := X.suite a ((a, oe) :: pn)
  have hot : Hot1 Y.A (a, oe) := ⟨rfl, by
    obtain ⟨vs, e⟩ := hf
    exact ⟨vs, e, hz.2.2 vs e⟩⟩
  have hp : ((a, oe) : Addr × Obj) ∈ Y.pn := List.mem_cons_self
  have hlen : List.length σ = 2 := by
    have z := I.len
    rw [show (X.suite a ((a, oe) :: pn)).N = erN from nd] at z
    exact z
  have gl : ∀ x : Str, (defScope sEr).names.lookup x = some .globalImplicit → Gl Y x := fun x e => by
    show X.env.kindOf _ = _
    unfold Env.kindOf
    rw [hs]
    exact e
  have n1 : Y.N[1]? = some ("_law_e" : Str) := by
    show X.N[1]? = _
    rw [nd]
    rfl
  have v1 : Vis Y.env.scope "_law_e" := .inl (by
    show X.env.scope.names.lookup _ = _
    rw [hs]
    decide +kernel)
  have e1 := h1 (by omega)
  refine (pss_one (ps_ret
    (pe_callP (X := X.suite a ((a, oe) :: pn)) (sp := fun vs H Q _ => vs = [.ref a] ∧ ∀ H', (∀ b o, H b = some o → H' b = some o) → Q (.str (nmR bs)) H') m3 m4 scNm hot hp (k := 0) ⟨hr.dp, hr.un⟩ (gl "_law_names_of" (by decide +kernel)) m1 m2 m5 (pa_cons (pv 1 n1 v1) pa_nil) (by decide) rfl rfl fun s2 H2 vs Q2 h2 => ?_))).run pins s σ H D I ?_
  · obtain ⟨rfl, h2⟩ := h2
    exact pss_named (X := cxH (L2N.CX Y.prog Y.w) Y.prog Y.w Y.K Y.mg Y.base nmN qual (defScope sNm) f cdv Y.A Y.stack s2 H2 noX (a, oe)) (p := (a, oe)) hot List.mem_cons_self Ce hz.zc hf ⟨ki.at_, ki.ve⟩ hi hzip hve rfl rfl H2 Q2 h2
  · exact ⟨_, e1, rfl, rfl, hQ⟩⟩
end G

set_option Elab.async false
set_option linter.all false
set_option maxRecDepth 100000
set_option maxHeartbeats 4000000
namespace G
open PySem L2 PySem.Spec PyProof.Rows HotX L2H
variable {M : Md} {H H' H1 H2 : Hp} {ι ι' ι1 ι2 : List Addr} {X : Cx} {W' : WX}
def bsOf (x : Str) (i : Nat) : Bool := decide (i = 8) || decide (nmC[i]? = some x)
theorem labs_ok : ∀ p ∈ labs61, p.1 ∈ nmC ∧ nmR (bsOf p.1) = p.2 := by decide +kernel
theorem str_nil : Str.ofString "" = ⟨#[]⟩ := by decide +kernel
theorem nm_ex : ∀ (i : Nat) (y : Str), nmC[i]? = some y → y ∈ nmC := fun i y e => List.mem_of_getElem? e
theorem er_gives {k : Nat} {g : Addr} {cdg : Value} {q : Str} (hmg : X.mg = M.mg) (hr : Room (k + 2) X.A) (nm : NmOk X.K X.mg) (ex : ExcsOk X.K X.mg nmC "ApartError") (hi : X.mg "isinstance" = none) (hzip : X.mg "zip" = none) (hve : X.mg "ValueError" = none) :
    GivesN X erN "_law_error" (defScope sEr) g cdg (defBody sEr) "_law_call" q (TTx M onx61) := by
  intro f c' s H Q tl act hc h
  obtain ⟨T, mT, hx⟩ := ex.top
  have hA : RoomH 1 (gotZ X erN "_law_error" (defScope sEr) g cdg s H).nox.A := (roomH_of (hr.deeper (envOfC "_law_error" (defScope sEr) s.heap.objs.size g cdg))).mono (Nat.le_add_left 1 k)
  have kd : ∀ (x : Str) (n : NameKind), (defScope sEr).names.lookup x = some n → (gotZ X erN "_law_error" (defScope sEr) g cdg s H).nox.env.kindOf x = some n := fun x n e => e
  refine ⟨_, pss_cons (L2N.ps_try_as (X := (gotZ X erN "_law_error" (defScope sEr) g cdg s H).nox) (i := 1) (c := .ref T) (Wout := noW) (ts := fun a cls d D σ HH => Told (gotZ X erN "_law_error" (defScope sEr) g cdg s H).nox a cls d D σ HH)
      (tb := fun W D σ H => ∃ Ech : XK, (∀ cls d σ' H', Ech cls d H' → W cls d σ' H') ∧ σ[0]? = some (some (.ref f)) ∧ H c' = some (LamX.CodeO c' q) ∧ tl Ech H fun _ H' => D.nx σ H')
      rfl rfl scEr.nd rfl (kd _ _ (by decide +kernel)) ⟨kd _ _ (by decide +kernel), by decide, .inl mT⟩ takesNo (fun W pn xe tk _ => ⟨fun pins s' σ H' D I h' => ?_⟩) (fun a oe cls d pn hz hf => pss_suite (X := (gotZ X erN "_law_error" (defScope sEr) g cdg s H).nox) (a := a) (oe := oe) (cls := cls) (d := d) (pn := pn) hz hf nm hi hzip hve rfl rfl hA)) (pss_one (ps_ret pe_str)), ?_⟩
  · obtain ⟨Ech, hW, h1, h2, h3⟩ := h'
    exact (pss_one (ps_expr (act W pn xe Ech _ _ tk hW))).run pins s' σ H' D I ⟨h1, h2, h3⟩
  · have h0 : tl (fun cls d H' => d = none ∧ ∃ x C ι E w E2, M.mg x = some (.ref C) ∧ cls = .ref C ∧ Rel M ι E H' ∧ onx61 x E = some (w, E2) ∧ Fin M ι H' w E2 Q) H fun _ H' => Q (.str ⟨#[]⟩) H' := h
    rw [← str_nil] at h0
    refine ⟨_, fun cls d σ' H' w => ?_, rfl, hc, h0⟩
    obtain ⟨rfl, x, C, ι, E, w, E2, hx1, rfl, R, ho, hF⟩ := w
    obtain ⟨lab, hl, e⟩ := Option.map_eq_some_iff.mp (show (labs61.lookup x).map (fun s => (W.str s, E)) = some (w, E2) from ho)
    obtain ⟨rfl, rfl⟩ := Prod.mk.inj e
    obtain ⟨l1, l2⟩ := labs_ok _ (lookup_memS hl)
    obtain ⟨D, mD, Ce, kv, em, kk⟩ := hx x l1
    have eD : D = C := by
      rw [hmg, hx1] at mD
      cases mD
      rfl
    subst eD
    refine ⟨true, em, fun _ a na => ?_, fun z => by cases z⟩
    refine ⟨D, bsOf x, rfl, rfl, Ce, ⟨fun i y e => ?_, kv⟩, fun hl => ?_, fun H'' xx => ?_⟩
    · obtain ⟨C, c1, c2⟩ := kk y (nm_ex i y e)
      refine ⟨C, c1, ?_⟩
      have i8 : decide (i = 8) = false := decide_eq_false fun z => by
        subst z
        cases e
      have e2 : decide (some y = some x) = decide (y = x) := by simp
      unfold bsOf
      rw [e, i8, e2, Bool.false_or]
      exact c2
    · rw [List.length_set] at hl
      exact List.getElem?_set_self hl
    · have rr := rel_extN R (LamX.ExtN.of xx) (R.tabs.ext xx)
      rw [show nmR (bsOf x) = lab from l2]
      exact hF ι H'' (.str lab) (ext_extN (LamX.ExtN.of xx)) rr rfl
end G

set_option Elab.async false
set_option linter.all false
set_option maxRecDepth 100000
set_option maxHeartbeats 0
namespace G
open PySem PySem.Spec PyProof.Rows L2
def q61 : Tq := ⟨fds61, consts61, nonL61, clssX61, dcts61, "_law_error", onx61⟩
theorem q61_tb : q61.tb = T61 := rfl
theorem plain61 : q61.plain = true := by kernel_rfl
/-- all that the head's look asks of the module's heap -/
def okX61 (K : PySem.W.Frag) : Bool := q61.ok K && (excsB nmC "ApartError" K && lowB K)
def fnX61 : List He.DefD := q61.fn ++ [dIni61]
theorem faEq61 : faL61 = q61.fa := by kernel_rfl
theorem fnEq61 : fnL61 = fnX61 := by kernel_rfl
theorem tsEq61 : tsL61 = q61.ts := by kernel_rfl
theorem tfEq61 : tfL61 = q61.tf := by kernel_rfl
theorem okEq61 : okL61 = okX61 := by kernel_rfl
end G

set_option Elab.async false
set_option linter.all false
set_option maxRecDepth 100000
set_option maxHeartbeats 0
namespace G
open PySem L2
theorem l61_2 (o : W) : nxT 1 (runS61 2 (sL o none none none) [.lst []]) = some (sL o (some wLastS) none none, [.lst []]) := by kernel_rfl
end G

set_option Elab.async false
set_option linter.all false
set_option maxRecDepth 100000
set_option maxHeartbeats 0
namespace G
open PySem L2
theorem l61_3 (o : W) : nxT 1 (runS61 3 (sL o (some wLastS) none none) [.lst []]) = some (sL o (some (.str "x")) none none, [.lst []]) := by kernel_rfl
end G

set_option Elab.async false
set_option linter.all false
set_option maxRecDepth 100000
set_option maxHeartbeats 0
namespace G
open PySem L2
theorem l61_4 (o : W) : nxT 1 (runS61 4 (sL o (some (.str "x")) none none) [.lst []]) = some (sL o (some (.int 1)) none none, [.lst []]) := by kernel_rfl
end G

set_option Elab.async false
set_option linter.all false
set_option maxRecDepth 100000
set_option maxHeartbeats 0
namespace G
open PySem L2
theorem l61_5 (o : W) : nxT 1 (runS61 5 (sL o (some (.int 1)) none none) [.lst []]) = some (sL o (some (.int 1)) (some wDeed) none, [.lst []]) := by kernel_rfl
end G

set_option Elab.async false
set_option linter.all false
set_option maxRecDepth 100000
set_option maxHeartbeats 0
namespace G
open PySem L2
theorem l61_6 (o : W) : nxT 1 (runS61 6 (sL o (some (.int 1)) (some wDeed) none) [.lst []]) = some (sL o (some (.str "x")) (some wDeed) none, [.lst []]) := by kernel_rfl
end G

set_option Elab.async false
set_option linter.all false
set_option maxRecDepth 100000
set_option maxHeartbeats 0
namespace G
open PySem L2
theorem l61_7 (o : W) : nxT 1 (runS61 7 (sL o (some (.str "x")) (some wDeed) none) [.lst []]) = some (sL o (some (.str "0")) (some wDeed) none, [.lst []]) := by kernel_rfl
end G

set_option Elab.async false
set_option linter.all false
set_option maxRecDepth 100000
set_option maxHeartbeats 0
namespace G
open PySem L2
theorem l61_8 (o : W) : nxT 1 (runS61 8 (sL o (some (.str "0")) (some wDeed) none) [.lst []]) = some (sL o (some (.tup [.str "row"])) (some wDeed) none, [.lst []]) := by kernel_rfl
end G

set_option Elab.async false
set_option linter.all false
set_option maxRecDepth 100000
set_option maxHeartbeats 0
namespace G
open PySem L2
theorem l61_9 (o : W) : nxT 1 (runS61 9 (sL o (some (.tup [.str "row"])) (some wDeed) none) [.lst []]) = some (sL o (some (.str "1")) (some wDeed) none, [.lst []]) := by kernel_rfl
end G

set_option Elab.async false
set_option linter.all false
set_option maxRecDepth 100000
set_option maxHeartbeats 0
namespace G
open PySem L2
theorem l61_10 (o : W) : nxT 1 (runS61 10 (sL o (some (.str "1")) (some wDeed) none) [.lst []]) = some (sL o (some (.str "1")) (some wDeed) (some wWide), [.lst []]) := by kernel_rfl
end G

set_option Elab.async false
set_option linter.all false
set_option maxRecDepth 100000
set_option maxHeartbeats 0
namespace G
open PySem L2
theorem l61_11 (o : W) : nxT 1 (runS61 11 (sL o (some (.str "1")) (some wDeed) (some wWide)) [.lst []]) = some (sL o (some (.str "1")) (some wDeed) (some wWide), [.lst []]) := by kernel_rfl
end G

set_option Elab.async false
set_option linter.all false
set_option maxRecDepth 100000
set_option maxHeartbeats 0
namespace G
open PySem L2
theorem l61_13 (o : W) : nxT 1 (runS61 13 (sL o (some (.str "1")) (some wDeed) (some wWide)) [.lst []]) = some (sL o (some (.str "1")) (some wDeed) (some wWide), [.lst []]) := by kernel_rfl
end G

set_option Elab.async false
set_option linter.all false
set_option maxRecDepth 100000
set_option maxHeartbeats 0
namespace G
open PySem L2
theorem l61_14 (o : W) : rtS (runS61 14 (sL o (some (.str "1")) (some wDeed) (some wWide)) [.lst []]) = some (.bl true) := by kernel_rfl
end G

set_option Elab.async false
set_option linter.all false
set_option maxRecDepth 100000
set_option maxHeartbeats 4000000
namespace G
open PySem L2 PySem.Spec PyProof.Rows
/-! ### acts with their names found -/
def slot (i : Nat) : Act W := fun σ E => lift (match (σ : List (Option W))[i]? with
  | some (some w) => some (w, E)
  | _ => none)
def cst (w : W) : Act W := fun _ E => some (.ok w E)
def argsR : List (Act W) → Act (List W)
  | [] => fun _ E => some (.ok [] E)
  | c :: cs => fun σ E => andThen (c σ E) fun x E1 => andThen (argsR cs σ E1) fun xs E2 => some (.ok (x :: xs) E2)
def starR (c : Act W) (cs : Act (List W)) : Act (List W) := fun σ E => andThen (c σ E) fun x E1 => match seqOf E1 x with
    | some ws => andThen (cs σ E1) fun xs E2 => some (.ok (ws ++ xs) E2)
    | none => none
def consR (c : Act W) (cs : Act (List W)) : Act (List W) := fun σ E => andThen (c σ E) fun x E1 => andThen (cs σ E1) fun xs E2 => some (.ok (x :: xs) E2)
def callR (low : Cal) (x : Str) (ca : Act (List W)) : Act W := fun σ E => andThen (ca σ E) fun ws E1 => low x ws E1
def allTR (op : BoolOp) : List (Act Bool) → Act Bool
  | [] => fun _ _ => none
  | [a] => a
  | a :: b :: rest => fun σ E => andThen (a σ E) fun c E1 => if c = isAnd op then allTR op (b :: rest) σ E1 else some (.ok c E1)
def allER (op : BoolOp) : List (Act W) → Act W
  | [] => fun _ _ => none
  | [a] => a
  | a :: b :: rest => fun σ E => andThen (a σ E) fun x E1 => match wTru x E1 with
    | some c => if c = isAnd op then allER op (b :: rest) σ E1 else some (.ok x E1)
    | none => none
def setG (i : Nat) : ActG := fun w σ E => some (.ok (σ.set i (some w)) E)
def tgsR : List ActG → ActGs
  | [] => nilG
  | c :: cs => consG c (tgsR cs)
def blkR : List ActS → ActS
  | [] => nilS
  | s :: r => seqS s (blkR r)
def par2R (i j : Nat) (ca : Act (List W)) : ActS := fun σ E => andThen (ca σ E) fun ws E1 => match ws with
    | [v, w] => some (.ok (.nx ((σ.set i (some v)).set j (some w))) E1)
    | _ => none
def par3R (i j l : Nat) (ca : Act (List W)) : ActS := fun σ E => andThen (ca σ E) fun ws E1 => match ws with
    | [u, v, w] => some (.ok (.nx (((σ.set i (some u)).set j (some v)).set l (some w))) E1)
    | _ => none
def augR (i : Nat) (op : Operator) (ca : Act W) : ActS := fun σ E => match (σ : List (Option W))[i]? with
    | some (some w) => andThen (ca σ E) fun y E1 => match augOp op w y with
      | some z => some (.ok (.nx (σ.set i (some z))) E1)
      | none => none
    | _ => none
def rtNon : ActS := fun _ E => some (.ok (.rt .non) E)
def bkR : ActS := fun σ E => some (.ok (.bk σ) E)
def ctR : ActS := fun σ E => some (.ok (.ct σ) E)
def exR (x : Str) : ActS := fun _ E => some (.ex x E)
def ckR (o : O) (ci : Act Src) (vs : List Nat) (g : ActG) (ct : Act Bool) (body : Nat → ActH) : Act W := fun σ E => andThen (ci σ E) fun s E1 => match loopC s.ls g ct (body E1.length) (wipeE σ vs) s.ws (E1 ++ [o]) with
  | some E' => some (.ok (.ref E1.length) E')
  | none => none
def partR (ca : Act W) : Act (Option Int) := fun σ E => andThen (ca σ E) fun x E1 => match x with
    | .int i => some (.ok (some i) E1)
    | _ => none
def newD : Act W := fun _ E => some (.ok (.ref E.length) (E ++ [.dK []]))
def gmR (d : Fd) : Gm := ⟨d.N, (defScope d.st).names, fun _ => true, fun _ => none⟩
end G

set_option Elab.async false
set_option linter.all false
set_option maxRecDepth 100000
set_option maxHeartbeats 4000000
namespace G
open PySem L2 PySem.Spec PyProof.Rows
def b61__law_cup (low : Cal) : ActS := blkR [asgS (wBiXA .abs (argsR [(wIxNA (wBinA .Add (wBiXA .list (argsR [(slot 0)])) (wLst (consR (cst (.int 0)) (argsR [])))) (cst (.int 0)))])) (setG 1),
    asgS (wIf (toT (wCmpNA .GtE (slot 1) (wBinA .Pow (cst (.int 10)) (cst (.int 18))))) (wBinA .FloorDiv (slot 1) (cst (.int 11))) (cst (.int 0))) (setG 2),
    retS (wLst (consR (slot 2) (consR (wBinA .Add (wBinA .Mod (wBiXA .int (argsR [(wBinA .Add (wBinA .Mult (slot 1) (cst (.int 193))) (cst (.int 1201)))])) (cst (.int 2077504273))) (cst (.int 89))) (argsR []))))]
def b61__law_roll (low : Cal) : ActS := blkR [ifS (toT (wCmpNA .Gt (wIxNA (slot 0) (cst (.int 0))) (cst (.int 0)))) (blkR [asgS (wBinA .Mod (wBiXA .int (argsR [(wIxNA (slot 0) (cst (.int 0)))])) (slot 1)) (setG 2),
    asgS (wBinA .FloorDiv (wIxNA (slot 0) (cst (.int 0))) (slot 1)) (subNG (slot 0) (cst (.int 0))),
    retS (slot 2)]) (blkR []),
    asgS (wBinA .Mod (wBiXA .int (argsR [(wBinA .Add (wBinA .Mult (wIxNA (slot 0) (cst (.int 1))) (cst (.int 30671))) (cst (.int 7919)))])) (cst (.int 2147483549))) (subNG (slot 0) (cst (.int 1))),
    asgS (wBinA .Mod (wBiXA .int (argsR [(wBinA .Mult (wIxNA (slot 0) (cst (.int 1))) (wBinA .Add (wIxNA (slot 0) (cst (.int 1))) (cst (.int 131))))])) (cst (.int 2147483587))) (setG 3),
    retS (wBinA .Mod (wBiXA .int (argsR [(wBinA .FloorDiv (slot 3) (cst (.int 709)))])) (slot 1))]
def b61__law_some (low : Cal) : ActS := blkR [retS (wIxNA (slot 1) (callR low "_law_roll" (argsR [(slot 0), (wBiXA .len (argsR [(slot 1)]))])))]
def ac61 (low : Cal) (x : Str) : ActS := bodyA (T61.pgOf low) 60 (gmR (fdAt61 x)) (defBody (fdAt61 x).st)
theorem e61__law_cup (low : Cal) : ac61 low "_law_cup" = b61__law_cup low := by kernel_rfl
theorem e61__law_roll (low : Cal) : ac61 low "_law_roll" = b61__law_roll low := by kernel_rfl
theorem e61__law_some (low : Cal) : ac61 low "_law_some" = b61__law_some low := by kernel_rfl
end G

set_option Elab.async false
set_option linter.all false
set_option maxRecDepth 100000
set_option maxHeartbeats 4000000
namespace G
open PySem L2 PySem.Spec PyProof.Rows
/-! ### a call, by its body's act -/
theorem gm_none {T : Tb} {m : Nat} {low : Cal} {lam : Option Cal} {d : Fd} (hl : d.lam = false) : T.gmOf m low lam d = gmR d := by
  unfold Tb.gmOf gmR
  cases lam with
  | none => rfl
  | some l =>
    dsimp only
    congr 1
    funext e
    unfold Tb.lamH
    split
    · split
      · rename_i h
        rw [hl] at h
        exact absurd h.2.1 Bool.false_ne_true
      · rfl
    · rfl
theorem step_b {T : Tb} {m : Nat} {low : Cal} {lam : Option Cal} {x : Str} {d : Fd} (hd : T.fn x = some d) (hl : d.lam = false) {b : Cal → ActS} (hb : ∀ low, bodyA (T.pgOf low) m (gmR d) (defBody d.st) = b low) {ws : List W} {E : Hh} (hn : ws.length = d.ps.length) :
    T.step m low lam x ws E = ends (b low (startE d.N ws) E) := by
  unfold Tb.step
  rw [hd]
  dsimp only
  rw [if_pos hn, gm_none hl, hb]
theorem call_b {T : Tb} {m k : Nat} {x : Str} {d : Fd} (hd : T.fn x = some d) (hl : d.lam = false) {b : Cal → ActS} (hb : ∀ low, bodyA (T.pgOf low) m (gmR d) (defBody d.st) = b low) {ws : List W} {E : Hh} (hn : ws.length = d.ps.length) :
    T.call m (k + 1) x ws E = ends (b (T.call m k) (startE d.N ws) E) := by
  match k with
  | 0 => exact step_b hd hl hb hn
  | 1 => exact step_b hd hl hb hn
  | n + 2 => exact step_b hd hl hb hn
end G

set_option Elab.async false
set_option linter.all false
set_option maxRecDepth 100000
set_option maxHeartbeats 4000000
namespace G
open PySem L2 PySem.Spec PyProof.Rows
abbrev C61 (k : Nat) : Cal := T61.call 60 k
theorem c61__law_cup (k : Nat) (E : Hh) (x0 : W) : C61 (k + 1) "_law_cup" [x0] E = ends (b61__law_cup (C61 k) [some x0, none, none] E) := call_b (d := fdAt61 "_law_cup") (by kernel_rfl) (by kernel_rfl) e61__law_cup rfl
theorem c61__law_roll (k : Nat) (E : Hh) (x0 x1 : W) : C61 (k + 1) "_law_roll" [x0, x1] E = ends (b61__law_roll (C61 k) [some x0, some x1, none, none] E) := call_b (d := fdAt61 "_law_roll") (by kernel_rfl) (by kernel_rfl) e61__law_roll rfl
theorem c61__law_some (k : Nat) (E : Hh) (x0 x1 : W) : C61 (k + 1) "_law_some" [x0, x1] E = ends (b61__law_some (C61 k) [some x0, some x1] E) := call_b (d := fdAt61 "_law_some") (by kernel_rfl) (by kernel_rfl) e61__law_some rfl
end G

set_option Elab.async false
set_option linter.all false
set_option maxRecDepth 100000
set_option maxHeartbeats 4000000
namespace G
open PySem L2 PySem.Spec PyProof.Rows
/-! ### acts at a state -/
section
variable {α β : Type} {σ : Sg} {E E1 : Hh}
@[simp] theorem andThen_ok {x : α} {f : α → Hh → Option (Rz β)} : andThen (some (.ok x E)) f = f x E := rfl
@[simp] theorem andThen_ex {x : Str} {f : α → Hh → Option (Rz β)} : andThen (some (Rz.ex x E)) f = some (.ex x E) := rfl
@[simp] theorem andThen_no {f : α → Hh → Option (Rz β)} : andThen none f = none := rfl
@[simp] theorem lift_some {x : α} : lift (some (x, E)) = some (.ok x E) := rfl
@[simp] theorem lift_none : lift (none : Option (α × Hh)) = none := rfl
@[simp] theorem slot0 {o : Option W} {r : Sg} : slot 0 (o :: r) E = (match o with | some w => some (.ok w E) | none => none) := by cases o <;> rfl
@[simp] theorem slotS {o : Option W} {r : Sg} {n : Nat} : slot (n + 1) (o :: r) E = slot n r E := rfl
@[simp] theorem cst_ap {w : W} : cst w σ E = some (.ok w E) := rfl
@[simp] theorem args0 : argsR [] σ E = some (.ok [] E) := rfl
@[simp] theorem argsS {c : Act W} {cs : List (Act W)} : argsR (c :: cs) σ E = andThen (c σ E) fun x E1 => andThen (argsR cs σ E1) fun xs E2 => some (.ok (x :: xs) E2) := rfl
@[simp] theorem cons_ap {c : Act W} {cs : Act (List W)} : consR c cs σ E = andThen (c σ E) fun x E1 => andThen (cs σ E1) fun xs E2 => some (.ok (x :: xs) E2) := rfl
@[simp] theorem call_ap {low : Cal} {x : Str} {ca : Act (List W)} : callR low x ca σ E = andThen (ca σ E) fun ws E1 => low x ws E1 := rfl
@[simp] theorem ret_ap {c : Act W} : retS c σ E = andThen (c σ E) fun w E1 => some (.ok (.rt w) E1) := rfl
@[simp] theorem blk0 : blkR [] σ E = some (.ok (.nx σ) E) := rfl
@[simp] theorem blkS {s : ActS} {r : List ActS} : blkR (s :: r) σ E = andThen (s σ E) fun f E1 => match f with
  | .nx σ1 => blkR r σ1 E1
  | f => some (.ok f E1) := rfl
@[simp] theorem if_ap {ct : Act Bool} {c d : ActS} : ifS ct c d σ E = andThen (ct σ E) fun b E1 => if b = true then c σ E1 else d σ E1 := rfl
@[simp] theorem toT_ap {c : Act W} : toT c σ E = andThen (c σ E) fun x E1 => match x with
  | .bl b => some (.ok b E1)
  | _ => none := rfl
@[simp] theorem byTruN_ap {c : Act W} : byTruN c σ E = andThen (c σ E) fun x E1 => match wTruN x E1 with
  | some b => some (.ok b E1)
  | none => none := rfl
@[simp] theorem notT_ap {c : Act Bool} : notT c σ E = andThen (c σ E) fun b E1 => some (.ok (!b) E1) := rfl
@[simp] theorem allT1 {op : BoolOp} {a : Act Bool} : allTR op [a] σ E = a σ E := rfl
@[simp] theorem allTS {op : BoolOp} {a b : Act Bool} {r : List (Act Bool)} : allTR op (a :: b :: r) σ E = andThen (a σ E) fun c E1 => if c = isAnd op then allTR op (b :: r) σ E1 else some (.ok c E1) := rfl
@[simp] theorem allE1 {op : BoolOp} {a : Act W} : allER op [a] σ E = a σ E := rfl
@[simp] theorem allES {op : BoolOp} {a b : Act W} {r : List (Act W)} : allER op (a :: b :: r) σ E = andThen (a σ E) fun x E1 => match wTru x E1 with
    | some c => if c = isAnd op then allER op (b :: r) σ E1 else some (.ok x E1)
    | none => none := rfl
@[simp] theorem isAnd_and : isAnd .And = true := rfl
@[simp] theorem isAnd_or : isAnd .Or = false := rfl
@[simp] theorem bi_ap {f : Bi} {c : Act (List W)} : wBiXA f c σ E = andThen (c σ E) fun ws E1 => lift (wBiX f ws E1) := rfl
@[simp] theorem un_not {c : Act W} : wUn .Not c σ E = andThen (c σ E) fun x E1 => lift (wNot x E1) := rfl
@[simp] theorem un_neg {c : Act W} : wUn .USub c σ E = andThen (c σ E) fun x E1 => lift (wNeg x E1) := rfl
@[simp] theorem bin_ap {op : Operator} {a b : Act W} : wBinA op a b σ E = andThen (a σ E) fun x E1 => andThen (b σ E1) fun y E2 => lift (wBin op x y E2) := rfl
@[simp] theorem cmp_ap {op : CmpOp} {a b : Act W} : wCmpNA op a b σ E = andThen (a σ E) fun x E1 => andThen (b σ E1) fun y E2 => lift ((wCmpN op x y E2).map fun b => (.bl b, E2)) := rfl
@[simp] theorem ix_ap {a b : Act W} : wIxNA a b σ E = andThen (a σ E) fun x E1 => andThen (b σ E1) fun y E2 => lift (wIxN x y E2) := rfl
@[simp] theorem chain_ap {op op' : CmpOp} {a b c : Act W} : wChain op op' a b c σ E = andThen (a σ E) fun x E1 => andThen (b σ E1) fun y E2 => match wCmp op x y E2 with
  | some true => andThen (c σ E2) fun z E3 => lift ((wCmp op' y z E3).map fun b => (.bl b, E3))
  | some false => some (.ok (.bl false) E2)
  | none => none := rfl
@[simp] theorem tup_ap {c : Act (List W)} : wTup c σ E = andThen (c σ E) fun ws E1 => if ws.length ≤ few then some (.ok (.tup ws) E1) else none := rfl
@[simp] theorem lst_ap {c : Act (List W)} : wLst c σ E = andThen (c σ E) fun ws E1 => if ws.length ≤ few then some (.ok (.ref E1.length) (E1 ++ [.lst ws])) else none := rfl
@[simp] theorem wif_ap {ct : Act Bool} {a b : Act W} : wIf ct a b σ E = andThen (ct σ E) fun c E1 => if c = true then a σ E1 else b σ E1 := rfl
@[simp] theorem asg_ap {c : Act W} {g : ActG} : asgS c g σ E = andThen (c σ E) fun w E1 => andThen (g w σ E1) fun σ1 E2 => some (.ok (.nx σ1) E2) := rfl
@[simp] theorem setG_ap {i : Nat} {w : W} : setG i w σ E = some (.ok (σ.set i (some w)) E) := rfl
@[simp] theorem drop_ap {c : Act W} : dropS c σ E = andThen (c σ E) fun _ E1 => some (.ok (.nx σ) E1) := rfl
@[simp] theorem ends_rt {w : W} : ends (some (.ok (.rt w) E)) = some (.ok w E) := rfl
@[simp] theorem ends_nx {σ : Sg} : ends (some (.ok (.nx σ) E)) = some (.ok .non E) := rfl
@[simp] theorem ends_ex {x : Str} : ends (some (.ex x E)) = some (.ex x E) := rfl
end
/-! ### isinstance -/
@[simp] theorem kit_NoneType_int : kitB "NoneType" "int" = some false := by kernel_rfl
@[simp] theorem kit_NoneType_bool : kitB "NoneType" "bool" = some false := by kernel_rfl
@[simp] theorem kit_NoneType_str : kitB "NoneType" "str" = some false := by kernel_rfl
@[simp] theorem kit_NoneType_tuple : kitB "NoneType" "tuple" = some false := by kernel_rfl
@[simp] theorem kit_NoneType_list : kitB "NoneType" "list" = some false := by kernel_rfl
@[simp] theorem kit_bool_int : kitB "bool" "int" = some true := by kernel_rfl
@[simp] theorem kit_bool_bool : kitB "bool" "bool" = some true := by kernel_rfl
@[simp] theorem kit_bool_str : kitB "bool" "str" = some false := by kernel_rfl
@[simp] theorem kit_bool_tuple : kitB "bool" "tuple" = some false := by kernel_rfl
@[simp] theorem kit_bool_list : kitB "bool" "list" = some false := by kernel_rfl
@[simp] theorem kit_int_int : kitB "int" "int" = some true := by kernel_rfl
@[simp] theorem kit_int_bool : kitB "int" "bool" = some false := by kernel_rfl
@[simp] theorem kit_int_str : kitB "int" "str" = some false := by kernel_rfl
@[simp] theorem kit_int_tuple : kitB "int" "tuple" = some false := by kernel_rfl
@[simp] theorem kit_int_list : kitB "int" "list" = some false := by kernel_rfl
@[simp] theorem kit_str_int : kitB "str" "int" = some false := by kernel_rfl
@[simp] theorem kit_str_bool : kitB "str" "bool" = some false := by kernel_rfl
@[simp] theorem kit_str_str : kitB "str" "str" = some true := by kernel_rfl
@[simp] theorem kit_str_tuple : kitB "str" "tuple" = some false := by kernel_rfl
@[simp] theorem kit_str_list : kitB "str" "list" = some false := by kernel_rfl
@[simp] theorem kit_tuple_int : kitB "tuple" "int" = some false := by kernel_rfl
@[simp] theorem kit_tuple_bool : kitB "tuple" "bool" = some false := by kernel_rfl
@[simp] theorem kit_tuple_str : kitB "tuple" "str" = some false := by kernel_rfl
@[simp] theorem kit_tuple_tuple : kitB "tuple" "tuple" = some true := by kernel_rfl
@[simp] theorem kit_tuple_list : kitB "tuple" "list" = some false := by kernel_rfl
@[simp] theorem kit_list_int : kitB "list" "int" = some false := by kernel_rfl
@[simp] theorem kit_list_bool : kitB "list" "bool" = some false := by kernel_rfl
@[simp] theorem kit_list_str : kitB "list" "str" = some false := by kernel_rfl
@[simp] theorem kit_list_tuple : kitB "list" "tuple" = some false := by kernel_rfl
@[simp] theorem kit_list_list : kitB "list" "list" = some true := by kernel_rfl
@[simp] theorem kit_dict_int : kitB "dict" "int" = some false := by kernel_rfl
@[simp] theorem kit_dict_bool : kitB "dict" "bool" = some false := by kernel_rfl
@[simp] theorem kit_dict_str : kitB "dict" "str" = some false := by kernel_rfl
@[simp] theorem kit_dict_tuple : kitB "dict" "tuple" = some false := by kernel_rfl
@[simp] theorem kit_dict_list : kitB "dict" "list" = some false := by kernel_rfl

section
variable {E : Hh}
@[simp] theorem ty_non : tyW E .non = some "NoneType" := rfl
@[simp] theorem ty_bl {b : Bool} : tyW E (.bl b) = some "bool" := rfl
@[simp] theorem ty_int {i : Int} : tyW E (.int i) = some "int" := rfl
@[simp] theorem ty_str {s : Str} : tyW E (.str s) = some "str" := rfl
@[simp] theorem ty_tup {ws : List W} : tyW E (.tup ws) = some "tuple" := rfl
theorem ty_ref {i : Nat} {ws : List W} (h : (E : List O)[i]? = some (.lst ws)) : tyW E (.ref i) = some "list" := by
  simp [tyW, h]
end
/-! ### data -/
/-- what a value is made of: lists where it names a place -/
inductive Dt (E : Hh) : W → Prop
  | non : Dt E .non
  | bl (b : Bool) : Dt E (.bl b)
  | int (i : Int) : Dt E (.int i)
  | str (s : Str) (h : PyData.strOk s = true) : Dt E (.str s)
  | tup (ws : List W) (hl : ws.length ≤ few) (h : ∀ w ∈ ws, Dt E w) : Dt E (.tup ws)
  | ref (i : Nat) (ws : List W) (h : (E : List O)[i]? = some (.lst ws)) : Dt E (.ref i)
theorem Dt.more {E F : Hh} {w : W} (d : Dt E w) : Dt (E ++ F) w := by
  induction d with
  | non => exact .non
  | bl b => exact .bl b
  | int i => exact .int i
  | str s h => exact .str s h
  | tup ws hl h ih => exact .tup ws hl ih
  | ref i ws h => exact .ref i ws (by rw [List.getElem?_append_left (List.getElem?_eq_some_iff.mp h).1]; exact h)
theorem Dt.kids {E : Hh} {ws : List W} (d : Dt E (.tup ws)) : ∀ w ∈ ws, Dt E w := by
  cases d with
  | tup _ _ h => exact h
theorem Dt.len {E : Hh} {ws : List W} (d : Dt E (.tup ws)) : ws.length ≤ few := by
  cases d with
  | tup _ hl _ => exact hl
theorem isi {E : Hh} {w : W} (d : Dt E w) : wBiX .isi [w, .ty "int"] E = some (.bl (match w with | .int _ => true | .bl _ => true | _ => false), E) ∧ wBiX .isi [w, .ty "bool"] E = some (.bl (match w with | .bl _ => true | _ => false), E) ∧
    wBiX .isi [w, .ty "str"] E = some (.bl (match w with | .str _ => true | _ => false), E) ∧ wBiX .isi [w, .ty "tuple"] E = some (.bl (match w with | .tup _ => true | _ => false), E) ∧ wBiX .isi [w, .ty "list"] E = some (.bl (match w with | .ref _ => true | _ => false), E) := by
  cases d with
  | ref i ws h => simp [wBiX, wBi, ty_ref h]
  | _ => simp [wBiX, wBi]
def isTup : W → Bool
  | .tup _ => true
  | _ => false
def isStr : W → Bool
  | .str _ => true
  | _ => false
def isBlW : W → Bool
  | .bl _ => true
  | _ => false
def isNum : W → Bool
  | .int _ => true
  | .bl _ => true
  | _ => false
def isRef : W → Bool
  | .ref _ => true
  | _ => false
theorem isi_int {E : Hh} {w : W} (d : Dt E w) : wBiX .isi [w, .ty "int"] E = some (.bl (isNum w), E) := by rw [(isi d).1]; cases w <;> rfl
theorem isi_bool {E : Hh} {w : W} (d : Dt E w) : wBiX .isi [w, .ty "bool"] E = some (.bl (isBlW w), E) := by rw [(isi d).2.1]; cases w <;> rfl
theorem isi_str {E : Hh} {w : W} (d : Dt E w) : wBiX .isi [w, .ty "str"] E = some (.bl (isStr w), E) := by rw [(isi d).2.2.1]; cases w <;> rfl
theorem isi_tup {E : Hh} {w : W} (d : Dt E w) : wBiX .isi [w, .ty "tuple"] E = some (.bl (isTup w), E) := by rw [(isi d).2.2.2.1]; cases w <;> rfl
theorem isi_lst {E : Hh} {w : W} (d : Dt E w) : wBiX .isi [w, .ty "list"] E = some (.bl (isRef w), E) := by rw [(isi d).2.2.2.2]; cases w <;> rfl
@[simp] theorem truN_bl {E : Hh} {b : Bool} : wTruN (.bl b) E = some b := rfl
@[simp] theorem tru_bl {E : Hh} {b : Bool} : wTru (.bl b) E = some b := rfl
@[simp] theorem not_bl {E : Hh} {b : Bool} : wNot (.bl b) E = some (.bl (!b), E) := rfl
@[simp] theorem len_tup {E : Hh} {ws : List W} : wBiX .len [.tup ws] E = some (.int ws.length, E) := rfl
@[simp] theorem ix_tup {E : Hh} {ws : List W} {i : Int} : wIxN (.tup ws) (.int i) E = (L2.atI ws i).map fun w => (w, E) := by
  show (match L2.atI ws i with | some w => some (w, E) | none => none) = _
  cases L2.atI ws i <;> rfl
@[simp] theorem cmpN_lt {E : Hh} {i j : Int} : wCmpN .Lt (.int i) (.int j) E = some (decide (i < j)) := rfl
@[simp] theorem cmpN_le {E : Hh} {i j : Int} : wCmpN .LtE (.int i) (.int j) E = some (decide (i ≤ j)) := rfl
@[simp] theorem cmpN_gt {E : Hh} {i j : Int} : wCmpN .Gt (.int i) (.int j) E = some (decide (j < i)) := rfl
@[simp] theorem cmpN_ge {E : Hh} {i j : Int} : wCmpN .GtE (.int i) (.int j) E = some (decide (j ≤ i)) := rfl
@[simp] theorem cmp_lt {E : Hh} {i j : Int} : wCmp .Lt (.int i) (.int j) E = some (decide (i < j)) := rfl
@[simp] theorem cmp_le {E : Hh} {i j : Int} : wCmp .LtE (.int i) (.int j) E = some (decide (i ≤ j)) := rfl
@[simp] theorem sub_int {E : Hh} {i j : Int} : wBin .Sub (.int i) (.int j) E = some (.int (i - j), E) := rfl
@[simp] theorem add_int {E : Hh} {i j : Int} : wBin .Add (.int i) (.int j) E = some (.int (i + j), E) := rfl
@[simp] theorem neg_int {E : Hh} {i : Int} : wNeg (.int i) E = some (.int (-i), E) := rfl
theorem shp_int {E : Hh} {i : Int} : shp E (.int i) = some (.int i) := rfl
theorem shp_str {E : Hh} {i : Str} (h : PyData.strOk i = true) : shp E (.str i) = some (.str i) := by
  show (if SeqAt.shaped (.str i) = true then some (PyData.str i) else none) = _
  have e : SeqAt.shaped (.str i) = true := by
    show (PyData.strOk i && true) = true
    rw [h]
    rfl
  rw [if_pos e]
theorem shp_non {E : Hh} : shp E .non = some .none := rfl
theorem shp_bl {E : Hh} {b : Bool} : shp E (.bl b) = some (.bool b) := rfl
@[simp] theorem eq_int {E : Hh} {i j : Int} : wCmpN .Eq (.int i) (.int j) E = some (decide (i = j)) := by
  show eq2 E (.int i) (.int j) = _
  unfold eq2
  rw [shp_int, shp_int]
  show some (i == j) = _
  congr 1
@[simp] theorem ne_int {E : Hh} {i j : Int} : wCmpN .NotEq (.int i) (.int j) E = some (!decide (i = j)) := by
  show (eq2 E (.int i) (.int j)).map (!·) = _
  unfold eq2
  rw [shp_int, shp_int]
  show some (!(i == j)) = _
  congr 1
theorem eq_str {E : Hh} {i j : Str} (hi : PyData.strOk i = true) (hj : PyData.strOk j = true) : wCmpN .Eq (.str i) (.str j) E = some (decide (i = j)) := by
  show eq2 E (.str i) (.str j) = _
  unfold eq2
  rw [shp_str hi, shp_str hj]
  show some (i == j) = _
  by_cases h : i = j <;> simp [h]
theorem ne_str {E : Hh} {i j : Str} (hi : PyData.strOk i = true) (hj : PyData.strOk j = true) : wCmpN .NotEq (.str i) (.str j) E = some (!decide (i = j)) := by
  show (eq2 E (.str i) (.str j)).map (!·) = _
  unfold eq2
  rw [shp_str hi, shp_str hj]
  show some (!(i == j)) = _
  by_cases h : i = j <;> simp [h]
@[simp] theorem ne_non_int {E : Hh} {j : Int} : wCmpN .NotEq .non (.int j) E = some true := rfl
@[simp] theorem eq_tup0 {E : Hh} {ws : List W} : wCmpN .Eq (.tup ws) (.tup []) E = some ws.isEmpty := rfl
@[simp] theorem ne_tup0 {E : Hh} {ws : List W} : wCmpN .NotEq (.tup ws) (.tup []) E = some (!ws.isEmpty) := rfl
@[simp] theorem atI_0 {w : W} {r : List W} : L2.atI (w :: r) 0 = some w := by
  unfold L2.atI L2.ixN
  simp
theorem atI_nat {ws : List W} (n : Nat) : L2.atI ws (n : Int) = ws[n]? := by
  unfold L2.atI L2.ixN
  by_cases h : n < ws.length
  · simp [h]
  · simp [h]
@[simp] theorem atI_1 {w : W} {r : List W} : L2.atI (w :: r) 1 = r[0]? := by
  rw [show (1 : Int) = ((1 : Nat) : Int) from rfl, atI_nat]
  rfl
@[simp] theorem atI_2 {w : W} {r : List W} : L2.atI (w :: r) 2 = r[1]? := by
  rw [show (2 : Int) = ((2 : Nat) : Int) from rfl, atI_nat]
  rfl
@[simp] theorem atI_3 {w : W} {r : List W} : L2.atI (w :: r) 3 = r[2]? := by
  rw [show (3 : Int) = ((3 : Nat) : Int) from rfl, atI_nat]
  rfl

/-! ### comprehensions -/
section
variable {σ σ0 : Sg} {E A : Hh} {ls : List Lk} {g : ActG} {ct : Act Bool} {ce : Act W} {n : Nat} {f : W → Option W}
theorem comp_push (hn : A.length = n) (hst : ∀ acc B, stay (A ++ .lst acc :: B) ls = true) : ∀ {ws : List W},
    (∀ w ∈ ws, ∀ acc B, ∃ σ1, g w σ0 (A ++ .lst acc :: B) = some (.ok σ1 (A ++ .lst acc :: B)) ∧ ∃ B1, ct σ1 (A ++ .lst acc :: B) = some (.ok (f w).isSome (A ++ .lst acc :: (B ++ B1))) ∧
      ∀ y, f w = some y → ∃ B2, ce σ1 (A ++ .lst acc :: (B ++ B1)) = some (.ok y (A ++ .lst acc :: (B ++ B1 ++ B2)))) →
    ∀ acc B, acc.length + ws.length ≤ few → ∃ B', loopC ls g ct (pushC n ce) σ0 ws (A ++ .lst acc :: B) = some (A ++ .lst (acc ++ ws.filterMap f) :: (B ++ B'))
  | [], _, acc, B, _ => ⟨[], by
    unfold loopC
    rw [hst, if_pos rfl]
    simp⟩
  | w :: ws, h, acc, B, hl => by
    obtain ⟨σ1, e1, B1, e2, e3⟩ := h w List.mem_cons_self acc B
    have hr := comp_push hn hst (ws := ws) fun w hw => h w (List.mem_cons_of_mem _ hw)
    unfold loopC
    rw [hst, if_pos rfl, e1]
    dsimp only
    rw [e2]
    cases hf : f w with
    | none =>
      dsimp only [Option.isSome_none]
      obtain ⟨B', e4⟩ := hr acc (B ++ B1) (by simp at hl; omega)
      refine ⟨B1 ++ B', ?_⟩
      rw [e4, List.filterMap_cons, hf, List.append_assoc]
    | some y =>
      dsimp only [Option.isSome_some]
      obtain ⟨B2, e5⟩ := e3 y hf
      obtain ⟨B', e4⟩ := hr (acc ++ [y]) (B ++ B1 ++ B2) (by simp at hl ⊢; omega)
      refine ⟨B1 ++ B2 ++ B', ?_⟩
      have e6 : pushC n ce σ1 (A ++ .lst acc :: (B ++ B1)) = some (A ++ .lst (acc ++ [y]) :: (B ++ B1 ++ B2)) := by
        unfold pushC
        rw [e5]
        dsimp only
        rw [List.getElem?_append_right (by omega), hn, Nat.sub_self]
        show (if acc.length ≤ few then _ else none) = _
        rw [if_pos (by simp at hl; omega), List.set_append_right _ _ (by omega), hn, Nat.sub_self]
        rfl
      rw [e6]
      dsimp only
      rw [e4, List.filterMap_cons, hf]
      simp [List.append_assoc]
theorem ck_push {ci : Act Src} {vs : List Nat} {ws : List W} {A : Hh} (hi : ci σ E = some (.ok ⟨ws, ls⟩ A)) (hst : ∀ acc B, stay (A ++ .lst acc :: B) ls = true) (hl : ws.length ≤ few)
    (h : ∀ w ∈ ws, ∀ acc B, ∃ σ1, g w (wipeE σ vs) (A ++ .lst acc :: B) = some (.ok σ1 (A ++ .lst acc :: B)) ∧ ∃ B1, ct σ1 (A ++ .lst acc :: B) = some (.ok (f w).isSome (A ++ .lst acc :: (B ++ B1))) ∧
      ∀ y, f w = some y → ∃ B2, ce σ1 (A ++ .lst acc :: (B ++ B1)) = some (.ok y (A ++ .lst acc :: (B ++ B1 ++ B2)))) :
    ∃ B', ckR (.lst []) ci vs g ct (fun n => pushC n ce) σ E = some (.ok (.ref A.length) (A ++ .lst (ws.filterMap f) :: B')) := by
  obtain ⟨B', e⟩ := comp_push (A := A) rfl hst h [] [] (by simpa using hl)
  refine ⟨B', ?_⟩
  unfold ckR
  rw [hi]
  show (match loopC ls g ct (pushC A.length ce) (wipeE σ vs) ws (A ++ [.lst []]) with
    | some E' => some (Rz.ok (W.ref A.length) E')
    | none => none) = _
  rw [e]
  simp
end
theorem stay_nil {E : Hh} : stay E [] = true := rfl
theorem stay_lst {A B : Hh} {i : Nat} {ws : List W} {o : O} (h : (A : List O)[i]? = some (.lst ws)) : stay (A ++ o :: B) [.l i ws] = true := by
  have e : ((A ++ o :: B : Hh) : List O)[i]? = some (.lst ws) := by rw [List.getElem?_append_left (List.getElem?_eq_some_iff.mp h).1]; exact h
  show (stay1 _ _ && true) = true
  unfold stay1
  simp [seqOf, e, wEqs_refl]
theorem trus_map {α : Type} {E : Hh} {p : α → Bool} : ∀ {l : List α}, trus E (l.map fun x => .bl (p x)) = some (l.map p)
  | [] => rfl
  | x :: r => by
    show trus E (.bl (p x) :: r.map _) = _
    unfold trus
    rw [trus_map (l := r)]
    rfl
theorem filterMap_some {α β : Type} {f : α → β} : ∀ {l : List α}, l.filterMap (fun x => some (f x)) = l.map f
  | [] => rfl
  | x :: r => by rw [List.filterMap_cons]; simp [filterMap_some (l := r)]
theorem lst_at {A B : Hh} {ws : List W} : lstOf (A ++ .lst ws :: B) (.ref A.length) = some (A.length, ws) := by
  unfold lstOf
  dsimp only
  rw [List.getElem?_append_right (Nat.le_refl _), Nat.sub_self]
  rfl
theorem all_bl {α : Type} {A B : Hh} {p : α → Bool} {l : List α} : wBiX .all [.ref A.length] (A ++ .lst (l.map fun x => .bl (p x)) :: B) = some (.bl (l.all p), A ++ .lst (l.map fun x => .bl (p x)) :: B) := by
  unfold wBiX
  dsimp only
  rw [lst_at]
  dsimp only
  rw [trus_map]
  simp [List.all_map]
theorem key_tup {c : Act W} {σ : Sg} {E E1 : Hh} {ws : List W} (h : c σ E = some (.ok (.tup ws) E1)) : keyI c σ E = some (.ok ⟨ws, []⟩ E1) := by
  unfold keyI
  rw [h]
  rfl
theorem key_lst {c : Act W} {σ : Sg} {E E1 : Hh} {i : Nat} {ws : List W} (h : c σ E = some (.ok (.ref i) E1)) (hi : (E1 : List O)[i]? = some (.lst ws)) : keyI c σ E = some (.ok ⟨ws, [.l i ws]⟩ E1) := by
  unfold keyI
  rw [h]
  simp [andThen, keyF, lockOf, srcOf, seqOf, hi, optR]
/-- no dict is locked -/
theorem lockE_no {o : Option Nat} {c : Act W} {σ : Sg} {E : Hh} (h : lkIx o σ E = none) : lockE (lkIx o) c σ E = c σ E := by
  unfold lockE
  rw [h]
  rfl
theorem lockS_no {o : Option Nat} {c : ActS} {σ : Sg} {E : Hh} (h : lkIx o σ E = none) : lockS (lkIx o) c σ E = c σ E := by
  unfold lockS
  rw [h]
  rfl
theorem lk_none {σ : Sg} {E : Hh} : lkIx none σ E = none := rfl
theorem lk_dt {i : Nat} {σ : Sg} {E : Hh} {w : W} (h : (σ : List (Option W))[i]? = some (some w)) (d : Dt E w) : lkIx (some i) σ E = none := by
  unfold lkIx lkAt
  cases d with
  | ref n ws hn => simp [h, hn, isDict]
  | _ => simp [h]

theorem ix_ref {E : Hh} {r : Nat} {ws : List W} {i : Int} (h : (E : List O)[r]? = some (.lst ws)) : wIxN (.ref r) (.int i) E = (L2.atI ws i).map fun w => (w, E) := by
  cases e : L2.atI ws i <;> simp [wIxN, lkDn, dnOf, h, wIx, lkD, dctOf, ixSeq, seqOf, e]
theorem len_ref {E : Hh} {r : Nat} {ws : List W} (h : (E : List O)[r]? = some (.lst ws)) : wBiX .len [.ref r] E = some (.int ws.length, E) := by
  simp [wBiX, dnOf, h, wBi, seqOf]
end G

set_option Elab.async false
set_option linter.all false
set_option maxRecDepth 100000
set_option maxHeartbeats 4000000
namespace G
open PySem L2 PySem.Spec PyProof.Rows
theorem pre_at {A B : Hh} {i : Nat} {o : O} (p : A <+: B) (h : (A : List O)[i]? = some o) : (B : List O)[i]? = some o := by
  obtain ⟨F, rfl⟩ := p
  rw [List.getElem?_append_left (List.getElem?_eq_some_iff.mp h).1]
  exact h
theorem pre_set {A B : Hh} {t : Nat} {o : O} (p : A <+: B) (h : A.length ≤ t) : A <+: (B.set t o : List O) := by
  obtain ⟨F, rfl⟩ := p
  rw [List.set_append_right _ _ h]
  exact ⟨_, rfl⟩
theorem pre_app {A B F : Hh} (p : A <+: B) : A <+: (B ++ F : List O) := p.trans ⟨F, rfl⟩
theorem Dt.pre {A B : Hh} {w : W} (p : A <+: B) (d : Dt A w) : Dt B w := by
  obtain ⟨F, rfl⟩ := p
  exact d.more
def pairs (b : Int) (ls : List W) : List W := ls.mapIdx fun i w => .tup [.int (b + (i : Int)), w]
theorem pairs_nil {b : Int} : pairs b [] = [] := rfl
theorem pairs_cons {b : Int} {l : W} {r : List W} : pairs b (l :: r) = .tup [.int b, l] :: pairs (b + 1) r := by
  unfold pairs
  rw [List.mapIdx_cons]
  congr 1
  · simp
  · congr 1
    funext i w
    have : b + ((i + 1 : Nat) : Int) = b + 1 + (i : Int) := by omega
    rw [this]
@[simp] theorem tgs0 {σ : Sg} {E : Hh} : tgsR [] [] σ E = some (.ok σ E) := rfl
@[simp] theorem tgsS {c : ActG} {cs : List ActG} {w : W} {r : List W} {σ : Sg} {E : Hh} : tgsR (c :: cs) (w :: r) σ E = andThen (c w σ E) fun σ1 E1 => tgsR cs r σ1 E1 := rfl
@[simp] theorem unG_tup {n : Nat} {d : ActGs} {ws : List W} {σ : Sg} {E : Hh} : unG n d (.tup ws) σ E = if ws.length = n then d ws σ E else none := rfl
theorem loopF_c {g : ActG} {body : ActS} {w : W} {r : List W} {σ : Sg} {E : Hh} : loopF [] g body (w :: r) σ E = andThen (g w σ E) fun σ1 E1 => andThen (body σ1 E1) fun f E2 => match f with
      | .nx σ2 => loopF [] g body r σ2 E2
      | .ct σ2 => loopF [] g body r σ2 E2
      | .bk σ2 => some (.ok (.nx σ2) E2)
      | .rt w => some (.ok (.rt w) E2) := rfl
theorem ext_lst {E : Hh} {t n : Nat} {xs us : List W} (ht : (E : List O)[t]? = some (.lst xs)) (hn : (E : List O)[n]? = some (.lst us)) (hl : xs.length + us.length ≤ few) : wMk .extend (.ref t) [.ref n] E = some (.non, (E.set t (.lst (xs ++ us)) : List O)) := by simp [wMk, lstOf, ht, hn, hl]
theorem tyM_lst {E : Hh} {t : Nat} {xs : List W} (ht : (E : List O)[t]? = some (.lst xs)) : tyM E (.ref t) .extend = true ∧ tyM E (.ref t) .pop = true ∧ tyM E (.ref t) .append = true ∧ tyM E (.ref t) .index = true := by simp [tyM, lstOf, ht]
@[simp] theorem meth_ap {k : Mk} {co : Act W} {ca : Act (List W)} {σ : Sg} {E : Hh} : methA k co ca σ E = andThen (co σ E) fun x E1 => if tyM E1 x k = true then andThen (ca σ E1) fun xs E2 => lift (wMk k x xs E2) else none := rfl
theorem loopW_c {ct : Act Bool} {body : ActS} {k : Nat} {σ : Sg} {E : Hh} : loopW ct body (k + 1) σ E = andThen (ct σ E) fun b E1 => if b = true then andThen (body σ E1) fun f E2 => match f with
      | .nx σ1 => loopW ct body k σ1 E2
      | .ct σ1 => loopW ct body k σ1 E2
      | .bk σ1 => some (.ok (.nx σ1) E2)
      | .rt w => some (.ok (.rt w) E2)
    else some (.ok (.nx σ) E1) := rfl
theorem tru_ref {E : Hh} {t : Nat} {ws : List W} (h : (E : List O)[t]? = some (.lst ws)) : wTruN (.ref t) E = some (!ws.isEmpty) := by simp [wTruN, dnOf, h, wTru, seqOf]
theorem pop_lst {E : Hh} {t : Nat} {xs : List W} {x : W} (ht : (E : List O)[t]? = some (.lst (xs ++ [x]))) : wMk .pop (.ref t) [] E = some (x, (E.set t (.lst xs) : List O)) := by simp [wMk, lstOf, ht]
theorem flow_id {o : Option (Rz Fl)} : (andThen o fun f E1 => match f with
    | .nx σ1 => some (.ok (.nx σ1) E1)
    | f => some (.ok f E1)) = o := by
  cases o with
  | none => rfl
  | some r =>
    cases r with
    | ex x E => rfl
    | ok f E => cases f <;> rfl
def CupAt (E : Hh) (c : Nat) : Prop := ∃ g s : Int, (E : List O)[c]? = some (.lst [.int g, .int s]) ∧ 0 ≤ g ∧ 0 ≤ s ∧ s < 4294967296
def Nx (c : Nat) (E F : Hh) : Prop := (∀ i o, i ≠ c → (E : List O)[i]? = some o → (F : List O)[i]? = some o) ∧ CupAt F c
theorem Nx.trans {c : Nat} {E F G' : Hh} (a : Nx c E F) (b : Nx c F G') : Nx c E G' := ⟨fun i o h e => b.1 i o h (a.1 i o h e), b.2⟩
theorem CupAt.refl {c : Nat} {E : Hh} (h : CupAt E c) : Nx c E E := ⟨fun _ _ _ e => e, h⟩
theorem CupAt.pre {c : Nat} {E F : Hh} (h : CupAt E c) (p : E <+: F) : Nx c E F := by
  obtain ⟨g, s, e, r⟩ := h
  exact ⟨fun i o _ e => pre_at p e, g, s, pre_at p e, r⟩
theorem Dt.nx {c : Nat} {E F : Hh} {w : W} (d : Dt E w) (n : Nx c E F) : Dt F w := by
  induction d with
  | non => exact .non
  | bl b => exact .bl b
  | int i => exact .int i
  | str s h => exact .str s h
  | tup ws hl h ih => exact .tup ws hl ih
  | ref i ws h =>
    by_cases hi : i = c
    · subst hi
      obtain ⟨g, s, e, _⟩ := n.2
      exact .ref _ _ e
    · exact .ref i ws (n.1 i _ hi h)
@[simp] theorem mod_int {E : Hh} {i j : Int} : wBin .Mod (.int i) (.int j) E = if j ≠ 0 then some (.int (i.fmod j), E) else none := rfl
@[simp] theorem div_int {E : Hh} {i j : Int} : wBin .FloorDiv (.int i) (.int j) E = if j ≠ 0 ∧ j.natAbs < 1073741824 then some (.int (i.fdiv j), E) else none := rfl
@[simp] theorem mul_int {E : Hh} {i j : Int} : wBin .Mult (.int i) (.int j) E = if (-two64 < i ∧ i < two64) ∨ (-two64 < j ∧ j < two64) then some (.int (i * j), E) else none := rfl
@[simp] theorem bi_int {E : Hh} {i : Int} : wBiX .int [.int i] E = some (.int i, E) := rfl
theorem set_lst {E : Hh} {c : Nat} {a b w : W} (h : (E : List O)[c]? = some (.lst [a, b])) : wSetAll (.ref c) (.int 0) w E = some (E.set c (.lst [w, b]) : List O) ∧ wSetAll (.ref c) (.int 1) w E = some (E.set c (.lst [a, w]) : List O) := by
  have d : dnOf E (.ref c) = none := by simp [dnOf, h]
  have l : lstOf E (.ref c) = some (c, [a, b]) := by simp [lstOf, h]
  constructor <;> (unfold wSetAll wSetN wSet; rw [d, l]; rfl)
@[simp] theorem subNG_ap {co ci : Act W} {w : W} {σ : Sg} {E : Hh} : subNG co ci w σ E = andThen (co σ E) fun o E1 => andThen (ci σ E1) fun i E2 => match wSetAll o i w E2 with
  | some E3 => some (.ok σ E3)
  | none => none := by
  unfold subNG
  congr 1
  funext o E1
  congr 1
  funext i E2
  cases wSetAll o i w E2 <;> rfl
def okStr (x : Str) : Prop := PyData.strOk x = true
def nmW (w : Str) : W := .tup [.str w, .tup []]
@[simp] theorem par2_ap {i j : Nat} {ca : Act (List W)} {σ : Sg} {E : Hh} : par2R i j ca σ E = andThen (ca σ E) fun ws E1 => match ws with
    | [v, w] => some (.ok (.nx ((σ.set i (some v)).set j (some w))) E1)
    | _ => none := rfl
def sW (l : List Str) : List W := l.map W.str
theorem cat_new {E : Hh} {a b : Nat} {xs ys : List W} (ha : (E : List O)[a]? = some (.lst xs)) (hb : (E : List O)[b]? = some (.lst ys)) (hl : xs.length + ys.length ≤ 1000) : wBin .Add (.ref a) (.ref b) E = some (.ref E.length, (E ++ [.lst (xs ++ ys)] : List O)) := by
  have e1 : lstOf E (.ref a) = some (a, xs) := by simp [lstOf, ha]
  have e2 : lstOf E (.ref b) = some (b, ys) := by simp [lstOf, hb]
  show wCat (.ref a) (.ref b) E = _
  unfold wCat
  simp only [e1, e2]
  rw [if_pos (by have : (1000 : Nat) ≤ big := by decide
                 omega)]
theorem cat_tup {E : Hh} {xs ys : List W} (hl : xs.length + ys.length ≤ 1000) : wBin .Add (.tup xs) (.tup ys) E = some (.tup (xs ++ ys), E) := by
  show (if xs.length + ys.length ≤ big then some ((W.tup (xs ++ ys)), E) else none) = _
  rw [if_pos (by have : (1000 : Nat) ≤ big := by decide
                 omega)]
@[simp] theorem sW_emp {l : List Str} : (sW l).isEmpty = l.isEmpty := by cases l <;> rfl
theorem ne_t0 {E : Hh} {l : List Str} : wCmpN .NotEq (.tup (sW l)) (.tup []) E = some (!l.isEmpty) := by
  rw [ne_tup0]
  cases l <;> rfl
theorem blk_nx {s : ActS} {r : List ActS} {σ σ1 : Sg} {E E1 : Hh} (h : s σ E = some (.ok (.nx σ1) E1)) : blkR (s :: r) σ E = blkR r σ1 E1 := by rw [blkS, h]; rfl
theorem blk_rt {s : ActS} {r : List ActS} {σ : Sg} {w : W} {E E1 : Hh} (h : s σ E = some (.ok (.rt w) E1)) : blkR (s :: r) σ E = some (.ok (.rt w) E1) := by rw [blkS, h]; rfl
def Lst (a : Act W) (σ : Sg) (E : Hh) (xs : List W) : Prop := ∃ (l : Nat) (F : Hh), a σ E = some (.ok (.ref l) F) ∧ E <+: F ∧ E.length ≤ l ∧ (F : List O)[l]? = some (.lst xs)
theorem lst_lst {ca : Act (List W)} {σ : Sg} {E : Hh} {ws : List W} (h : ca σ E = some (.ok ws E)) (hl : ws.length ≤ few) : Lst (wLst ca) σ E ws := ⟨E.length, E ++ [.lst ws], by rw [lst_ap, h, andThen_ok, if_pos hl], List.prefix_append _ _, Nat.le_refl _, by simp⟩
theorem lst_cat {a b : Act W} {σ : Sg} {E : Hh} {xs ys : List W} (ha : Lst a σ E xs) (hb : ∀ F, E <+: F → Lst b σ F ys) (hl : xs.length + ys.length ≤ 1000) : Lst (wBinA .Add a b) σ E (xs ++ ys) := by
  obtain ⟨l, F, e1, p1, l1, g1⟩ := ha
  obtain ⟨m, F2, e2, p2, l2, g2⟩ := hb F p1
  refine ⟨F2.length, F2 ++ [.lst (xs ++ ys)], ?_, (p1.trans p2).trans (List.prefix_append _ _), ?_, by simp⟩
  · rw [bin_ap, e1, andThen_ok, e2, andThen_ok, cat_new (pre_at p2 g1) g2 hl]
    rfl
  · obtain ⟨Z, rfl⟩ := p1.trans p2
    simp
theorem lst_if {ct : Act Bool} {a b : Act W} {σ : Sg} {E : Hh} {c : Bool} {xs : List W} (h : ct σ E = some (.ok c E)) (h1 : c = true → Lst a σ E xs) (h2 : c = false → Lst b σ E xs) : Lst (wIf ct a b) σ E xs := by
  cases c with
  | true =>
    obtain ⟨l, F, e, r⟩ := h1 rfl
    exact ⟨l, F, by rw [wif_ap, h, andThen_ok, if_pos rfl, e], r⟩
  | false =>
    obtain ⟨l, F, e, r⟩ := h2 rfl
    exact ⟨l, F, by rw [wif_ap, h, andThen_ok, if_neg Bool.false_ne_true, e], r⟩
theorem lst_mul3 {a : Act W} {σ : Sg} {E : Hh} {xs : List W} (ha : Lst a σ E xs) (hl : xs.length ≤ 100) : Lst (wBinA .Mult a (cst (.int 3))) σ E (List.replicate 3 xs).flatten := by
  obtain ⟨l, F, e1, p1, l1, g1⟩ := ha
  refine ⟨F.length, F ++ [.lst (List.replicate 3 xs).flatten], ?_, p1.trans (List.prefix_append _ _), ?_, by simp⟩
  · have e : lstOf F (.ref l) = some (l, xs) := by simp [lstOf, g1]
    have m : wBin .Mult (.ref l) (.int 3) F = some (.ref F.length, (F ++ [.lst (List.replicate 3 xs).flatten] : List O)) := by
      show wMul' (.ref l) (.int 3) F = _
      unfold wMul'
      simp only [e]
      rw [if_pos ⟨by decide, by decide, by omega⟩]
      rfl
    rw [bin_ap, e1, andThen_ok, cst_ap, andThen_ok, m]
    rfl
  · obtain ⟨Z, rfl⟩ := p1
    simp
theorem mem_sW {l : List Str} {w : W} (h : w ∈ sW l) : ∃ x ∈ l, w = .str x := by
  obtain ⟨x, hx, rfl⟩ := List.mem_map.mp h
  exact ⟨x, hx, rfl⟩
theorem CupAt.lt {c : Nat} {E : Hh} (h : CupAt E c) : c < E.length := by
  obtain ⟨g, s, e, _⟩ := h
  exact (List.getElem?_eq_some_iff.mp e).1
theorem tupOf_ref {A B : Hh} {xs : List W} : wBiX .tuple [.ref A.length] (A ++ .lst xs :: B) = some (.tup xs, A ++ .lst xs :: B) := by
  have e : seqOf (A ++ .lst xs :: B) (.ref A.length) = some xs := by
    have : ((A ++ .lst xs :: B : Hh) : List O)[A.length]? = some (.lst xs) := by rw [List.getElem?_append_right (Nat.le_refl _), Nat.sub_self]; rfl
    simp [seqOf, this]
  show (match seqOf (A ++ .lst xs :: B) (.ref A.length) with
    | some ws => some (W.tup ws, (A ++ O.lst xs :: B : List O))
    | none => none) = _
  rw [e]
theorem sW_app {a b : List Str} : sW (a ++ b) = sW a ++ sW b := List.map_append
theorem sl_tup {E : Hh} {ws : List W} {lo hi : Option Int} : wSlV (.tup ws) lo hi E = some (.tup (cutW ws lo hi), E) := rfl
theorem list_tup {E : Hh} {ws : List W} : wBiX .list [.tup ws] E = some (.ref E.length, (E ++ [.lst ws] : List O)) := rfl
theorem stay_pre {E F : Hh} {r : Nat} {ws : List W} (p : E <+: F) (h : (E : List O)[r]? = some (.lst ws)) : stay F [.l r ws] = true := by
  have e : (F : List O)[r]? = some (.lst ws) := pre_at p h
  show (stay1 _ _ && true) = true
  unfold stay1
  simp [seqOf, e, wEqs_refl]
theorem pairs0 {ws : List W} : (ws.mapIdx fun i w => (.tup [.int (i : Int), w] : W)) = pairs 0 ws := by
  unfold pairs
  congr 1
  funext i w
  simp
theorem enum_lst {c : Act W} {σ : Sg} {E E1 : Hh} {r : Nat} {ws : List W} (h : c σ E = some (.ok (.ref r) E1)) (hr : (E1 : List O)[r]? = some (.lst ws)) : srcI enumF (argsR [c]) σ E = some (.ok ⟨pairs 0 ws, [.l r ws]⟩ E1) := by
  have sq : seqOf E1 (.ref r) = some ws := by simp [seqOf, hr]
  unfold srcI
  simp [h, enumF, srcSq, sq, optR, enumSrc, pairs0]
theorem flVs_str : ∀ {l : List Str}, (sW l).mapM flV = some (l.map V.str)
  | [] => rfl
  | x :: r => by
    show (W.str x :: sW r).mapM flV = _
    rw [List.mapM_cons, flVs_str (l := r)]
    rfl
theorem inV_str {x : Str} : ∀ {l : List Str}, inV (.str x) (l.map V.str) = decide (x ∈ l)
  | [] => rfl
  | y :: r => by
    show ((y == x) || inV (.str x) (r.map V.str)) = _
    rw [inV_str (l := r)]
    by_cases h : y = x
    · simp [h]
    · have h' : ¬ x = y := fun e => h e.symm
      simp [h, h']
theorem notin_str {E : Hh} {x : Str} {l : List Str} : wCmpN .NotIn (.str x) (.tup (sW l)) E = some (!decide (x ∈ l)) := by
  have e : wInN (.str x) (.tup (sW l)) E = some (decide (x ∈ l)) := by
    unfold wInN
    have h1 : lkDn E (.tup (sW l)) (.str x) = none := rfl
    have h2 : oddIn E (.str x) (.tup (sW l)) = false := by show ((sW l).all isTxt && false) = false; rw [Bool.and_false]
    rw [h1, h2]
    show wIn (.str x) (.tup (sW l)) E = _
    unfold wIn
    have h3 : lkD E (.tup (sW l)) (.str x) = none := rfl
    rw [h3]
    show (match flV (.str x), (sW l).mapM flV with
      | some v, some vs => some (inV v vs)
      | _, _ => _) = _
    rw [flVs_str]
    show some (inV (.str x) (l.map V.str)) = _
    rw [inV_str]
  show (wInN (.str x) (.tup (sW l)) E).map (!·) = _
  rw [e]
  rfl
def Pd (w : W) : Prop := ∀ E, Dt E w
theorem pd_int {i : Int} : Pd (.int i) := fun _ => .int i
theorem pd_str {x : Str} (h : okStr x) : Pd (.str x) := fun _ => .str x h
theorem few100 {n : Nat} (h : n ≤ 100) : n ≤ few := by
  have : (100 : Nat) ≤ few := by decide
  omega
theorem pd_tup {ws : List W} (hl : ws.length ≤ few) (h : ∀ w ∈ ws, Pd w) : Pd (.tup ws) := fun E => .tup ws hl fun w hw => h w hw E
theorem lkK_cons {κ : Type} [DecidableEq κ] {p : κ × W} {r : List (κ × W)} {k : κ} : lkK (p :: r) k = if p.1 = k then some p.2 else lkK r k := by
  unfold lkK
  rw [List.find?_cons]
  by_cases h : p.1 = k <;> simp [h]
theorem lkK_app {κ : Type} [DecidableEq κ] {k : κ} {b : List (κ × W)} : ∀ {a : List (κ × W)}, (∀ p ∈ a, p.1 ≠ k) → lkK (a ++ b) k = lkK b k
  | [], _ => rfl
  | p :: r, h => by
    rw [List.cons_append, lkK_cons, if_neg (h p List.mem_cons_self), lkK_app fun q hq => h q (List.mem_cons_of_mem _ hq)]
theorem lkK_app_ne {κ : Type} [DecidableEq κ] {k j : κ} {w : W} (h : j ≠ k) : ∀ {a : List (κ × W)}, lkK (a ++ [(j, w)]) k = lkK a k
  | [] => by rw [List.nil_append, lkK_cons, if_neg h]
  | p :: r => by
    rw [List.cons_append, lkK_cons, lkK_cons, lkK_app_ne h]
theorem lkK_map_ne {κ : Type} [DecidableEq κ] {k j : κ} {w : W} (h : j ≠ k) : ∀ {a : List (κ × W)}, lkK (a.map fun kv => if kv.1 = j then (kv.1, w) else kv) k = lkK a k
  | [] => rfl
  | p :: r => by
    rw [List.map_cons, lkK_cons, lkK_cons, lkK_map_ne h]
    by_cases hj : p.1 = j
    · rw [if_pos hj]
      have : ¬ p.1 = k := fun e => h (hj.symm.trans e)
      rw [if_neg this, if_neg this]
    · rw [if_neg hj]
theorem lkK_map_eq {κ : Type} [DecidableEq κ] {j : κ} {w : W} : ∀ {a : List (κ × W)}, (a.any fun kv => decide (kv.1 = j)) = true → lkK (a.map fun kv => if kv.1 = j then (kv.1, w) else kv) j = some w
  | [], h => by cases h
  | p :: r, h => by
    rw [List.map_cons, lkK_cons]
    by_cases hj : p.1 = j
    · simp [hj]
    · rw [if_neg hj, if_neg hj]
      refine lkK_map_eq ?_
      simpa [hj] using h
theorem lkK_put {κ : Type} [DecidableEq κ] {a : List (κ × W)} {j k : κ} {w : W} : lkK (putKW a j w) k = if j = k then some w else lkK a k := by
  unfold putKW
  by_cases ha : (a.any fun kv => decide (kv.1 = j)) = true
  · rw [if_pos ha]
    by_cases h : j = k
    · subst h
      rw [if_pos rfl, lkK_map_eq ha]
    · rw [if_neg h, lkK_map_ne h]
  · rw [if_neg ha]
    by_cases h : j = k
    · subst h
      rw [if_pos rfl, lkK_app (fun p hp e => ha (List.any_eq_true.mpr ⟨p, hp, decide_eq_true e⟩)), lkK_cons, if_pos rfl]
    · rw [if_neg h, lkK_app_ne h]
theorem put_len {κ : Type} [DecidableEq κ] {a : List (κ × W)} {j : κ} {w : W} : (putKW a j w).length ≤ a.length + 1 := by
  unfold putKW
  split <;> simp
theorem ix_kn {E : Hh} {d : Nat} {kvs : List (Key × W)} {x : Str} {w : W} (e : (E : List O)[d]? = some (.dK kvs)) (h : lkK kvs (.inr x) = some w) : wIxN (.ref d) (.str x) E = some (w, E) := by
  have h1 : lkDn E (.ref d) (.str x) = none := by
    unfold lkDn dnOf
    cases kvs with
    | nil => simp [e, tkOk]
    | cons _ _ => simp [e]
  have h2 : lkD E (.ref d) (.str x) = some (some w) := by simp [lkD, dctOf, e, keyOf, h]
  unfold wIxN
  rw [h1]
  show wIx (.ref d) (.str x) E = _
  unfold wIx
  rw [h2]
theorem set_kn {E : Hh} {d : Nat} {kvs : List (Key × W)} {x : Str} {w : W} (e : (E : List O)[d]? = some (.dK kvs)) (hl : kvs.length ≤ 400) : wSetAll (.ref d) (.str x) w E = some (E.set d (.dK (putKW kvs (.inr x) w)) : List O) := by
  have h1 : wSetN (.ref d) (.str x) w E = none := by
    unfold wSetN dnOf
    cases kvs with
    | nil => simp [e, tkOk]
    | cons _ _ => simp [e]
  have h2 : lstOf E (.ref d) = none := by simp [lstOf, e]
  have h3 : dKOf E (.ref d) = some (d, kvs) := by simp [dKOf, e]
  have h4 : kvs.length ≤ few := Nat.le_trans hl (by decide)
  unfold wSetAll
  rw [h1]
  show wSet (.ref d) (.str x) w E = _
  unfold wSet
  rw [h2, h3]
  simp [keyOf, h4]
@[simp] theorem dict_ap {c : Act W} {σ : Sg} {E : Hh} : dictA c σ E = andThen (c σ E) fun x E1 => lift (dictF x E1) := rfl
theorem app_lst {E : Hh} {t : Nat} {xs : List W} {x : W} (ht : (E : List O)[t]? = some (.lst xs)) (hl : xs.length ≤ 1000) : wMk .append (.ref t) [x] E = some (.non, (E.set t (.lst (xs ++ [x])) : List O)) := by
  have : xs.length ≤ few := Nat.le_trans hl (by decide)
  simp [wMk, lstOf, ht, this]
theorem loopC_s {ls : List Lk} {g : ActG} {ct : Act Bool} {body : ActH} {σ0 : Sg} {w : W} {r : List W} {E : Hh} (h : stay E ls = true) : loopC ls g ct body σ0 (w :: r) E = match g w σ0 E with
    | some (.ok σ1 E1) => match ct σ1 E1 with
      | some (.ok true E2) => match body σ1 E2 with
        | some E3 => loopC ls g ct body σ0 r E3
        | none => none
      | some (.ok false E2) => loopC ls g ct body σ0 r E2
      | _ => none
    | _ => none := by
  show (if stay E ls = true then _ else none) = _
  exact if_pos h
theorem push_c {n : Nat} {ce : Act W} {σ : Sg} {E F : Hh} {y : W} {acc : List W} (h : ce σ E = some (.ok y F)) (hn : (F : List O)[n]? = some (.lst acc)) (hl : acc.length ≤ 100) : pushC n ce σ E = some (F.set n (.lst (acc ++ [y])) : List O) := by
  unfold pushC
  rw [h]
  simp only [hn]
  rw [if_pos (few100 hl)]
theorem tup_of {E : Hh} {r : Nat} {ws : List W} (h : (E : List O)[r]? = some (.lst ws)) : wBiX .tuple [.ref r] E = some (.tup ws, E) := by
  have e : seqOf E (.ref r) = some ws := by simp [seqOf, h]
  show (match seqOf E (.ref r) with
    | some ws => some (W.tup ws, E)
    | none => none) = _
  rw [e]
theorem setAt_ok {E : Hh} {b i : Nat} {xs : List W} {w : W} (h : (E : List O)[b]? = some (.lst xs)) (hi : i < xs.length) : wSetAll (.ref b) (.int (i : Int)) w E = some (E.set b (.lst (xs.set i w)) : List O) := by
  have d : dnOf E (.ref b) = none := by simp [dnOf, h]
  have l : lstOf E (.ref b) = some (b, xs) := by simp [lstOf, h]
  have ix : L2.ixN xs.length (i : Int) = some i := by
    unfold L2.ixN
    rw [if_pos (by omega), if_pos (by omega)]
    simp
  unfold wSetAll wSetN wSet
  rw [d, l]
  simp only [ix]
@[simp] theorem newD_ap {σ : Sg} {E : Hh} : newD σ E = some (.ok (.ref E.length) (E ++ [.dK []] : List O)) := rfl
theorem mul_tup {E : Hh} {xs : List W} {j : Int} (h1 : 2 ≤ j) (h2 : j ≤ 1000) (hl : xs.length ≤ 1000) : wBin .Mult (.tup xs) (.int j) E = some (.tup (List.replicate j.toNat xs).flatten, E) := by
  show wMul' (.tup xs) (.int j) E = _
  unfold wMul'
  cases xs with
  | nil =>
    have e : (List.replicate j.toNat ([] : List W)).flatten = [] := by simp
    rw [e]
    simp only []
    rw [if_neg (fun h => h.1 rfl), if_pos ⟨rfl, by omega, h2⟩]
  | cons a r =>
    simp only []
    rw [if_pos ⟨by simp, h1, h2, hl⟩]
theorem blk_one {s : ActS} {σ : Sg} {E : Hh} : blkR [s] σ E = s σ E := by
  rw [blkS]
  cases s σ E with
  | none => rfl
  | some r =>
    cases r with
    | ex x E => rfl
    | ok f E => cases f <;> rfl
@[simp] theorem back_ap {c : Act W} {σ : Sg} {E : Hh} : wBack c σ E = andThen (c σ E) fun x E1 => lift (wBackV x E1) := rfl
theorem Dt.cut {E : Hh} {ws : List W} {lo hi : Option Int} (d : Dt E (.tup ws)) : Dt E (.tup (cutW ws lo hi)) := by
  have sub : ∀ w ∈ cutW ws lo hi, w ∈ ws := fun w h => List.mem_of_mem_drop (List.mem_of_mem_take h)
  refine .tup _ ?_ fun w h => d.kids w (sub w h)
  have := d.len
  unfold cutW
  rw [List.length_take, List.length_drop]
  omega
theorem Dt.cat {E : Hh} {a b : List W} (d1 : Dt E (.tup a)) (d2 : Dt E (.tup b)) (h : a.length + b.length ≤ 3000) : Dt E (.tup (a ++ b)) := by
  refine .tup _ (by rw [List.length_append]; unfold few; omega) fun w hw => ?_
  rcases List.mem_append.mp hw with hw | hw
  · exact d1.kids w hw
  · exact d2.kids w hw
theorem cut_len {ws : List W} {lo hi : Option Int} : (cutW ws lo hi).length ≤ ws.length := by
  unfold cutW
  rw [List.length_take, List.length_drop]
  omega
theorem Dt.one {E : Hh} {w : W} (d : Dt E w) : Dt E (.tup [w]) := .tup _ (few100 (by simp)) fun x hx => by rw [List.mem_singleton.mp hx]; exact d
theorem dt0 {E : Hh} : Dt E (.tup []) := .tup _ (few100 (by simp)) fun x hx => by cases hx
theorem Dt.two {E : Hh} {a b : W} (d1 : Dt E a) (d2 : Dt E b) : Dt E (.tup [a, b]) := .tup _ (few100 (by simp)) fun x hx => by
  rcases List.mem_cons.mp hx with rfl | hx
  · exact d1
  · rw [List.mem_singleton.mp hx]; exact d2
mutual
def pdB : W → Bool
  | .non => true
  | .bl _ => true
  | .int _ => true
  | .str s => PyData.strOk s
  | .tup ws => Nat.ble ws.length 2000 && pdBs ws
  | _ => false
def pdBs : List W → Bool
  | [] => true
  | w :: r => pdB w && pdBs r
end
theorem pdBs_mem : ∀ {ws : List W}, pdBs ws = true → ∀ w ∈ ws, pdB w = true
  | [], _, w, h => by cases h
  | x :: r, e, w, h => by
    unfold pdBs at e
    rw [Bool.and_eq_true] at e
    rcases List.mem_cons.mp h with rfl | h
    · exact e.1
    · exact pdBs_mem e.2 w h
theorem pd_ok : ∀ (w : W), pdB w = true → Pd w := by
  intro w
  induction w using W.rec (motive_2 := fun ws => pdBs ws = true → ∀ w ∈ ws, Pd w) with
  | non => exact fun _ _ => .non
  | bl b => exact fun _ _ => .bl b
  | int i => exact fun _ _ => .int i
  | str s => exact fun h _ => .str s h
  | tup ws ih =>
    intro h
    unfold pdB at h
    rw [Bool.and_eq_true] at h
    have hl := Nat.le_of_ble_eq_true h.1
    exact pd_tup (by unfold few; omega) (ih h.2)
  | ref i => intro h; cases h
  | fn x => intro h; cases h
  | ty n => intro h; cases h
  | nil => rename_i w hw; cases hw
  | cons a r ih1 ih2 =>
    rename_i h w hw
    unfold pdBs at h
    rw [Bool.and_eq_true] at h
    rcases List.mem_cons.mp hw with rfl | hw
    · exact ih1 h.1
    · exact ih2 h.2 w hw
@[simp] theorem ne_bl {b : Bool} {E : Hh} : wCmpN .NotEq (.bl b) (.bl b) E = some false := by
  cases b <;> rfl
@[simp] theorem isn_bl {a b : Bool} {E : Hh} : wCmpN .IsNot (.bl a) (.bl b) E = some (!decide (a = b)) := by
  cases a <;> cases b <;> rfl
@[simp] theorem is_bl {a b : Bool} {E : Hh} : wCmpN .Is (.bl a) (.bl b) E = some (decide (a = b)) := by
  cases a <;> cases b <;> rfl
theorem isi_bl {b : Bool} {E : Hh} : wBiX .isi [.bl b, .ty "bool"] E = some (.bl true, E) := by
  rw [isi_bool (.bl b)]
  rfl
@[simp] theorem pow_int {E : Hh} {i j : Int} : wBin .Pow (.int i) (.int j) E = if 0 ≤ j ∧ j ≤ 100 ∧ i.natAbs < 1000 then some (.int (i ^ j.toNat), E) else none := rfl
theorem emp_ref {E : Hh} {a b : Nat} {xs : List W} (ha : (E : List O)[a]? = some (.lst xs)) (hb : (E : List O)[b]? = some (.lst [])) : wCmpN .Eq (.ref a) (.ref b) E = some xs.isEmpty ∧ wCmpN .NotEq (.ref a) (.ref b) E = some (!xs.isEmpty) := by
  have e : empW E (.ref a) (.ref b) = some xs.isEmpty := by simp [empW, lstOf, ha, hb]
  constructor
  · show (match empW E (.ref a) (.ref b) with | some b => some b | none => _) = _
    rw [e]
  · show (match empW E (.ref a) (.ref b) with | some b => some (!b) | none => _) = _
    rw [e]
theorem sum_mem : ∀ {l : List Nat} {x : Nat}, x ∈ l → x ≤ l.sum
  | y :: r, x, h => by
    rw [List.sum_cons]
    rcases List.mem_cons.mp h with rfl | h
    · omega
    · have := sum_mem h
      omega
theorem mapM_int : ∀ {ns : List Int}, (ns.map W.int).mapM intW = some ns
  | [] => rfl
  | n :: r => by
    rw [List.map_cons, List.mapM_cons, mapM_int (ns := r)]
    rfl
theorem sum_ref {E : Hh} {r : Nat} {ns : List Int} (h : (E : List O)[r]? = some (.lst (ns.map W.int))) : wBiX .sum [.ref r] E = some (.int ns.sum, E) := by
  show (match lstOf E (.ref r) with
    | some (_, ws) => (ws.mapM intW).map fun (ns : List Int) => ((.int ns.sum : W), E)
    | none => none) = _
  simp only [lstOf, h]
  rw [mapM_int]
  rfl
theorem rng1F_int {E : Hh} {j : Int} (h : -two62 ≤ j ∧ j < two62) : rng1F E (.int j) = some (.ok (rngSrc 0 j.toNat) E) := by
  unfold rng1F
  exact if_pos h
theorem rng1I_int {ca : Act (List W)} {σ : Sg} {E E1 : Hh} {j : Int} {n : Nat} (h : ca σ E = some (.ok [.int j] E1)) (hj : j = n) (hn : n ≤ 300) : rng1I ca σ E = some (.ok (rngSrc 0 n) E1) := by
  unfold rng1I
  rw [h]
  show rng1F E1 (.int j) = _
  rw [rng1F_int (by unfold two62; omega), hj, Int.toNat_natCast]
theorem mapIdx_at {α β : Type} {f : Nat → α → β} {l : List α} {y : β} (h : y ∈ l.mapIdx f) : ∃ i x, l[i]? = some x ∧ y = f i x := by
  obtain ⟨i, hi, rfl⟩ := List.getElem_of_mem h
  rw [List.length_mapIdx] at hi
  exact ⟨i, l[i], List.getElem?_eq_getElem hi, by rw [List.getElem_mapIdx]⟩
theorem tup_set {n : Nat} {d : ActGs} {ws : List W} {σ : Sg} {E : Hh} : tupG n d (.tup ws) σ E = if ws.length = n then d ws σ E else none := rfl
theorem enum_tup {c : Act W} {σ : Sg} {E E1 : Hh} {ws : List W} (h : c σ E = some (.ok (.tup ws) E1)) : srcI enumF (argsR [c]) σ E = some (.ok ⟨ws.mapIdx fun i w => .tup [.int (i : Int), w], []⟩ E1) := by
  unfold srcI
  simp [h, enumF, srcSq, optR, enumSrc]
theorem abs_nn {i : Int} : wBiX .abs [.int i] = fun E => some (.int (if i < 0 then -i else i), E) := rfl
theorem pow18 {E : Hh} : wBin .Pow (.int 10) (.int 18) E = some (.int 1000000000000000000, E) := by
  show (if (0 : Int) ≤ 18 ∧ (18 : Int) ≤ 100 ∧ (10 : Int).natAbs < 1000 then some (W.int (10 ^ (18 : Int).toNat), E) else none) = _
  rw [if_pos (by decide)]
  rfl
theorem Dt.sub {E : Hh} {ws us : List W} (d : Dt E (.tup ws)) (h : us.length ≤ ws.length) (m : ∀ w ∈ us, w ∈ ws) : Dt E (.tup us) := .tup us (Nat.le_trans h d.len) fun w hw => d.kids w (m w hw)
end G

set_option Elab.async false
set_option linter.all false
set_option maxRecDepth 100000
set_option maxHeartbeats 4000000
namespace G
open PySem L2 PySem.Spec PyProof.Rows
/-! ### data of ascii texts; no list is the first item of a tuple -/
theorem dat_E : ∀ (w : W) (E : Hh) (n : Nat), dat E n w = dat [] 0 w := by
  intro w
  induction w using W.rec (motive_2 := fun ws => ∀ (E : Hh) (n : Nat), dats E n ws = dats [] 0 ws) with
  | non => intro E n; rfl
  | bl b => intro E n; rfl
  | int i => intro E n; rfl
  | str s => intro E n; rfl
  | tup ws ih => intro E n; show (dats E n ws).map PyData.tuple = (dats [] 0 ws).map PyData.tuple; rw [ih]
  | ref i => intro E n; rfl
  | fn x => intro E n; rfl
  | ty x => intro E n; rfl
  | nil => rename_i E n; rfl
  | cons a r ih1 ih2 => rename_i E n; unfold dats; rw [ih1 E n, ih2 E n]
def pureB (w : W) : Bool := match dat [] 0 w with
  | some d => SeqAt.shaped d
  | none => false
theorem dats_E {ws : List W} {E : Hh} {n : Nat} : dats E n ws = dats [] 0 ws := by
  have h := dat_E (.tup ws) E n
  unfold dat at h
  cases e1 : dats E n ws <;> cases e2 : dats [] 0 ws <;> simp [e1, e2] at h
  · rfl
  · rw [h]
theorem shp_pure {w : W} (h : pureB w = true) (E : Hh) : ∃ d, dat [] 0 w = some d ∧ shp E w = some d := by
  unfold pureB at h
  cases e : dat [] 0 w with
  | none => rw [e] at h; cases h
  | some d =>
    rw [e] at h
    refine ⟨d, rfl, ?_⟩
    have dl : datL E 4 w = some d := by
      cases w with
      | tup ws =>
        have e2 : (dats [] 0 ws).map PyData.tuple = some d := e
        unfold datL
        rw [dats_E]
        cases e3 : dats [] 0 ws with
        | none => rw [e3] at e2; cases e2
        | some ds => rw [e3] at e2; exact e2
      | ref i => cases e
      | _ => exact e
    unfold shp
    rw [dl]
    show (if SeqAt.shaped d = true then some d else none) = some d
    rw [if_pos h]
def flatB : W → Bool
  | .non => true
  | .bl _ => true
  | .int _ => true
  | .str s => PyData.strOk s
  | _ => false
def hdOK (E : Hh) : List W → Prop
  | .ref i :: _ => ∃ us, (E : List O)[i]? = some (.lst us) ∧ us.all flatB = true
  | .tup us :: _ => pureB (.tup us) = true
  | _ => True
theorem hdOK.pre {E F : Hh} {ws : List W} (p : E <+: F) (h : hdOK E ws) : hdOK F ws := by
  cases ws with
  | nil => trivial
  | cons a r =>
    cases a with
    | ref i =>
      obtain ⟨us, e, f⟩ := h
      exact ⟨us, pre_at p e, f⟩
    | tup us => exact h
    | _ => trivial
/-- what stands second, if it is a tuple -/
def p1OK (E : Hh) : List W → Prop
  | _ :: .tup us :: _ => hdOK E us
  | _ => True
theorem p1OK.pre {E F : Hh} {ws : List W} (p : E <+: F) (h : p1OK E ws) : p1OK F ws := by
  match ws, h with
  | [], _ => trivial
  | [_], _ => trivial
  | _ :: .tup us :: _, h => exact hdOK.pre p (show hdOK E us from h)
  | _ :: .non :: _, _ => trivial
  | _ :: .bl _ :: _, _ => trivial
  | _ :: .int _ :: _, _ => trivial
  | _ :: .str _ :: _, _ => trivial
  | _ :: .ref _ :: _, _ => trivial
  | _ :: .fn _ :: _, _ => trivial
  | _ :: .ty _ :: _, _ => trivial
def strA (s : Str) : Bool := PyData.strOk s && (Asc s && decide (s.length ≤ 1000))
inductive DA (E : Hh) : W → Prop
  | non : DA E .non
  | bl (b : Bool) : DA E (.bl b)
  | int (i : Int) : DA E (.int i)
  | str (s : Str) (h : strA s = true) : DA E (.str s)
  | tup (ws : List W) (hl : ws.length ≤ few) (h : ∀ w ∈ ws, DA E w) (hr : p1OK E ws) : DA E (.tup ws)
  | ref (i : Nat) (ws : List W) (h : (E : List O)[i]? = some (.lst ws)) : DA E (.ref i)
theorem strA_ok {s : Str} (h : strA s = true) : PyData.strOk s = true ∧ Asc s = true ∧ s.length ≤ 1000 := by
  unfold strA at h
  simp only [Bool.and_eq_true, decide_eq_true_eq] at h
  exact h
theorem DA.dt {E : Hh} {w : W} (d : DA E w) : Dt E w := by
  induction d with
  | non => exact .non
  | bl b => exact .bl b
  | int i => exact .int i
  | str s h => exact .str s (strA_ok h).1
  | tup ws hl h hr ih => exact .tup ws hl ih
  | ref i ws h => exact .ref i ws h
theorem DA.kids {E : Hh} {ws : List W} (d : DA E (.tup ws)) : ∀ w ∈ ws, DA E w := by
  cases d with
  | tup _ _ h _ => exact h
theorem DA.len {E : Hh} {ws : List W} (d : DA E (.tup ws)) : ws.length ≤ few := d.dt.len
theorem DA.p1 {E : Hh} {ws : List W} (d : DA E (.tup ws)) : p1OK E ws := by
  cases d with
  | tup _ _ _ hr => exact hr
theorem DA.sok {E : Hh} {s : Str} (d : DA E (.str s)) : strA s = true := by
  cases d with
  | str _ h => exact h
theorem DA.pre {E F : Hh} {w : W} (p : E <+: F) (d : DA E w) : DA F w := by
  induction d with
  | non => exact .non
  | bl b => exact .bl b
  | int i => exact .int i
  | str s h => exact .str s h
  | tup ws hl h hr ih => exact .tup ws hl ih (hr.pre p)
  | ref i ws h => exact .ref i ws (pre_at p h)
/-! ### words, marks, pieces -/
def NOW : List Str := ["given", "apply", "hold", "test", "maker", "row", "make", "any", "name", "word", "fill"]
def wordS (s : Str) : Bool := decide (1 ≤ s.length) && (decide (s.length ≤ 6) && (alphaA s && (lowerA s && !decide (s ∈ NOW))))
def wordB : W → Bool
  | .str s => wordS s
  | _ => false
def isInt : W → Bool
  | .int _ => true
  | _ => false
def btw (w : W) (lo hi : Int) : Bool := match w with
  | .int i => decide (lo ≤ i) && decide (i ≤ hi)
  | _ => false
def amountB (w : W) : Bool := btw w (-1000000000000) 1000000000000
def ascI : List Int → Bool
  | a :: b :: r => decide (a < b) && ascI (b :: r)
  | _ => true
def marksB (m g : Int) : W → Bool
  | .tup ws => decide ((ws.length : Int) ≤ m) && match ws.mapM intW with
    | some [] => true
    | some (n :: ns) => decide (1 ≤ n) && (decide ((n :: ns).getLastD 0 ≤ g) && ascI (n :: ns))
    | none => false
  | _ => false
def markedB (m g : Int) : W → Bool
  | .tup [x, y] => wordB x && marksB m g y
  | _ => false
def pieceB (m g : Int) : W → Bool
  | .tup [.str k, t] => if k = "any" ∨ k = "name" then wordB t else if k = "word" then markedB m g t else decide (k = "amount") && amountB t
  | _ => false
def holeP : W → Option (Str × Str)
  | .tup [.str k, .str h] => if k = "any" ∨ k = "name" then some (h, k) else none
  | _ => none
def holesOf (ps : List W) : List (Str × Str) := ps.filterMap holeP
def keysH (H : List (Str × Str)) : List Str := H.map (·.1)
def nodupB (xs : List Str) : Bool := decide ((dis xs).length = xs.length)
def patB (m g : Int) (H : List (Str × Str)) : W → Bool
  | .tup ps => decide (ps.length ≤ 6) && (ps.all (pieceB m g) && (nodupB (keysH (holesOf ps)) && (keysH (holesOf ps)).all fun h => !decide (h ∈ keysH H)))
  | _ => false
def rowT : W → Bool
  | .tup [_, _] => true
  | _ => false
def rowPat : W → W
  | .tup (p :: _) => p
  | _ => .non
def rowsB (m g : Int) (H : List (Str × Str)) : W → Bool
  | .tup rs => decide (1 ≤ rs.length) && (decide (rs.length ≤ 4) && (rs.all rowT && rs.all fun r => patB m g H (rowPat r)))
  | _ => false
def fillB (H : List (Str × Str)) : W → Bool
  | .tup [.str k, .str h] => decide (k = "fill") && decide (h ∈ keysH H)
  | _ => false
def fillK (H : List (Str × Str)) : W → Bool
  | .tup [_, .str h] => decide (H.lookup h = some "name")
  | _ => false
def binderB (m g : Int) (H : List (Str × Str)) (w : W) : Bool := if fillB H w = true then fillK H w else markedB m g w
def isSign : W → Bool
  | .str s => inV (.str s) [.str "+", .str "-", .str "*"]
  | _ => false
def itemsN (k : Str) : Option Nat := if k = "amount" then some 2 else if k = "use" then some 2 else if k = "given" then some 3 else if k = "apply" then some 3 else if k = "hold" then some 4 else if k = "reckon" then some 4 else if k = "test" then some 4 else if k = "maker" then some 4 else if k = "make" then some 3 else if k = "fill" then some 2 else none
def shortT : W → Bool
  | .tup ps => decide (ps.length ≤ 6)
  | _ => false
def nodeK (m g : Int) (H : List (Str × Str)) (k : Str) (a b : W) (w : W) : Bool :=
  if k = "use" then markedB m g a
  else if k = "make" then markedB m g a && shortT b
  else if k = "given" ∨ k = "hold" then binderB m g H a
  else if k = "maker" then binderB m g H a && rowsB m g H b
  else if k = "amount" then amountB a
  else if k = "fill" then fillB H w
  else decide (k ≠ "reckon") || isSign a
def nodeB (m g : Int) (H : List (Str × Str)) : W → Bool
  | .tup (.str k :: r) => decide (itemsN k = some (r.length + 1)) && nodeK m g H k (r.getD 0 .non) (r.getD 1 .non) (.tup (.str k :: r))
  | _ => false
/-! ### parts -/
def rowForm : W → W
  | .tup [_, f] => f
  | _ => .non
def rowsL : W → List W
  | .tup rs => rs
  | _ => []
def firstN (k : Str) : Option Nat := if k = "apply" ∨ k = "test" then some 0 else if k = "reckon" ∨ k = "given" ∨ k = "hold" then some 1 else none
def kids : W → List W
  | .tup (.str k :: r) => match firstN k with
    | some n => r.drop n
    | none => if k = "make" then rowsL (r.getD 1 .non) else if k = "maker" then (rowsL (r.getD 1 .non)).map rowForm ++ [r.getD 2 .non] else []
  | _ => []
def patL : W → List W
  | .tup (.tup ps :: _) => ps
  | _ => []
def kidsH (H : List (Str × Str)) : W → List (W × List (Str × Str))
  | .tup (.str k :: r) => if k = "maker" then (rowsL (r.getD 1 .non)).map (fun x => (rowForm x, H ++ holesOf (patL x))) ++ [(r.getD 2 .non, H)] else (kids (.tup (.str k :: r))).map fun x => (x, H)
  | _ => []
def pcs : W → Nat
  | .tup (.str k :: r) => if k = "maker" then ((rowsL (r.getD 1 .non)).map fun x => (patL x).length).sum else 0
  | _ => 0
def shp' (m g : Int) : Nat → List (Str × Str) → W → Bool
  | 0, _, _ => false
  | n + 1, H, w => nodeB m g H w && (kidsH H w).all fun p => shp' m g n p.2 p.1
def szN : Nat → W → Nat
  | 0, _ => 0
  | n + 1, w => 1 + pcs w + ((kids w).map (szN n)).sum
def treeB (m g : Int) (w : W) : Bool := shp' m g 60 [] w && decide (szN 60 w ≤ 1000)
end G

set_option Elab.async false
set_option linter.all false
set_option maxRecDepth 100000
set_option maxHeartbeats 4000000
namespace G
open PySem L2 PySem.Spec PyProof.Rows
theorem s_roll {k : Nat} {E : Hh} {c : Nat} {m : Int} (h : CupAt E c) (h1 : 0 < m) (h2 : m < 1073741824) : ∃ (r : Int) (F : Hh), C61 (k + 1) "_law_roll" [.ref c, .int m] E = some (.ok (.int r) F) ∧ 0 ≤ r ∧ r < m ∧ Nx c E F := by
  obtain ⟨g, s, e, hg, hs, hs2⟩ := h
  have hl : c < E.length := (List.getElem?_eq_some_iff.mp e).1
  have m0 : ¬ m = 0 := by omega
  have mA : m.natAbs < 1073741824 := by omega
  have at0 : ∀ a b : W, L2.atI [a, b] 0 = some a := fun a b => rfl
  have at1 : ∀ a b : W, L2.atI [a, b] 1 = some b := fun a b => rfl
  have nx : ∀ g' s' : Int, 0 ≤ g' → 0 ≤ s' → s' < 4294967296 → Nx c E (E.set c (.lst [.int g', .int s']) : List O) := fun g' s' a1 a2 a3 => ⟨fun i o hi ei => by
    rw [List.getElem?_set_ne (Ne.symm hi)]
    exact ei, g', s', List.getElem?_set_self hl, a1, a2, a3⟩
  rw [c61__law_roll]
  unfold b61__law_roll
  by_cases hp : 0 < g
  · have st := (set_lst (w := .int (g.fdiv m)) e).1
    refine ⟨g.fmod m, _, ?_, Int.fmod_nonneg_of_pos _ h1, Int.fmod_lt_of_pos _ h1, nx (g.fdiv m) s (Int.fdiv_nonneg hg (by omega)) hs hs2⟩
    simp (implicitDefEqProofs := false) [ix_ref e, at0, at1, hp, m0, mA, st]
  · have st := (set_lst (w := .int ((s * 30671 + 7919).fmod 2147483549)) e).2
    have c0 := Int.fmod_nonneg_of_pos (s * 30671 + 7919) (b := 2147483549) (by decide)
    have c1 := Int.fmod_lt_of_pos (s * 30671 + 7919) (b := 2147483549) (by decide)
    generalize hc : (s * 30671 + 7919).fmod 2147483549 = s' at st c0 c1
    have e' : ((E.set c (.lst [.int g, .int s']) : Hh) : List O)[c]? = some (.lst [.int g, .int s']) := List.getElem?_set_self hl
    have t : (-two64 < s' ∧ s' < two64) := by unfold two64; omega
    have t2 : (-two64 < (30671 : Int) ∧ (30671 : Int) < two64) := by unfold two64; omega
    refine ⟨(((s' * (s' + 131)).fmod 2147483587).fdiv 709).fmod m, _, ?_, Int.fmod_nonneg_of_pos _ h1, Int.fmod_lt_of_pos _ h1, nx g s' hg c0 (by omega)⟩
    simp (implicitDefEqProofs := false) [ix_ref e, ix_ref e', at0, at1, hp, m0, mA, hc, st, t, t2]
theorem s_some {k : Nat} {E : Hh} {c l : Nat} {ws : List W} (h : CupAt E c) (hl : (E : List O)[l]? = some (.lst ws)) (hlc : l ≠ c) (h1 : ws ≠ []) (h2 : ws.length < 1000000000) : ∃ (w : W) (F : Hh), C61 (k + 2) "_law_some" [.ref c, .ref l] E = some (.ok w F) ∧ w ∈ ws ∧ Nx c E F := by
  have hp : 0 < ws.length := List.length_pos_iff.mpr h1
  obtain ⟨r, F, e, r0, r1, n⟩ := s_roll (k := k) (m := ws.length) h (by omega) (by omega)
  have lt : r.toNat < ws.length := by omega
  have a := atI_nat (ws := ws) r.toNat
  rw [show ((r.toNat : Nat) : Int) = r by omega, List.getElem?_eq_getElem lt] at a
  refine ⟨ws[r.toNat], F, ?_, List.getElem_mem lt, n⟩
  rw [c61__law_some]
  unfold b61__law_some
  simp [len_ref hl, e, ix_ref (n.1 l _ hlc hl), a]
theorem s_someT {k : Nat} {E : Hh} {c : Nat} {ws : List W} (h : CupAt E c) (h1 : ws ≠ []) (h2 : ws.length < 1000000000) : ∃ (w : W) (F : Hh), C61 (k + 2) "_law_some" [.ref c, .tup ws] E = some (.ok w F) ∧ w ∈ ws ∧ Nx c E F := by
  have hp : 0 < ws.length := List.length_pos_iff.mpr h1
  obtain ⟨r, F, e, r0, r1, n⟩ := s_roll (k := k) (m := ws.length) h (by omega) (by omega)
  have lt : r.toNat < ws.length := by omega
  have a := atI_nat (ws := ws) r.toNat
  rw [show ((r.toNat : Nat) : Int) = r by omega, List.getElem?_eq_getElem lt] at a
  refine ⟨ws[r.toNat], F, ?_, List.getElem_mem lt, n⟩
  rw [c61__law_some]
  unfold b61__law_some
  simp [e, a]
def _law_cup_1 (low : Cal) : ActS := asgS (wBiXA .abs (argsR [(wIxNA (wBinA .Add (wBiXA .list (argsR [(slot 0)])) (wLst (consR (cst (.int 0)) (argsR [])))) (cst (.int 0)))])) (setG 1)
def _law_cup_2 (low : Cal) : ActS := asgS (wIf (toT (wCmpNA .GtE (slot 1) (wBinA .Pow (cst (.int 10)) (cst (.int 18))))) (wBinA .FloorDiv (slot 1) (cst (.int 11))) (cst (.int 0))) (setG 2)
def _law_cup_3 (low : Cal) : ActS := retS (wLst (consR (slot 2) (consR (wBinA .Add (wBinA .Mod (wBiXA .int (argsR [(wBinA .Add (wBinA .Mult (slot 1) (cst (.int 193))) (cst (.int 1201)))])) (cst (.int 2077504273))) (cst (.int 89))) (argsR []))))
theorem _law_cup_blk (low : Cal) : b61__law_cup low = blkR [_law_cup_1 low, _law_cup_2 low, _law_cup_3 low] := rfl
theorem s_cup {K : Nat} {E : Hh} {ns : List Int} (h : seqOf E (.ref 0) = some (ns.map W.int)) (hn : ns.length ≤ 63) : ∃ (c : Nat) (F : Hh), C61 (K + 1) "_law_cup" [.ref 0] E = some (.ok (.ref c) F) ∧ E <+: F ∧ CupAt F c := by
  let E1 : Hh := E ++ [.lst (ns.map W.int)]
  let E2 : Hh := E1 ++ [.lst [.int 0]]
  let E3 : Hh := E2 ++ [.lst (ns.map W.int ++ [.int 0])]
  have f1 : (1 : Nat) ≤ few := by decide
  have f2 : (2 : Nat) ≤ few := by decide
  have li : wBiX .list [.ref 0] E = some (.ref E.length, E1) := by
    show (match seqOf E (.ref 0) with
      | some ws => some (W.ref E.length, (E ++ [O.lst ws] : List O))
      | none => none) = _
    rw [h]
  have g1 : (E2 : List O)[E.length]? = some (.lst (ns.map W.int)) := pre_at (A := E1) (List.prefix_append _ _) (by show (E ++ [_])[E.length]? = _; simp)
  have g2 : (E2 : List O)[E1.length]? = some (.lst [.int 0]) := by show (E1 ++ [_])[E1.length]? = _; simp
  have ct : wBin .Add (.ref E.length) (.ref E1.length) E2 = some (.ref E2.length, E3) := cat_new g1 g2 (by simp; omega)
  have g3 : (E3 : List O)[E2.length]? = some (.lst (ns.map W.int ++ [.int 0])) := by show (E2 ++ [_])[E2.length]? = _; simp
  obtain ⟨x, hx⟩ : ∃ x : Int, L2.atI (ns.map W.int ++ [.int 0]) 0 = some (.int x) := by
    cases ns with
    | nil => exact ⟨0, rfl⟩
    | cons a r => exact ⟨a, by rw [List.map_cons, List.cons_append, atI_0]⟩
  obtain ⟨a, ha, ha0⟩ : ∃ a : Int, (if x < 0 then -x else x) = a ∧ 0 ≤ a := ⟨_, rfl, by split <;> omega⟩
  have ab : wBiX .abs [.int x] E3 = some (.int a, E3) := by rw [abs_nn, ha]
  have b1 : _law_cup_1 (C61 K) [some (.ref 0), none, none] E = some (.ok (.nx [some (.ref 0), some (.int a), none]) E3) := by
    unfold _law_cup_1
    rw [asg_ap, bi_ap, argsS, ix_ap, bin_ap, bi_ap, argsS, slot0]
    simp only [andThen_ok, args0, li, lift_some]
    rw [lst_ap, cons_ap, cst_ap]
    simp only [andThen_ok, args0, List.length_cons, List.length_nil, Nat.zero_add]
    rw [if_pos f1]
    simp only [andThen_ok]
    show andThen (andThen (andThen (andThen (lift (wBin .Add (.ref E.length) (.ref E1.length) E2)) _) _) _) _ = _
    rw [ct]
    simp only [lift_some, andThen_ok, cst_ap, ix_ref g3, hx, Option.map_some, ab, setG_ap]
    rfl
  obtain ⟨g, b2, hg⟩ : ∃ g : Int, _law_cup_2 (C61 K) [some (.ref 0), some (.int a), none] E3 = some (.ok (.nx [some (.ref 0), some (.int a), some (.int g)]) E3) ∧ 0 ≤ g := by
    by_cases h18 : 1000000000000000000 ≤ a
    · refine ⟨a.fdiv 11, ?_, Int.fdiv_nonneg ha0 (by decide)⟩
      unfold _law_cup_2
      simp [pow18, h18]
    · refine ⟨0, ?_, by decide⟩
      unfold _law_cup_2
      simp [pow18, h18]
  have t2 : (-two64 < (193 : Int) ∧ (193 : Int) < two64) := by unfold two64; omega
  have c0 := Int.fmod_nonneg_of_pos (a * 193 + 1201) (b := 2077504273) (by decide)
  have c1 := Int.fmod_lt_of_pos (a * 193 + 1201) (b := 2077504273) (by decide)
  generalize hm : (a * 193 + 1201).fmod 2077504273 = m at c0 c1
  refine ⟨E3.length, E3 ++ [.lst [.int g, .int (m + 89)]], ?_, ((List.prefix_append E _).trans (List.prefix_append _ _)).trans ((List.prefix_append _ _).trans (List.prefix_append _ _)), g, m + 89, by simp, hg, by omega, by omega⟩
  rw [c61__law_cup, _law_cup_blk, blk_nx b1, blk_nx b2]
  have b3 : _law_cup_3 (C61 K) [some (.ref 0), some (.int a), some (.int g)] E3 = some (.ok (.rt (.ref E3.length)) (E3 ++ [.lst [.int g, .int (m + 89)]] : List O)) := by
    unfold _law_cup_3
    simp (implicitDefEqProofs := false) [t2, hm, f2]
  rw [blk_rt b3]
  rfl
theorem some_new {K c : Nat} {ca : Act (List W)} {σ : Sg} {E0 E : Hh} {ws : List W} (hs : slot 0 σ E0 = some (.ok (.ref c) E0)) (hc : CupAt E0 c) (he : ca σ E0 = some (.ok ws E)) (p : E0 <+: E) (hne : ws ≠ []) (hl : ws.length ≤ 100) (hd : ∀ w ∈ ws, Dt E w) :
    ∃ (w : W) (F : Hh), callR (C61 (K + 2)) "_law_some" (argsR [slot 0, wLst ca]) σ E0 = some (.ok w F) ∧ w ∈ ws ∧ Dt F w ∧ Nx c E0 F := by
  have n1 : Nx c E0 (E ++ [.lst ws] : List O) := hc.pre (p.trans (List.prefix_append _ _))
  have tc := hc.lt
  have le : E0.length ≤ E.length := by obtain ⟨Z, hZ⟩ := p; rw [← hZ]; simp
  obtain ⟨w, F, e, m, n2⟩ := s_some (k := K) (l := E.length) (ws := ws) n1.2 (by simp) (by omega) hne (by omega)
  refine ⟨w, F, ?_, m, ((hd w m).pre (List.prefix_append _ _)).nx n2, n1.trans n2⟩
  rw [call_ap, argsS, hs, andThen_ok, argsS, lst_ap, he, andThen_ok, if_pos (few100 hl), andThen_ok, args0]
  simp only [andThen_ok]
  exact e
end G

set_option Elab.async false
set_option linter.all false
set_option maxRecDepth 100000
set_option maxHeartbeats 4000000
namespace G
open PySem L2 PySem.Spec PyProof.Rows
variable {M : Md} {base : Heap} {H H' H1 H2 : Hp} {ι ι' ι1 ι2 : List Addr} {X : Cx} {W' : WX}
/-! ### the law's first two statements, at any heap -/
def lam61 (low l : Cal) : Gm := T61.gmOf 60 low (some l) dLaw61
def ca8 : Act (List W) := argsR [cst .non, cst (.bl true), wUn .USub (cst (.int 1)), cst (.str ""), wLst (argsR []), wTup (argsR [cst (.int 1)]), wTup (argsR [wTup (argsR [cst (.int 1), cst (.int 1)])]), wBinA .Pow (cst (.int 10)) (cst (.int 40))]
theorem st0_eq (low l : Cal) : stepS (T61.pgOf low) (rcs (T61.pgOf low) 60) (lam61 low l) 30 (stL61 0) = asgS (callR low "_law_cup" (argsR [slot 0])) (setG 1) := by kernel_rfl
theorem st1_eq (low l : Cal) : stepS (T61.pgOf low) (rcs (T61.pgOf low) 60) (lam61 low l) 30 (stL61 1) = asgS (callR low "_law_some" (argsR [slot 1, wLst ca8])) (setG 2) := by kernel_rfl
def ws8 (n : Nat) : List W := [.non, .bl true, .int (-1), .str "", .ref n, .tup [.int 1], .tup [.tup [.int 1, .int 1]], .int 10000000000000000000000000000000000000000]
theorem ca8_eq (σ : Sg) (E : Hh) : ca8 σ E = some (.ok (ws8 E.length) (E ++ [.lst []])) := by kernel_rfl
theorem some61 {K c : Nat} {ca : Act (List W)} {σ : Sg} {E0 E : Hh} {ws : List W} (hs : slot 1 σ E0 = some (.ok (.ref c) E0)) (hc : CupAt E0 c) (he : ca σ E0 = some (.ok ws E)) (p : E0 <+: E) (hne : ws ≠ []) (hl : ws.length ≤ 100) :
    ∃ (w : W) (F : Hh), callR (C61 (K + 2)) "_law_some" (argsR [slot 1, wLst ca]) σ E0 = some (.ok w F) ∧ w ∈ ws ∧ Nx c (E ++ [.lst ws] : List O) F := by
  have n1 : Nx c E0 (E ++ [.lst ws] : List O) := hc.pre (p.trans (List.prefix_append _ _))
  have tc := hc.lt
  have le : E0.length ≤ E.length := by obtain ⟨Z, hZ⟩ := p; rw [← hZ]; simp
  obtain ⟨w, F, e, m, n2⟩ := s_some (k := K) (l := E.length) (ws := ws) n1.2 (by simp) (by omega) hne (by omega)
  refine ⟨w, F, ?_, m, n2⟩
  rw [call_ap, argsS, hs, andThen_ok, argsS, lst_ap, he, andThen_ok, if_pos (few100 hl), andThen_ok, args0]
  simp only [andThen_ok]
  exact e
mutual
theorem RelW.noref {κ : List Addr} : ∀ {w : W} {v : V}, clW 0 w = true → RelW M H ι w v → RelW M H κ w v
  | .non, _, _, h => h
  | .bl _, _, _, h => h
  | .int _, _, _, h => h
  | .str _, _, _, h => h
  | .fn _, _, _, h => h
  | .ty _, _, _, h => h
  | .ref i, v, c, _ => by
    have z : i < 0 := Nat.le_of_ble_eq_true c
    omega
  | .tup ws, v, c, ⟨a, vs, e, t, r⟩ => ⟨a, vs, e, t, RelWs.noref c r⟩
theorem RelWs.noref {κ : List Addr} : ∀ {ws : List W} {vs : List V}, clWs 0 ws = true → RelWs M H ι ws vs → RelWs M H κ ws vs
  | [], _, _, h => h
  | w :: ws, _, c, ⟨v, r, e, h1, h2⟩ => by
    obtain ⟨c1, c2⟩ := Bool.and_eq_true_iff.mp (show (clW 0 w && clWs 0 ws) = true from c)
    exact ⟨v, r, e, RelW.noref c1 h1, RelWs.noref c2 h2⟩
end
theorem weak61 {F : Hh} {L c : Nat} {w : W} (hL : (F : List O)[L]? = some (.lst [])) (hw : w ∈ ws8 L) : ∃ o, clW 1 o = true ∧ ∀ ι σ H, Rel M ι F H → RelS M H ι [some (.ref 0), some (.ref c), some w, none, none, none] σ → ∃ κ, Rel M κ [.lst []] H ∧ RelS M H κ (sL o none none none) σ := by
  have key : ∀ o, (∀ ι H a v, ι[L]? = some a → RelW M H ι w v → RelW M H [a] o v) → ∀ ι σ H, Rel M ι F H → RelS M H ι [some (.ref 0), some (.ref c), some w, none, none, none] σ → ∃ κ, Rel M κ [.lst []] H ∧ RelS M H κ (sL o none none none) σ := fun o ho ι σ H R rs => by
    obtain ⟨a, ea, ro⟩ := R.obj L _ hL
    obtain ⟨vs, h1, h2⟩ := ro
    obtain rfl : vs = [] := h2
    refine ⟨[a], ⟨rfl, fun i j b o u h1 h2 h3 h4 _ _ => ?_, fun i u e => ?_, R.tabs⟩, rs.1, fun i w' e => ?_⟩
    · have l := (List.getElem?_eq_some_iff.mp h3).1
      have l2 := (List.getElem?_eq_some_iff.mp h4).1
      simp at l l2
      omega
    · match i, e with
      | 0, e =>
        cases e
        exact ⟨a, rfl, [], h1, rfl⟩
      | i + 1, e => simp at e
    · match i, e with
      | 0, e => cases e
      | 1, e => cases e
      | 2, e =>
        obtain rfl : o = w' := by simpa [sL] using e
        obtain ⟨v, e1, r⟩ := rs.2 2 w rfl
        exact ⟨v, e1, ho ι H a v ea r⟩
      | 3, e => cases e
      | 4, e => cases e
      | 5, e => cases e
      | i + 6, e => simp [sL] at e
  have nr : clW 0 w = true → clW 1 w = true → ∃ o, clW 1 o = true ∧ ∀ ι σ H, Rel M ι F H → RelS M H ι [some (.ref 0), some (.ref c), some w, none, none, none] σ → ∃ κ, Rel M κ [.lst []] H ∧ RelS M H κ (sL o none none none) σ := fun c0 c1 => ⟨w, c1, key w fun ι H a v _ r => r.noref c0⟩
  unfold ws8 at hw
  simp only [List.mem_cons, List.not_mem_nil, or_false] at hw
  rcases hw with rfl | rfl | rfl | rfl | rfl | rfl | rfl | rfl
  · exact nr rfl rfl
  · exact nr rfl rfl
  · exact nr rfl rfl
  · exact nr rfl rfl
  · exact ⟨.ref 0, rfl, key (.ref 0) fun ι H a v ea ⟨a', e1, e2⟩ => by
      rw [ea] at e1
      cases e1
      exact ⟨a, rfl, e2⟩⟩
  · exact nr rfl rfl
  · exact nr rfl rfl
  · exact nr rfl rfl
/-! ### the others -/
theorem clSL {o : W} (ho : clW 1 o = true) {odd deed wide : Option W} (h : clS 1 [odd, deed, wide] = true) : clS 1 (sL o odd deed wide) = true := by
  show (clW 1 o && clS 1 [odd, deed, wide]) = true
  rw [ho, h]
  rfl
theorem body61 : (defBody dLaw61.st).drop 2 = [stL61 2, stL61 3, stL61 4, stL61 5, stL61 6, stL61 7, stL61 8, stL61 9, stL61 10, stL61 11, stL61 12, stL61 13, stL61 14] := by kernel_rfl
theorem chain61 {D : Ends} (iB : In M pL61 gL61 W' X) (iC : In M pL61 gH61 W' X) (hD : ∀ H, D.rt (.bl true) H) {o : W} (ho : clW 1 o = true) : Gd M X D ((defBody dLaw61.st).drop 2) (sL o none none none) [.lst []] := by
  rw [body61]
  exact gd_nxT iB (l61_2 o) (clSL ho rfl) rfl (gd_nxT iB (l61_3 o) (clSL ho rfl) rfl (gd_nxT iB (l61_4 o) (clSL ho rfl) rfl (gd_nxT iB (l61_5 o) (clSL ho rfl) rfl (gd_nxT iB (l61_6 o) (clSL ho rfl) rfl (gd_nxT iB (l61_7 o) (clSL ho rfl) rfl
    (gd_nxT iB (l61_8 o) (clSL ho rfl) rfl (gd_nxT iB (l61_9 o) (clSL ho rfl) rfl (gd_nxT iB (l61_10 o) (clSL ho rfl) rfl (gd_nxT iB (l61_11 o) (clSL ho rfl) rfl (gd_nxT iC (l61_12 o) (clSL ho rfl) rfl (gd_nxT iB (l61_13 o) (clSL ho rfl) rfl
    (gd_rt iB (l61_14 o) fun ι H v r => by
      obtain rfl : v = .bl true := r
      exact hD H))))))))))))
end G

set_option Elab.async false
set_option linter.all false
set_option maxRecDepth 100000
set_option maxHeartbeats 4000000
namespace G
open PySem L2 PySem.Spec PyProof.Rows
variable {M : Md} {base : Heap} {H H' H1 H2 : Hp} {ι ι' ι1 ι2 : List Addr} {W' : WX}
theorem saysD_left {fa : List He.Fa} {fn ex : List He.DefD} {K : PySem.W.Frag} (c : He.SaysD fa (fn ++ ex) K) : He.SaysD fa fn K := by
  unfold He.SaysD He.obsD He.valD at *
  obtain ⟨h1, h2⟩ := Prod.mk.inj c
  obtain ⟨a1, a2⟩ := He.ba h1
  rw [List.all_append] at a2
  obtain ⟨a3, _⟩ := He.ba a2
  rw [List.map_append, List.map_append] at h2
  have e := (List.append_inj h2 (by simp)).1
  rw [a1, a3, e]
  rfl
theorem saysX_left {fa : List He.Fa} {fn ex : List He.DefD} {ts : List He.Tab} {tf : List He.Defn} {okk : PySem.W.Frag → Bool} {w : World} {h : Heap} {K : PySem.W.Frag} (c : He.SaysX fa (fn ++ ex) ts tf okk w h K) : He.SaysX fa fn ts tf okk w h K := by
  refine ⟨?_, c.more, c.hd, c.out, c.empty⟩
  have d := saysD_left c.t.d
  have t : He.obsT fa (fn ++ ex) ts K = He.valT (fn ++ ex) ts w := c.t
  show He.obsT fa fn ts K = He.valT fn ts w
  unfold He.obsT He.valT at *
  obtain ⟨_, t2⟩ := Prod.mk.inj t
  rw [show He.obsD fa fn K = He.valD fn from d, t2]
theorem fnLaw61 : q61.tb.fn "law" = some dLaw61 := by kernel_rfl
theorem fnErr61 : q61.tb.fn "_law_error" = some dEr61 := by kernel_rfl
theorem fnLim61 : q61.tb.fn "_law_limit" = some dLim61 := by kernel_rfl
theorem fnNm61 : q61.tb.fn "_law_names_of" = some dNm61 := by kernel_rfl
theorem binds_gen {K : PySem.W.Frag} {x : Str} {st : Stmt} {ps : List Str} {f : Addr} {fd : FuncData} (F : FunD K x x (defArgs st) (defBody st) (defScope st) [] [] f fd) (h : argsB (defArgs st) ps = true) : L2.Binds K fd ps [] := F.bindsN fun kV doc pm an cdv ct us hl => by
  obtain ⟨as, ea, em, nd⟩ := argsB_ok h
  have := bind_gen (x := x) (qual := x) (body := defBody st) (scope := defScope st) (kV := kV) (doc := doc) (pm := pm) (an := an) (cdv := cdv) (ct := ct) (args := as) (us := us) (by rw [em]; exact hl) (by rw [em]; exact nd)
  rw [em, ← ea] at this
  exact this
section
variable {h : Heap} (c : He.SaysX q61.fa q61.fn q61.ts q61.tf okX61 M.w h M.K) (X : M.K.In h) (G : h.Ns mainGlobals M.mg)
include c X G
theorem glo61 {x : Str} {d : Fd} (e : q61.tb.fn x = some d) : M.mg x = some (.ref (He.ga M.K x)) := He.glo_ok X G (c.t.d.facts (f := .glo x) (List.mem_append_left _ (List.mem_map.mpr ⟨(x, d), lookup_memS e, rfl⟩)))
theorem funD61 {x : Str} {d : Fd} (e : q61.tb.fn x = some d) : ∃ fd, FunD M.K x x (defArgs d.st) (defBody d.st) (defScope d.st) [] [] (He.ga M.K x) fd := c.t.d.defs (d := Tq.dd (x, d)) (List.mem_map.mpr ⟨_, lookup_memS e, rfl⟩)
theorem exc61 {x : Str} (m : x ∈ clssX61) : M.mg x = some (.ref (He.ga M.K x)) := He.glo_ok X G (c.t.d.facts (f := .glo x) (List.mem_append_right _ (List.mem_append_right _ (List.mem_append_left _ (List.mem_map.mpr ⟨x, m, rfl⟩)))))
theorem free61 {x : Str} (m : x ∈ nonL61) : M.mg x = none := He.free_ok X G (c.t.d.facts (f := .free x) (List.mem_append_right _ (List.mem_append_left _ (List.mem_map.mpr ⟨x, m, rfl⟩))))
theorem many61 : M.mg "TooMany" = some (.ref (He.ga M.K "TooMany")) := by
  have e := (He.ba (He.ba c.more).2).2
  obtain ⟨h1, _⟩ := He.ba e
  exact PySem.W.mg_of X G (He.eqO_ok h1)
theorem excs61 : ExcsOk M.K M.mg nmC "ApartError" := by
  refine excsB_ok (He.ba (He.ba c.more).2).1 (exc61 c X G (by
    have e : clssX61.contains ("ApartError" : Str) = true := by kernel_rfl
    exact List.contains_iff_mem.mp e)) fun x m => ?_
  by_cases hx : x = "TooMany"
  · rw [hx]
    exact many61 c X G
  · refine exc61 c X G ?_
    have e : nmC.all (fun x => decide (x = "TooMany") || clssX61.contains x) = true := by kernel_rfl
    have z := List.all_eq_true.mp e x m
    rw [decide_eq_false hx, Bool.false_or] at z
    exact List.contains_iff_mem.mp z
theorem nm61 : NmOk M.K M.mg := by
  obtain ⟨fd, F⟩ := funD61 c X G fnNm61
  have b := binds_gen F (ps := ["_law_e"]) (by kernel_rfl)
  obtain ⟨oc, od, dV, kV, doc, pm, an, cdv, ct, osl, rfl, lk, hcd, _, _⟩ := F.ex
  exact ⟨_, dV, kV, doc, pm, cdv, ct, oc, an, od, osl, _, glo61 c X G fnNm61, F.kp, lk, hcd, b⟩
theorem catch61 (k : Nat) : Catch M base k q61.er q61.onx := by
  obtain ⟨fd, F⟩ := funD61 c X G fnErr61
  have b := binds_gen F (ps := ["_law_call"]) (by kernel_rfl)
  obtain ⟨oc, od, dV, kV, doc, pm, an, cdv, ct, osl, rfl, lk, hcd, _, _⟩ := F.ex
  have nl : ∀ x : Str, nonL61.contains x = true → x ∈ nonL61 := fun x e => List.contains_iff_mem.mp e
  refine ⟨_, _, _, _, dV, kV, doc, pm, an, cdv, ct, oc, od, osl, erN, "_law_call", glo61 c X G fnErr61, F.kp, lk, hcd, b, scEr, rfl, .inl (by decide +kernel), by decide, by decide, by decide, fun Y q h1 h2 h3 h4 h5 hr => ?_⟩
  exact er_gives h4 hr (by rw [h3, h4]; exact nm61 c X G) (by rw [h3, h4]; exact excs61 c X G) (by rw [h4]; exact free61 c X G (nl _ (by kernel_rfl))) (by rw [h4]; exact free61 c X G (nl _ (by kernel_rfl))) (by rw [h4]; exact free61 c X G (nl _ (by kernel_rfl)))
theorem catchL61 {C : Addr} (L : LowM M base "TooMany" C) : CatchT M base 122 "_law_limit" (TTL C) := by
  obtain ⟨fd, F⟩ := funD61 c X G fnLim61
  have b := binds_gen F (ps := ["_law_call"]) (by kernel_rfl)
  obtain ⟨oc, od, dV, kV, doc, pm, an, cdv, ct, osl, rfl, lk, hcd, _, _⟩ := F.ex
  refine ⟨_, _, _, _, dV, kV, doc, pm, an, cdv, ct, oc, od, osl, limN, "_law_call", glo61 c X G fnLim61, F.kp, lk, hcd, b, scLim, rfl, .inl (by decide +kernel), by decide, by decide, by decide, fun Y q h1 h2 h3 h4 h5 hr => ?_⟩
  exact lim_gives h4 h3 hr L
end
def spLaw61 (M : Md) : Sp := fun vs H Q _ => ∃ (a : Addr) (ns : List Int), vs = [.ref a] ∧ SqL M.K H a (ns.map V.int) ∧ ns.length ≤ 63 ∧ LamX.Tabs M.T H ∧ ∀ H', Q (.bl true) H'
/-- the module as the head leaves it -/
def M61 (w : World) (K : PySem.W.Frag) (mg : Str → Option Value) : Md := ⟨PySem.Challenge.pw_namesapart_k61_errors_of_early_and_late, w, K, mg, q61.tabs K, none, fun _ => (0, 0)⟩
theorem relInts : ∀ ns : List Int, RelWs M H ι (ns.map W.int) (ns.map V.int)
  | [] => rfl
  | n :: ns => ⟨.int n, ns.map V.int, rfl, rfl, relInts ns⟩
/-- the script, as the law gets it -/
theorem rel_script {a : Addr} {ns : List Int} (hS : SqL M.K H a (ns.map V.int)) (hT : LamX.Tabs M.T H) : ∃ E : Hh, Rel M [a] E H ∧ seqOf E (.ref 0) = some (ns.map W.int) := by
  have mk : ∀ o : O, RelO M H [a] a o → Rel M [a] [o] H := fun o r => ⟨rfl, fun i j b o u h1 h2 h3 h4 _ _ => by
    have l := (List.getElem?_eq_some_iff.mp h3).1
    have l2 := (List.getElem?_eq_some_iff.mp h4).1
    simp at l l2
    omega, fun i u e => by
    match i, e with
    | 0, e =>
      cases e
      exact ⟨a, rfl, r⟩, hT⟩
  rcases hS with hr | hk
  · rcases hr with hr | ⟨od, hr⟩
    · exact ⟨[.lst (ns.map W.int)], mk _ ⟨_, hr, relInts ns⟩, rfl⟩
    · exact ⟨[.slst (ns.map W.int)], mk _ ⟨_, .inl ⟨od, hr⟩, relInts ns⟩, rfl⟩
  · exact ⟨[.slst (ns.map W.int)], mk _ ⟨_, .inr hk, relInts ns⟩, rfl⟩
theorem bodyA61 : defBody dLaw61.st = stL61 0 :: stL61 1 :: (defBody dLaw61.st).drop 2 := by kernel_rfl
theorem lawN61 : dLaw61.N.length = 6 ∧ dLaw61.ps = (["_law_script"] : List Str) := ⟨by kernel_rfl, by kernel_rfl⟩
theorem law_ok61 {C : Addr} {f : Addr} {fd : FuncData} (ok : TbOk M base T61) (L : LowM M base "TooMany" C) (ct : CatchT M base 122 "_law_limit" (TTL C)) (D : DefOk M base "law" dLaw61 f fd) : FnOk M.P M.w M.K M.mg base (L2N.CX M.P M.w) 125 f fd dLaw61.ps (spLaw61 M) := by
  obtain ⟨qual, oc, od, kV, doc, pm, an, cdv, ctv, osl, rfl, lk, hcd, tb⟩ := D.F
  refine fn_of lk hcd D.S (fun vs H Q E ⟨a, ns, e, _⟩ => by rw [e, lawN61.2]; rfl) fun A outer s H vs Q E hr ⟨a, ns, e, hS, hlen, hT, hQ⟩ => ?_
  subst e
  obtain ⟨E0, R, sq⟩ := rel_script hS hT
  let X : Cx := cxOf (L2N.CX M.P M.w) M.P M.w M.K M.mg base dLaw61.N qual (defScope dLaw61.st) f cdv A outer s H E
  have fnL : T61.fn "law" = some dLaw61 := fnLaw61
  have lamT : dLaw61.lam = true := by kernel_rfl
  have iA : In M (T61.pgOf (C61 124)) (lam61 (C61 124) (C61 122)) (fun cls d _ H => E cls d H) X := in_def ok ⟨_, fnL⟩ D.S tb (fn_ok ok 124) rfl (fn_ok ok 122) hr
  have iB : In M pL61 gL61 (fun cls d _ H => E cls d H) X := in_def ok ⟨_, fnL⟩ D.S tb (fn_okO ok (ov61_ok ok) 124) rfl (fn_okO ok (ov61_ok ok) 122) hr
  have iC : In M pL61 gH61 (fun cls d _ H => E cls d H) X := in_hk iB ok L ct (tb lamT) hr rfl
  obtain ⟨c, F1, ec, p1, hc⟩ := s_cup (K := 123) sq hlen
  obtain ⟨w, F2, ew, hw, n2⟩ := some61 (K := 122) (c := c) (ca := ca8) (σ := [some (.ref 0), some (.ref c), none, none, none, none]) (E0 := F1) (E := F1 ++ [.lst []]) (ws := ws8 F1.length) rfl hc (ca8_eq _ _) (List.prefix_append _ _) (by simp [ws8]) (by simp [ws8])
  have hL : (F2 : List O)[F1.length]? = some (.lst []) := n2.1 F1.length _ (by have := hc.lt; omega) (by simp)
  obtain ⟨o, ho, hk⟩ := weak61 (c := c) hL hw
  have h0 : stepS (T61.pgOf (C61 124)) (rcs (T61.pgOf (C61 124)) 60) (lam61 (C61 124) (C61 122)) 30 (stL61 0) [some (.ref 0), none, none, none, none, none] E0 = some (.ok (.nx [some (.ref 0), some (.ref c), none, none, none, none]) F1) := by
    rw [st0_eq, asg_ap, call_ap]
    show andThen (C61 124 "_law_cup" [.ref 0] E0) _ = _
    rw [ec]
    rfl
  have h1 : stepS (T61.pgOf (C61 124)) (rcs (T61.pgOf (C61 124)) 60) (lam61 (C61 124) (C61 122)) 30 (stL61 1) [some (.ref 0), some (.ref c), none, none, none, none] F1 = some (.ok (.nx [some (.ref 0), some (.ref c), some w, none, none, none]) F2) := by
    rw [st1_eq, asg_ap, ew]
    rfl
  have run : Gd M X { nx := fun _ H' => Q .non H', rt := Q } (defBody dLaw61.st) [some (.ref 0), none, none, none, none, none] E0 := by
    rw [bodyA61]
    exact gd_nx0 iA h0 (gd_nx0 iA h1 (gd_weak (chain61 iB iC (fun H => hQ H) ho) hk))
  obtain ⟨t, ht, hq⟩ := run
  refine ⟨t, ht, hq [a] _ H R ?_⟩
  have rs := startE_ok (M := M) (H := H) (ι := [a]) (N := dLaw61.N) (ws := [.ref 0]) (vs := [.ref a]) ⟨.ref a, [], rfl, ⟨a, rfl, rfl⟩, rfl⟩
  have e : startE dLaw61.N [.ref 0] = [some (.ref 0), none, none, none, none, none] := by
    unfold startE
    rw [lawN61.1]
    rfl
  rw [e] at rs
  exact rs
end G

set_option Elab.async false
set_option linter.all false
set_option maxRecDepth 100000
set_option maxHeartbeats 4000000
namespace G
open PySem L2 PySem.Spec PyProof.Rows
theorem law61 : ∀ (w : World) (mg : Str → Option Value) (fa : Addr) (h : Heap), hook61.says w h → h.Ns mainGlobals mg → mg ("law" : Str) = some (.ref fa) →
    ∃ K : PySem.W.Frag, K.In h ∧ LamX.LawAtS PySem.Challenge.rw_namesapart_k61_errors_of_early_and_late w K (L2N.CX PySem.Challenge.pw_namesapart_k61_errors_of_early_and_late w) 125 63 "_law_script" mg fa h := by
  intro w mg fa h ⟨K, X, cL⟩ G hmg
  have cX : He.SaysX q61.fa fnX61 q61.ts q61.tf okX61 w h K := by
    rw [← faEq61, ← fnEq61, ← tsEq61, ← tfEq61, ← okEq61]
    exact cL
  let M : Md := M61 w K mg
  have dI : ∃ fd, FunD K "__init__" "TooMany.__init__" (defArgs iniSt61) (defBody iniSt61) (defScope iniSt61) [] [] (He.fAd K ("TooMany", some "__init__")) fd := cX.t.d.defs (d := dIni61) (List.mem_append_right _ List.mem_cons_self)
  have c := saysX_left cX
  have c' : He.SaysX q61.fa q61.fn q61.ts q61.tf q61.ok w h K := ⟨c.t, (He.ba c.more).1, c.hd, c.out, c.empty⟩
  have g : mg "law" = some (.ref (He.ga K "law")) := glo61 (M := M) c X G fnLaw61
  obtain ⟨fd, F⟩ := funD61 (M := M) c X G fnLaw61
  cases hmg.symm.trans g
  have bA := F.bindsA (ps := ["_law_script"]) fun kV doc pm an cdv ct us hl => by
    obtain ⟨as, ea, em, nd⟩ := argsB_ok (a := defArgs dLaw61.st) (ps := ["_law_script"]) (by kernel_rfl)
    have := bind_gen (x := "law") (qual := "law") (body := defBody dLaw61.st) (scope := defScope dLaw61.st) (kV := kV) (doc := doc) (pm := pm) (an := an) (cdv := cdv) (ct := ct) (args := as) (us := us) (by rw [em]; exact hl) (by rw [em]; exact nd)
    rw [em, ← ea] at this
    exact this
  refine ⟨K, X, fd, q61.tf.map (He.cT K), spLaw61 M, fun p hp => ?_, fun p hp => ?_, fun p hp => ?_, fun s u => bA s [u] rfl, fun H a ns hlen _ hH hS => ?_, fun base hb hg tb => ?_⟩
  · obtain ⟨q, hq, rfl⟩ := List.mem_map.mp hp
    exact c.empty q hq
  · obtain ⟨q, hq, rfl⟩ := List.mem_map.mp hp
    exact c.out q hq
  · obtain ⟨q, hq, rfl⟩ := List.mem_map.mp hp
    exact PySem.W.codeHd_of_K X (c.hd q hq)
  · refine ⟨a, ns, rfl, hS, hlen, fun p hp => ?_, fun _ => rfl⟩
    obtain ⟨x, hx, rfl⟩ := List.mem_map.mp hp
    exact ⟨#[], hH (He.cT K (x, none)) (List.mem_map.mpr ⟨(x, none), List.mem_map.mpr ⟨x, hx, rfl⟩, rfl⟩), trivial, fun _ _ h => (nomatch h)⟩
  · have ok : TbOk M base q61.tb := Tq.tbOk (M := M) (h := h) rfl c' X G plain61 tb fun _ k => catch61 (M := M) c X G k
    obtain ⟨⟨f, fd', D⟩, _⟩ := Tq.defOk (M := M) (h := h) (base := base) rfl c' X G plain61 tb (x := "law") (d := dLaw61) fnLaw61
    have ef : f = He.ga K "law" := by
      have e1 : mg "law" = some (.ref f) := D.m
      rw [g] at e1
      cases e1
      rfl
    subst ef
    have efd : fd' = fd := by
      obtain ⟨qual, oc, od, kV, doc, pm, an, cdv, ct, osl, e1, lk, _⟩ := D.F
      obtain ⟨oc2, od2, dV2, kV2, doc2, pm2, an2, cdv2, ct2, osl2, e2, lk2, _⟩ := F.ex
      have l1 : M.K.lookup (He.ga K "law") = _ := lk
      have l2 : M.K.lookup (He.ga K "law") = _ := lk2
      have z := l1.symm.trans l2
      cases z
      rfl
    subst efd
    obtain ⟨fI, FI⟩ := dI
    have L : LowM M base "TooMany" (He.ga K "TooMany") := low_ok (M := M) (He.ba (He.ba c.more).2).2 X G FI
    exact law_ok61 ok L (catchL61 (M := M) c X G L) D
theorem cx_no {P : Program} {w : World} {H : Hp} {s : Shared} {e : Value} {s' : Shared} (h : L2N.CX P w [] H s (fun _ _ _ => False) e s') : False := by
  obtain ⟨_, _, _, _, _, _, _, _, _, _, _, _, z⟩ := h
  exact z
end G

set_option Elab.async false
set_option linter.all false
set_option maxRecDepth 100000
set_option maxHeartbeats 0
open PySem PySem.W PySem.Calls PyProof.Rows
theorem PySem.Challenge.cw_namesapart_k61_errors_of_early_and_late_holds : PySem.Challenge.rw_namesapart_k61_errors_of_early_and_late.Holds := by
  w_on; o_law
  refine HandSHeadRun.head_any (r := OpenLaw.row PySem.Challenge.rw_namesapart_k61_errors_of_early_and_late) (q := view (OpenLaw.row PySem.Challenge.rw_namesapart_k61_errors_of_early_and_late).prog [178]) (H := G.hook61) (ob := G.ob61) (M := 20000) (loose := G.loose61) (d := HandSHeadRun.topDef (OpenLaw.row PySem.Challenge.rw_namesapart_k61_errors_of_early_and_late).prog 178) (kwd := []) G.ob61_eq
    (by kernel_rfl) (fun s => by kernel_rfl) G.run61 (by kernel_rfl) (by kernel_rfl) (by kernel_rfl) (by rfl) (by first | assumption | decide +kernel) (by decide +kernel) ⟨rfl, rfl, rfl, rfl, rfl, by decide +kernel⟩ ?hw ?hc
  case hw => w_witness2
  case hc =>
    refine LamX.walk_ofTsE (l := PySem.Challenge.rw_namesapart_k61_errors_of_early_and_late) (n := 63) (k := 125) (x := "_law_script") (CX := L2N.CX PySem.Challenge.pw_namesapart_k61_errors_of_early_and_late) rfl (by decide) (by kernel_rfl) ⟨rfl, by decide, by decide⟩ ?F (fun w H s e s' h => G.cx_no h)
    intro w mg fa h Y G0 hmg0
    have hmg : mg ("law" : PySem.Str) = some (.ref fa) := by
      have e : (HandSHeadRun.topDef (OpenLaw.row PySem.Challenge.rw_namesapart_k61_errors_of_early_and_late).prog 178).name = ("law" : PySem.Str) := by kernel_rfl
      rw [← e]
      exact hmg0
    exact G.law61 w mg fa h Y G0 hmg

