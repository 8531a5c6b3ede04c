import PyProof.Rows.All
import Wide.All
import OpenK.AllK
import Wide.FinOn
import HandS.ForMost
import HandS.Exc
import HandS.TryOnly
import HandS.ExcOwn
import HandS.WordsExc
import HandS.ExcInit
import HandS.Defaults
import HandS.IsInst
import HandS.Wide
import HandS.Walk
import HandS.Zip
import HandS.Flow
import HandS.Head0
import HandS.Head1
import HandS.Head2
import HandS.HeadEnd
import HandS.HeadHook1
import HandS.HeadHook2
import HandS.Evl
import HandS.Conv
import KE.Datum
import PyProof.EqAt
import PyProof.EqKinds
import PyProof.TupleCall
import PyProof.InstNe
import HandS.Base
import HandS.Call
import HandS.List
import HandS.OwnEq
import PyProof.NeKinds
import KE.DataMinMax
import KE.GoesNew
import HandS.SortKw
import HandS.Style
import PySem.Challenge.RW_quietrows_k06_rows_by_hand
set_option Elab.async false
set_option linter.all false
set_option maxRecDepth 100000
set_option maxHeartbeats 4000000
namespace My
open PySem PySem.Spec PyProof.Rows L2
/-! ### the head: facts by names, one Bool more -/
def obsX (ex : PySem.W.Frag → Bool) (fa : List He.Fa) (fn : List He.DefD) (K : PySem.W.Frag) : Bool × He.AlD := (ex K, He.obsD fa fn K)
def valX (fn : List He.DefD) : Bool × He.AlD := (true, He.valD fn)
def obsXG (n : Nat) (ex : PySem.W.Frag → Bool) (fa : List He.Fa) (fn : List He.DefD) (g : Addr → Option Obj) : Bool × He.AlD := obsX ex fa fn (He.frG g (He.asD g n))
def SaysX (ex : PySem.W.Frag → Bool) (fa : List He.Fa) (fn : List He.DefD) (K : PySem.W.Frag) : Prop := obsX ex fa fn K = valX fn
theorem SaysX.d {ex : PySem.W.Frag → Bool} {fa : List He.Fa} {fn : List He.DefD} {K : PySem.W.Frag} (h : SaysX ex fa fn K) : He.SaysD fa fn K := congrArg (fun z : Bool × He.AlD => z.2) h
theorem SaysX.e {ex : PySem.W.Frag → Bool} {fa : List He.Fa} {fn : List He.DefD} {K : PySem.W.Frag} (h : SaysX ex fa fn K) : ex K = true := congrArg (fun z : Bool × He.AlD => z.1) h
def hookX (n : Nat) (ex : PySem.W.Frag → Bool) (fa : List He.Fa) (fn : List He.DefD) : PySem.W.Hook where
  α := Bool × He.AlD
  obs := fun s => obsXG n ex fa fn s.heap.get?
  val := fun _ => valX fn
  says := fun _ h => ∃ K : PySem.W.Frag, K.In h ∧ SaysX ex fa fn K
  of := fun _ _ e => ⟨_, He.frG_in, e⟩
  keeps := fun _ _ _ ⟨K, hK, c⟩ k => ⟨K, PySem.W.Frag.In.keeps hK k, c⟩
theorem obsXG_eq {n : Nat} {ex : PySem.W.Frag → Bool} {fa : List He.Fa} {fn : List He.DefD} {g : Addr → Option Obj} {s : Shared} (h : ∀ a, g a = s.heap.get? a) : obsXG n ex fa fn g = (hookX n ex fa fn).obs s := by
  have e : g = s.heap.get? := funext h
  rw [e] <;> rfl
end My
namespace My
open PySem PySem.Spec PyProof.Rows L2
/-! ### heaps -/
/-- all that stood stands, but for what stands at s -/
def But (s : Addr) (H H' : Hp) : Prop := ∀ b o, b ≠ s → H b = some o → H' b = some o
theorem But.get {s b : Addr} {o : HO} {H H' : Hp} (k : But s H H') (n : b ≠ s) (h : H b = some o) : H' b = some o := k b o n h
theorem But.refl {s : Addr} {H : Hp} : But s H H := fun _ _ _ h => h
theorem But.trans {s : Addr} {H H1 H2 : Hp} (a : But s H H1) (b : But s H1 H2) : But s H H2 := fun c o n h => b c o n (a c o n h)
theorem But.of {s : Addr} {H H' : Hp} (k : Same H H') : But s H H' := fun b o _ h => k b o h
theorem But.same {s : Addr} {H H1 H2 : Hp} (a : But s H H1) (b : Same H1 H2) : But s H H2 := fun c o n h => b c o (a c o n h)
theorem Same.get {b : Addr} {o : HO} {H H' : Hp} (k : Same H H') (h : H b = some o) : H' b = some o := k b o h
theorem same_new {H : Hp} {p : Addr} {o : HO} (h : H p = none) : Same H (upd H p o) := fun b u e => by rw [upd_ne (ne_of_none e h)]; exact e
theorem but_upd {H : Hp} {p : Addr} {o : HO} : But p H (upd H p o) := fun b u n e => by rw [upd_ne n]; exact e
/-- what is new may change -/
theorem Same.chg {H H' : Hp} {p : Addr} {o : HO} (k : Same H H') (h : H p = none) : Same H (upd H' p o) := fun b u e => by rw [upd_ne (ne_of_none e h)]; exact k b u e
theorem But.chg {s : Addr} {H H' : Hp} {p : Addr} {o : HO} (k : But s H H') (h : H p = none) : But s H (upd H' p o) := fun b u n e => by rw [upd_ne (ne_of_none e h)]; exact k b u n e
theorem But.self {s : Addr} {H H' : Hp} {o : HO} (k : But s H H') : But s H (upd H' s o) := fun b u n e => by rw [upd_ne n]; exact k b u n e
theorem But.free {s b : Addr} {H H' : Hp} {u : HO} (k : But s H H') (hs : H' s = some u) (h : H' b = none) : H b = none := by
  cases e : H b with
  | none => rfl
  | some o =>
    by_cases n : b = s
    · subst n
      rw [hs] at h
      cases h
    · rw [k b o n e] at h
      cases h
theorem ne_fresh {H : Hp} {a b : Addr} {o : HO} (h' : H b = none) (h : H a = some o) : a ≠ b := ne_of_none h h'
theorem upd_get {H : Hp} {a p : Addr} {o u : HO} (n : a ≠ p) (h : H a = some o) : upd H p u a = some o := by rw [upd_ne n]; exact h
theorem HO_ne_new {H : Hp} {a b : Addr} {o : HO} (h : H a = some o) (h' : H b = none) : a ≠ b := ne_of_none h h'
theorem hrM {k j : Nat} {A : Around} (hr : Room k A) (h : j ≤ k := by decide) : Room j A := hr.mono h
theorem hu64 {A : Around} {k : Nat} (hr : Room k A) : A.units + 64 < cLine := by
  have := hr.un
  omega
/-- two rules for one construct: either will do -/
theorem pe_either {X : Cx} {e : Expr} {t u : TE} (h1 : PE X e t) (h2 : PE X e u) : PE X e (fun σ H Q => t σ H Q ∨ u σ H Q) :=
  ⟨fun pins s σ H Q I h => h.elim (h1.run pins s σ H Q I) (h2.run pins s σ H Q I)⟩
/-- the state of the draws: three numbers in a list -/
def St3 (H : Hp) (s : Addr) : Prop := ∃ x y z : Int, H s = some (.lst [.int x, .int y, .int z]) ∧ 0 ≤ x ∧ (0 ≤ y ∧ y < 4294967296) ∧ (0 ≤ z ∧ z < 4294967296)
theorem St3.some {H : Hp} {s : Addr} (h : St3 H s) : ∃ o, H s = some (.lst o) := by
  obtain ⟨x, y, z, e, _⟩ := h
  exact ⟨_, e⟩
theorem st_ne {H : Hp} {b s : Addr} (h : H b = none) (st : St3 H s) : b ≠ s := by
  obtain ⟨x, y, z, e, _⟩ := st
  exact (ne_of_none e h).symm
theorem St3.upd {H : Hp} {l s : Addr} {o : HO} (n : s ≠ l) (st : St3 H s) : St3 (upd H l o) s := by
  obtain ⟨x, y, z, e, r⟩ := st
  exact ⟨x, y, z, by rw [upd_ne n]; exact e, r⟩
theorem St3.same {H H' : Hp} {s : Addr} (k : Same H H') (h : St3 H s) : St3 H' s := by
  obtain ⟨x, y, z, e, r⟩ := h
  exact ⟨x, y, z, k _ _ e, r⟩
/-- a digit is drawn -/
def spDigit : Sp := fun vs H Q _ => ∃ (s : Addr) (b : Int), vs = [.ref s, .int b] ∧ (0 < b ∧ b < 2 ^ 200) ∧ St3 H s ∧ ∀ H' d, But s H H' → St3 H' s → 0 ≤ d → d < b → Q (.int d) H'
/-- a state is made -/
def spState : Sp := fun vs H Q _ => ∃ n : Int, vs = [.int n] ∧ ∀ H' s, Same H H' → H s = none → St3 H' s → Q (.ref s) H'
theorem div_ok {a b : Int} (h : 0 < b ∧ b < 2 ^ 200) : CDivW a b := by
  refine ⟨h.1, ?_⟩
  have h1 : b.natAbs < 2 ^ 200 := by omega
  by_cases e : b.natAbs = 0
  · rw [e]; decide
  · have h2 := (Nat.log2_lt e).mpr h1
    omega
def Cal (P : Program) (w : World) (K : PySem.W.Frag) (mg : Str → Option Value) (base : Heap) (k : Nat) (f : Addr) (ps : List Str) (sp : Sp) : Prop := ∃ fd, FnOk P w K mg base CX0 k f fd ps sp ∧ Binds K fd ps [] ∧ PySem.W.keepIn K (.ref f) = true
/-! ### rows of data -/
/-- the values stand for the data, one by one -/
def Each {α : Type} (R : α → V → Prop) (ms : List α) (xs : List V) : Prop := xs.length = ms.length ∧ ∀ (i : Nat) m v, ms[i]? = some m → xs[i]? = some v → R m v
section
variable {α : Type} {R R' : α → V → Prop} {ms : List α} {xs : List V}
theorem Each.nil : Each R [] [] := ⟨rfl, fun i m v h => by simp at h⟩
theorem Each.snoc {m : α} {v : V} (h : Each R ms xs) (r : R m v) : Each R (ms ++ [m]) (xs ++ [v]) := by
  refine ⟨by simp [h.1], fun i m' v' h1 h2 => ?_⟩
  by_cases hi : i < ms.length
  · rw [List.getElem?_append_left hi] at h1
    rw [List.getElem?_append_left (by rw [h.1]; exact hi)] at h2
    exact h.2 i m' v' h1 h2
  · rw [List.getElem?_append_right (by omega)] at h1
    rw [List.getElem?_append_right (by rw [h.1]; omega), h.1] at h2
    by_cases e : i - ms.length = 0
    · rw [e] at h1 h2
      cases Option.some.inj h1
      cases Option.some.inj h2
      exact r
    · obtain ⟨j, hj⟩ : ∃ j, i - ms.length = j + 1 := ⟨i - ms.length - 1, by omega⟩
      rw [hj] at h1
      simp at h1
theorem Each.mono (h : Each R ms xs) (f : ∀ m v, m ∈ ms → R m v → R' m v) : Each R' ms xs := ⟨h.1, fun i m v h1 h2 => f m v (List.mem_of_getElem? h1) (h.2 i m v h1 h2)⟩
theorem Each.at (h : Each R ms xs) {i : Nat} {v : V} (e : xs[i]? = some v) : ∃ m, ms[i]? = some m ∧ R m v := by
  have hi : i < ms.length := by
    rw [← h.1]
    exact (List.getElem?_eq_some_iff.mp e).1
  exact ⟨ms[i], List.getElem?_eq_getElem hi, h.2 i _ v (List.getElem?_eq_getElem hi) e⟩
theorem Each.at' (h : Each R ms xs) {i : Nat} {m : α} (e : ms[i]? = some m) : ∃ v, xs[i]? = some v ∧ R m v := by
  have hi : i < xs.length := by
    rw [h.1]
    exact (List.getElem?_eq_some_iff.mp e).1
  exact ⟨xs[i], List.getElem?_eq_getElem hi, h.2 i m _ e (List.getElem?_eq_getElem hi)⟩
end
/-! ### members as data -/
inductive Kd where
  | last | first | limit | delay
deriving DecidableEq
def Kd.str : Kd → Str
  | .last => "last"
  | .first => "first"
  | .limit => "limit"
  | .delay => "delay"
abbrev Mb := Kd × Int
def Mb.ok (m : Mb) : Prop := if m.1 = .delay then 0 ≤ m.2 else 1 ≤ m.2
theorem Mb.ok_delay {n : Int} (h : 0 ≤ n) : Mb.ok (Kd.delay, n) := by
  unfold Mb.ok
  rw [if_pos rfl]
  exact h
theorem Mb.ok_kind {k : Kd} {n : Int} (hk : k ≠ .delay) (h : 1 ≤ n) : Mb.ok (k, n) := by
  unfold Mb.ok
  rw [if_neg hk]
  exact h
theorem kind_at {d : Int} (h0 : 0 ≤ d) (h3 : d < 3) : ∃ kd : Kd, atI [V.str "last", V.str "first", V.str "limit"] d = some (V.str kd.str) ∧ kd ≠ .delay := by
  have : d = 0 ∨ d = 1 ∨ d = 2 := by omega
  rcases this with h | h | h <;> subst h
  · exact ⟨.last, rfl, by decide⟩
  · exact ⟨.first, rfl, by decide⟩
  · exact ⟨.limit, rfl, by decide⟩
/-- a pair (kind, number) -/
def PairV (H : Hp) (m : Mb) (v : V) : Prop := ∃ p, v = .ref p ∧ H p = some (.tup [.str m.1.str, .int m.2])
theorem PairV.same {H H' : Hp} (k : Same H H') {m : Mb} {v : V} (h : PairV H m v) : PairV H' m v := by
  obtain ⟨p, e, q⟩ := h
  exact ⟨p, e, k _ _ q⟩
theorem PairV.but {H H' : Hp} {s : Addr} {xs : List V} (hs : H s = some (.lst xs)) (k : But s H H') {m : Mb} {v : V} (h : PairV H m v) : PairV H' m v := by
  obtain ⟨p, e, q⟩ := h
  exact ⟨p, e, k _ _ (ne_of q hs (by intro z; cases z)) q⟩
/-- tuples and instances stand -/
def VP (H H' : Hp) : Prop := (∀ p ys, H p = some (.tup ys) → H' p = some (.tup ys)) ∧ ∀ p C dx fs, H p = some (.ins C dx fs) → H' p = some (.ins C dx fs)
theorem VP.refl {H : Hp} : VP H H := ⟨fun _ _ h => h, fun _ _ _ _ h => h⟩
theorem VP.trans {H H1 H2 : Hp} (a : VP H H1) (b : VP H1 H2) : VP H H2 := ⟨fun p ys h => b.1 p ys (a.1 p ys h), fun p C dx fs h => b.2 p C dx fs (a.2 p C dx fs h)⟩
theorem VP.same {H H' : Hp} (k : Same H H') : VP H H' := ⟨fun _ _ h => k _ _ h, fun _ _ _ _ h => k _ _ h⟩
theorem VP.new {H : Hp} {p : Addr} {o : HO} (h : H p = none) : VP H (upd H p o) := VP.same (same_new h)
theorem VP.but {H H' : Hp} {s : Addr} {xs : List V} (hs : H s = some (.lst xs)) (k : But s H H') : VP H H' :=
  ⟨fun _ _ h => k _ _ (ne_of h hs (by intro z; cases z)) h, fun _ _ _ _ h => k _ _ (ne_of h hs (by intro z; cases z)) h⟩
theorem VP.st {H H' : Hp} {s : Addr} (k : But s H H') (st : St3 H s) : VP H H' := by
  obtain ⟨x, y, z, e, _⟩ := st
  exact VP.but e k
theorem VP.upd {H : Hp} {l : Addr} {xs : List V} {o : HO} (h : H l = some (.lst xs)) : VP H (upd H l o) := VP.but h but_upd
theorem PairV.vp {H H' : Hp} (k : VP H H') {m : Mb} {v : V} (h : PairV H m v) : PairV H' m v := by
  obtain ⟨p, e, q⟩ := h
  exact ⟨p, e, k.1 _ _ q⟩
/-! ### ascending times -/
/-- each is greater than the one before it by d or more -/
def Asc (d : Int) (ts : List Int) : Prop := ∀ i x y, ts[i]? = some x → ts[i + 1]? = some y → x + d ≤ y
theorem Asc.one {d x : Int} : Asc d [x] := fun i a b h1 h2 => by simp at h2
theorem Asc.nil {d : Int} : Asc d [] := fun i a b h1 h2 => by simp at h2
theorem Asc.left {d : Int} {ts us : List Int} (h : Asc d (ts ++ us)) : Asc d ts := fun i x y h1 h2 => by
  have l2 := (List.getElem?_eq_some_iff.mp h2).1
  exact h i x y (by rw [List.getElem?_append_left (by omega)]; exact h1) (by rw [List.getElem?_append_left l2]; exact h2)
theorem Asc.snoc {d x y : Int} {ts : List Int} (h : Asc d (ts ++ [x])) (k : x + d ≤ y) : Asc d (ts ++ [x] ++ [y]) := fun i a b h1 h2 => by
  have l2 := (List.getElem?_eq_some_iff.mp h2).1
  simp only [List.length_append, List.length_cons, List.length_nil] at l2
  by_cases e : i + 1 < (ts ++ [x]).length
  · exact h i a b (by rw [List.getElem?_append_left (by omega)] at h1; exact h1) (by rw [List.getElem?_append_left e] at h2; exact h2)
  · have e1 : i = ts.length := by
      simp only [List.length_append, List.length_cons, List.length_nil] at e
      omega
    subst e1
    simp at h1 h2
    omega
/-! ### plain values -/
/-- a value without parts -/
def Plain : V → Prop
  | .non => True
  | .bl _ => True
  | .int _ => True
  | .str _ => True
  | _ => False
def isNum : V → Bool
  | .int _ => true
  | _ => false
/-- is_number -/
def spIsNum : Sp := fun vs H Q _ => ∃ v, vs = [v] ∧ Plain v ∧ Q (.bl (isNum v)) H
/-- check_least that refuses nothing -/
def spLeast : Sp := fun vs H Q _ => ∃ (n least : Int) (w : V), vs = [.int n, .int least, w] ∧ least ≤ n ∧ Q .non H
/-- a member's __init__ that refuses nothing: its one field -/
def spInit1 (C : Addr) (f : Str) (least : Int) : Sp := fun vs H Q _ => ∃ (p dx : Addr) (n : Int), vs = [.ref p, .int n] ∧ H p = some (.ins C dx []) ∧ least ≤ n ∧ ∀ H', H' = upd H p (.ins C dx [(f, .int n)]) → Q .non H'
theorem iteP {c A B : Prop} [Decidable c] (hc : c) (h : A) : if c then A else B := by rw [if_pos hc]; exact h
theorem iteN {c A B : Prop} [Decidable c] (hc : ¬ c) (h : B) : if c then A else B := by rw [if_neg hc]; exact h
/-! ### members as objects -/
def Kd.cls (K : PySem.W.Frag) : Kd → Addr
  | .last => He.ga K "Last"
  | .first => He.ga K "First"
  | .limit => He.ga K "Limit"
  | .delay => He.ga K "Delay"
def Kd.fld : Kd → Str
  | .delay => "d"
  | _ => "q"
def MemV (K : PySem.W.Frag) (H : Hp) (m : Mb) (v : V) : Prop := ∃ a dx, v = .ref a ∧ H a = some (.ins (m.1.cls K) dx [(m.1.fld, .int m.2)])
theorem MemV.vp {K : PySem.W.Frag} {H H' : Hp} (k : VP H H') {m : Mb} {v : V} (h : MemV K H m v) : MemV K H' m v := by
  obtain ⟨a, dx, e, q⟩ := h
  exact ⟨a, dx, e, k.2 _ _ _ _ q⟩
/-- the members made of pairs -/
def spMade (K : PySem.W.Frag) : Sp := fun vs H Q _ => ∃ (g : Addr) (ms : List Mb) (xs : List V), vs = [.ref g] ∧ SqL K H g xs ∧ Each (PairV H) ms xs ∧ ms.length ≤ 10000 ∧ (∀ m ∈ ms, Mb.ok m) ∧
  ∀ H' l ys, Same H H' → H l = none → H' l = some (.lst ys) → Each (MemV K H') ms ys → Q (.ref l) H'
theorem Same.made2 {H : Hp} {x dx C : Addr} {fs : List (Str × V)} (nx : H x = none) (nd : H dx = none) : Same H (upd (upd (upd H dx (.own x)) x (.ins C dx [])) x (.ins C dx fs)) := fun b o e => by
  rw [upd_ne (ne_of_none e nx), upd_ne (ne_of_none e nx), upd_ne (ne_of_none e nd)]
  exact e
theorem take_snoc {α : Type} {l : List α} {i : Nat} {x : α} (h : l[i]? = some x) : l.take (i + 1) = l.take i ++ [x] := by
  obtain ⟨hi, e⟩ := List.getElem?_eq_some_iff.mp h
  rw [List.take_succ_eq_append_getElem hi, e]
/-- == and != of data with a type -/
def rEqT (α : Type) [DecidableEq α] [PySem.W.Datum α] (K : PySem.W.Frag) : R2 := fun x y H Q => ∃ a b : α, Dp K H x (PySem.W.Datum.toD a) ∧ Dp K H y (PySem.W.Datum.toD b) ∧ Q (.bl (decide (a = b))) H
def rNeT (α : Type) [DecidableEq α] [PySem.W.Datum α] (K : PySem.W.Frag) : R2 := fun x y H Q => ∃ a b : α, Dp K H x (PySem.W.Datum.toD a) ∧ Dp K H y (PySem.W.Datum.toD b) ∧ Q (.bl (decide (a ≠ b))) H
theorem op_eqT {X : Cx} (α : Type) [DecidableEq α] [PySem.W.Datum α] (hu : X.A.units + 64 < cLine) (hd : PySem.W.Datum.depth α ≤ 64 := by decide) : OpR X (compareOp .Eq) (rEqT α X.K) := by
  intro pins s σ H x y v u Q I rx ry h
  obtain ⟨a, b, ha, hb, q⟩ := h
  obtain ⟨as, r1⟩ := Dp.reads I _ x v ha rx
  obtain ⟨bs, r2⟩ := Dp.reads I _ y u hb ry
  exact PySem.W.eq_datum (α := α) ⟨as, r1⟩ ⟨bs, r2⟩ (by omega) ⟨.bl _, H, I, rfl, q⟩
theorem op_neT {X : Cx} (α : Type) [DecidableEq α] [PySem.W.Datum α] (hu : X.A.units + 64 < cLine) (hd : PySem.W.Datum.depth α ≤ 64 := by decide) : OpR X (compareOp .NotEq) (rNeT α X.K) := by
  intro pins s σ H x y v u Q I rx ry h
  obtain ⟨a, b, ha, hb, q⟩ := h
  obtain ⟨as, r1⟩ := Dp.reads I _ x v ha rx
  obtain ⟨bs, r2⟩ := Dp.reads I _ y u hb ry
  exact PySem.W.ne_datum (α := α) ⟨as, r1⟩ ⟨bs, r2⟩ (by omega) ⟨.bl _, H, I, rfl, q⟩
/-! ### the rules with the written part named -/
section
variable {X : Cx} {K : PySem.W.Frag}
theorem ixLK (h : X.K = K := by rfl) : IxR X (rIxL K) := by subst h; exact ix_list
theorem ixTK (h : X.K = K := by rfl) : IxR X (rIxT K) := by subst h; exact ix_tup
theorem ixSK (h : X.K = K := by rfl) : IxR X (rIx K) := by subst h; exact ix_seq
theorem slLK (h : X.K = K := by rfl) : SlR X (rSlL K) := by subst h; exact sl_list
theorem slTK (h : X.K = K := by rfl) : SlR X (rSlT K) := by subst h; exact sl_tup
theorem eqTK (α : Type) [DecidableEq α] [PySem.W.Datum α] (hu : X.A.units + 64 < cLine) (hd : PySem.W.Datum.depth α ≤ 64 := by decide) (h : X.K = K := by rfl) : OpR X (compareOp .Eq) (rEqT α K) := by subst h; exact op_eqT α hu hd
theorem neTK (α : Type) [DecidableEq α] [PySem.W.Datum α] (hu : X.A.units + 64 < cLine) (hd : PySem.W.Datum.depth α ≤ 64 := by decide) (h : X.K = K := by rfl) : OpR X (compareOp .NotEq) (rNeT α K) := by subst h; exact op_neT α hu hd
theorem piLK {tg l : Expr} {tl : TE} (hl : PE X l tl) (h : X.K = K := by rfl) : PI X tg l (iList K tl) := by subst h; exact pi_list hl
theorem piTK {tg l : Expr} {tl : TE} (hl : PE X l tl) (h : X.K = K := by rfl) : PI X tg l (iTup K tl) := by subst h; exact pi_tup hl
theorem piEK {e : Expr} {ta : TA} {p pos tpos : Pos} {elts : List Expr} {kk : Nat} (hg : Gl X "enumerate") (hm : X.mg "enumerate" = none) (ha : PA X [e] ta) (hs : starEach [e] X.env = [(false, eval e X.env)] := by rfl) (h : X.K = K := by rfl) :
    PI X (.Tuple elts kk tpos) (.Call (.Name "enumerate" p) [e] [] pos) (iEnum K ta) := by subst h; exact pi_enum hg hm ha hs
theorem piZK {e e2 : Expr} {ta : TA} {p pos tpos : Pos} {elts : List Expr} {kk : Nat} (hg : Gl X "zip") (hm : X.mg "zip" = none) (ha : PA X [e, e2] ta)
    (hs : starEach [e, e2] X.env = (false, eval e X.env) :: starEach [e2] X.env := by rfl) (hpl : (backTo pos (starEach [e2] X.env)).any (·.1) = false := by rfl) (h : X.K = K := by rfl) :
    PI X (.Tuple elts kk tpos) (.Call (.Name "zip" p) [e, e2] [] pos) (iZip K ta) := by subst h; exact pi_zip hg hm ha hs hpl
theorem feK {e : Expr} {f : Str} {pos : Pos} {ta : TE} (he : PE X e ta) (hb : attributeBase e f X.env (eval e X.env) = eval e X.env := by rfl) (h : X.K = K := by rfl) : PE X (.Attribute e f pos) (tFld K ta f) := by subst h; exact pe_fld he hb
theorem fsK {o value : Expr} {f : Str} {pos pos' : Pos} {ta tv : TE} (ha : PE X o ta) (hv : PE X value tv) (hs : swapsWith value (some (.Attribute o f pos')) pos.line X.env = pure false := by rfl) (h : X.K = K := by rfl) : PS X (.Assign [.Attribute o f pos'] value pos) (sFld K ta tv f) := by subst h; exact ps_fld ha hv hs
theorem lenK (h : X.K = K := by rfl) : CallR X (.builtin "len") (fun xs H Q => ∃ p ys, xs = [.ref p] ∧ (SqL K H p ys ∨ SqT K H p ys) ∧ Q (.int ys.length) H) := by subst h; exact call_len_seq
theorem isiK (h : X.K = K := by rfl) : CallR X (.builtin "isinstance") (rIsi K) := by subst h; exact call_isi
theorem isiTK (h : X.K = K := by rfl) : CallR X (.builtin "isinstance") (rIsiT K) := by subst h; exact call_isiT
theorem listOfK (h : X.K = K := by rfl) : CallR X (.type "list") (fun xs H Q => ∃ p ys, xs = [.ref p] ∧ (SqL K H p ys ∨ SqT K H p ys) ∧ ∀ l, H l = none → Q (.ref l) (upd H l (.lst ys))) := by subst h; exact call_list_of
theorem tupleOfK (h : X.K = K := by rfl) : CallR X (.type "tuple") (fun xs H Q => ∃ p ys, xs = [.ref p] ∧ ((SqL K H p ys ∧ ∀ l, H l = none → Q (.ref l) (upd H l (.tup ys))) ∨ (SqT K H p ys ∧ Q (.ref p) H))) := by subst h; exact call_tuple_of
theorem maxK (hc : X.calm = true) (h : X.K = K := by rfl) : CallR X (.builtin "max") (rMax K) := by subst h; exact cr_max hc
theorem minK (hc : X.calm = true) (h : X.K = K := by rfl) : CallR X (.builtin "min") (rMin K) := by subst h; exact cr_min hc
theorem sumK (hc : X.calm = true) (h : X.K = K := by rfl) : CallR X (.builtin "sum") (rSum K) := by subst h; exact cr_sum hc
theorem inK (h : X.K = K := by rfl) : OpR X (compareOp .In) (rIn K false) := by subst h; exact op_in_seq
theorem notInK (h : X.K = K := by rfl) : OpR X (compareOp .NotIn) (rIn K true) := by subst h; exact op_notIn_seq
theorem appK {o e : Expr} {to : TE} {t : TA} {apos cpos : Pos} (ho : PE X o to) (ha : PA X [e] t) (h : X.K = K := by rfl)
    (hbase : attributeBase o "append" X.env (eval o X.env) = eval o X.env := by rfl)
    (hfew : ((backTo cpos (starEach [e] X.env)).all (fun x => !x.1) && (backToKw cpos (keywordEach [] X.env)).all (fun x => x.1.isSome)
      && decide ([e].length + ([] : List Keyword).length + (if ([] : List Keyword).isEmpty then 0 else 1) < 30)) = true := by rfl)
    (hline : (apos.endLine == cpos.line) = true := by rfl) (hs : starEach [e] X.env = (false, eval e X.env) :: starEach [] X.env := by rfl) (hplain : (backTo cpos (starEach [] X.env)).any (·.1) = false := by rfl) :
    PE X (.Call (.Attribute o "append" apos) [e] [] cpos) (tBM K "list" rAppend to t) := by
  subst h
  exact pe_bm PySem.F.plainAttrs_list PySem.F.slot_list_append PySem.F.type_list_append mt_append ho ha hbase hfew hline hs hplain
/-- list + list, either may be the script's own -/
def rCatS (K : PySem.W.Frag) : R2 := fun x y H Q => ∃ l b xs zs, x = .ref l ∧ y = .ref b ∧ SqL K H l xs ∧ SqL K H b zs ∧ xs.length + zs.length ≤ sizeLine ∧ ∀ p, H p = none → Q (.ref p) (upd H p (.lst (xs ++ zs)))
theorem catK (h : X.K = K := by rfl) : OpR X (binaryOp .Add) (rCatS K) := by
  subst h
  intro pins s σ H x y v u Q I rx ry h
  obtain ⟨l, b, xs, zs, rfl, rfl, hH, hB, hz, q⟩ := h
  cases rx
  cases ry
  obtain ⟨its, r, ⟨⟨cls, dd, data, sl⟩, n, ho, hc, hd, hdt⟩, hl⟩ := I.list hH
  obtain ⟨its2, r2, ⟨⟨cls2, dd2, data2, sl2⟩, n2, ho2, hc2, hd2, hdt2⟩, hl2⟩ := I.list hB
  simp only at hc hd hdt hc2 hd2 hdt2
  subst hc hd hdt hc2 hd2 hdt2
  have l1 := r.length
  have l2 := r2.length
  have ea : its.toArray ++ its2.toArray = (its ++ its2).toArray := by simp
  refine concat_meets ⟨_, ho, rfl⟩ ⟨_, ho2, rfl⟩ noFill_list_add seq_list_add PySem.F.slot_list_add PySem.F.entry_list_add (PySem.F.args_list_add_2 _ _) (list_addW l b its.toArray its2.toArray n n2 none none sl sl2 (by simp; omega)) ⟨ho, ho2, ?_⟩
  rw [ea]
  exact ⟨.ref _, _, I.lnew (t' := s.toks) (r.append r2) (by rw [List.length_append]; omega), rfl, q _ I.fresh⟩
end
/-! ### lists by places -/
theorem map_getD {ts : List Int} : (List.range ts.length).map (fun i => ts.getD i 0) = ts := by
  apply List.ext_getElem
  · simp
  · intro i h1 h2
    simp at h1
    simp [h1]
theorem given_filter (ts : List Int) (pr : Int → Bool) : Evl.given ts.length (fun i => pr (ts.getD i 0)) (fun i => V.int (ts.getD i 0)) = (ts.filter pr).map V.int := by
  unfold Evl.given
  have e : ts.filter pr = ((List.range ts.length).filter (fun i => pr (ts.getD i 0))).map (fun i => ts.getD i 0) := by
    conv => lhs; rw [← map_getD (ts := ts)]
    rw [List.filter_map]
    rfl
  rw [e, List.map_map]
  rfl
theorem map_at {ts : List Int} {i : Nat} {x : V} (h : (ts.map V.int)[i]? = some x) : x = V.int (ts.getD i 0) ∧ i < ts.length := by
  rw [List.getElem?_map] at h
  cases e : ts[i]? with
  | none => rw [e] at h; cases h
  | some t =>
    rw [e] at h
    have hi := (List.getElem?_eq_some_iff.mp e).1
    refine ⟨?_, hi⟩
    cases Option.some.inj h
    simp [e]
theorem at_map {ts : List Int} {i : Nat} {t : Int} (h : ts[i]? = some t) : (ts.map V.int)[i]? = some (V.int t) := by rw [List.getElem?_map, h]; rfl
/-! ### data -/
theorem dpAll_of {α : Type} {K : PySem.W.Frag} {H : Hp} {f : α → PyData} : ∀ {xs : List α} {vs : List V}, Each (fun x v => Dp K H v (f x)) xs vs → DpAll K H vs (xs.map f)
  | [], [], _ => .nil
  | [], _ :: _, h => by have := h.1; simp at this
  | _ :: _, [], h => by have := h.1; simp at this
  | x :: xs, v :: vs, h => by
    refine .cons (h.2 0 x v rfl rfl) (dpAll_of (xs := xs) (vs := vs) ⟨by have := h.1; simp at this; exact this, fun i m u h1 h2 => h.2 (i + 1) m u (by simpa using h1) (by simpa using h2)⟩)
theorem dp_list {α : Type} [DecidableEq α] [PySem.W.Datum α] {K : PySem.W.Frag} {H : Hp} {a : Addr} {xs : List α} {vs : List V} (h : SqL K H a vs) (e : Each (fun x v => Dp K H v (PySem.W.Datum.toD x)) xs vs) : Dp K H (.ref a) (PySem.W.Datum.toD xs) := .lst h (dpAll_of e)
theorem each_map {α : Type} {R : α → V → Prop} {f : α → V} {xs : List α} (h : ∀ x, x ∈ xs → R x (f x)) : Each R xs (xs.map f) := ⟨by simp, fun i m v h1 h2 => by
  rw [List.getElem?_map, h1] at h2
  cases Option.some.inj h2
  exact h m (List.mem_of_getElem? h1)⟩
theorem dp_ints {K : PySem.W.Frag} {H : Hp} {a : Addr} {ns : List Int} (h : SqL K H a (ns.map V.int)) : Dp K H (.ref a) (PySem.W.Datum.toD ns) := dp_list h (each_map fun x _ => .int x)
/-! ### the law's own rules, as functions -/
def markOf (m : Mb) (ts before : List Int) (t : Int) : Bool := match m.1 with
  | .delay => true
  | .last => decide (ts.filter (fun o => decide (t < o) && decide (o < t + m.2)) = [])
  | .first => decide (ts.filter (fun o => decide (t - m.2 < o) && decide (o < t)) = [])
  | .limit => decide (before.filter (fun o => decide (t - m.2 < o)) = [])
def letStep (m : Mb) (ts : List Int) (st : List Bool × List Int) (t : Int) : List Bool × List Int := (st.1 ++ [markOf m ts st.2 t], if markOf m ts st.2 t = true then st.2 ++ [t] else st.2)
def letSt (m : Mb) (ts us : List Int) : List Bool × List Int := us.foldl (letStep m ts) ([], [])
def letF (m : Mb) (ts : List Int) : List Bool := (letSt m ts ts).1
theorem letSt_snoc (m : Mb) (ts us : List Int) (t : Int) : letSt m ts (us ++ [t]) = letStep m ts (letSt m ts us) t := by unfold letSt; rw [List.foldl_append]; rfl
theorem letSt_len0 (m : Mb) (ts : List Int) : ∀ (us : List Int) (st : List Bool × List Int), (us.foldl (letStep m ts) st).1.length = st.1.length + us.length ∧ (us.foldl (letStep m ts) st).2.length ≤ st.2.length + us.length
  | [], st => ⟨rfl, Nat.le_refl _⟩
  | t :: us, st => by
    obtain ⟨h1, h2⟩ := letSt_len0 m ts us (letStep m ts st t)
    rw [List.foldl_cons]
    refine ⟨by rw [h1]; simp [letStep]; omega, Nat.le_trans h2 ?_⟩
    simp only [letStep, List.length_cons]
    split
    · simp; omega
    · omega
theorem letSt_len (m : Mb) (ts us : List Int) : (letSt m ts us).1.length = us.length ∧ (letSt m ts us).2.length ≤ us.length := by
  have h := letSt_len0 m ts us ([], [])
  simpa [letSt] using h
/-- the law's own look at one member -/
def spLet (K : PySem.W.Frag) : Sp := fun vs H Q _ => ∃ (p l : Addr) (m : Mb) (ts : List Int), vs = [.ref p, .ref l] ∧ H p = some (.tup [.str m.1.str, .int m.2]) ∧ SqL K H l (ts.map V.int) ∧ ts.length ≤ 40000 ∧
  ∀ H' r, Same H H' → H r = none → H' r = some (.lst ((letF m ts).map V.bl)) → Q (.ref r) H'
theorem comp_filter {K : PySem.W.Frag} {σ : L2.St} {H : Hp} {a : Addr} {ts : List Int} {tl te : TE} {t : TT} {j : Nat} {vs : List Nat} (pr : Int → Bool) (h : Evl.Ev tl σ H (.ref a)) (hx : SqL K H a (ts.map V.int)) (hz : ts.length ≤ 40000) (hw : ∀ x, wipe ((wipe σ vs).set j (some x)) vs = wipe σ vs)
    (ht : ∀ (o : Int) H1, Same H H1 → Evl.EvT t ((wipe σ vs).set j (some (.int o))) H1 (pr o)) (he : ∀ (o : Int) H1, Same H H1 → Evl.Ev te ((wipe σ vs).set j (some (.int o))) H1 (.int o)) :
    Evl.EvL (tLc (iList K tl) (gName j) t te vs) σ H ((ts.filter pr).map V.int) := by
  have h2 := Evl.el_lcL (K := K) (te := te) (t := t) (j := j) (vs := vs) (fun i => pr (ts.getD i 0)) (fun i => V.int (ts.getD i 0)) h hx (by rw [List.length_map]; exact hz) hw
    (fun i x H1 e hi => by rw [(map_at hi).1]; exact ht _ H1 e) (fun i x H1 e hi _ => by rw [(map_at hi).1]; exact he _ H1 e)
  rw [List.length_map, given_filter] at h2
  exact h2
theorem rv_eqI {K : PySem.W.Frag} {H : Hp} {p q : Addr} {ns ms : List Int} (h1 : SqL K H p (ns.map V.int)) (h2 : SqL K H q (ms.map V.int)) : Evl.RV (rEqT (List Int) K) (.ref p) (.ref q) H (.bl (decide (ns = ms))) :=
  fun H1 e _ qq => ⟨ns, ms, dp_ints (Evl.ex_l e h1), dp_ints (Evl.ex_l e h2), qq H1 (Evl.Ex.refl H1)⟩
/-- [o for o in ts if ..] == [] -/
theorem comp_none {K : PySem.W.Frag} {σ : L2.St} {H : Hp} {a : Addr} {ts : List Int} {tl te : TE} {t : TT} {j : Nat} {vs : List Nat} (pr : Int → Bool) (h : Evl.Ev tl σ H (.ref a)) (hx : SqL K H a (ts.map V.int)) (hz : ts.length ≤ 40000) (hw : ∀ x, wipe ((wipe σ vs).set j (some x)) vs = wipe σ vs)
    (ht : ∀ (o : Int) H1, Same H H1 → Evl.EvT t ((wipe σ vs).set j (some (.int o))) H1 (pr o)) (he : ∀ (o : Int) H1, Same H H1 → Evl.Ev te ((wipe σ vs).set j (some (.int o))) H1 (.int o)) :
    Evl.Ev (tOp (rEqT (List Int) K) (tLc (iList K tl) (gName j) t te vs) (tLst tNil)) σ H (.bl (decide (ts.filter pr = []))) :=
  Evl.ev_opLL (comp_filter pr h hx hz hw ht he) (Evl.el_lst Evl.ea_nil (by decide)) fun _ _ _ h1 h2 _ => rv_eqI (Evl.sq_of h1) (ms := []) (Evl.sq_of h2)
/-! ### readings, one step -/
theorem r_ret {te : TE} {D : Ends} {σ : L2.St} {H : Hp} (h : te σ H D.rt) : tRet te D σ H := h
theorem r_next {D : Ends} {σ : L2.St} {H : Hp} (h : D.nx σ H) : tNext D σ H := h
theorem r_cb1 {r : List V → Hp → VK → Prop} {ta : TE} {σ : L2.St} {H : Hp} {Q : VK} (h : ta σ H fun x H1 => r [x] H1 Q) : tCB r (tCons ta tNil) σ H Q := h
theorem r_asg {te : TE} {i : Nat} {D : Ends} {σ : L2.St} {H : Hp} (h : te σ H fun x H1 => D.nx (σ.set i (some x)) H1) : tAsg te (gName i) D σ H := h
theorem r_op {r : R2} {ta tb : TE} {σ : L2.St} {H : Hp} {Q : VK} (h : ta σ H fun x H1 => tb σ H1 fun y H2 => r x y H2 Q) : tOp r ta tb σ H Q := h
theorem r_seq {t u : TS} {D : Ends} {σ : L2.St} {H : Hp} (h : t { D with nx := u D } σ H) : tSeq t u D σ H := h
theorem r_call1 {sp : Sp} {E : XK} {ta : TE} {σ : L2.St} {H : Hp} {Q : VK} (h : ta σ H fun x H1 => sp [x] H1 Q E) : tCall sp [] E (tCons ta tNil) σ H Q := h
/-! ### comprehensions over pairs -/
theorem lc_pairs {K : PySem.W.Frag} {σ : L2.St} {H : Hp} {wi : TI} {t : TT} {te : TE} {j1 j2 : Nat} {vs : List Nat} {n : Nat} {xs ys : Nat → Option V} (f : Nat → Bool) (v : Nat → V) (hn : n ≤ 40000)
    (hwi : ∀ H1, Evl.Ex H H1 → ∀ R : It → Hp → Prop, (∀ (J : It) (H2 : Hp) (G : Hp → Prop), Evl.Ex H1 H2 → Walk J n G (YPair xs ys) → (∀ H3, Evl.Ex H2 H3 → G H3) → R J H2) → wi σ H1 R)
    (hw : ∀ x y, wipe (((wipe σ vs).set j1 (some x)).set j2 (some y)) vs = wipe σ vs)
    (ht : ∀ (i : Nat) x y H1, Evl.Ex H H1 → i < n → xs i = some x → ys i = some y → Evl.EvT t (((wipe σ vs).set j1 (some x)).set j2 (some y)) H1 (f i))
    (he : ∀ (i : Nat) x y H1, Evl.Ex H H1 → i < n → xs i = some x → ys i = some y → f i = true → Evl.Ev te (((wipe σ vs).set j1 (some x)).set j2 (some y)) H1 (v i)) :
    Evl.EvL (tLc wi (gTup K 2 (gCons (gName j1) (gCons (gName j2) gNil))) t te vs) σ H (Evl.given n f v) := fun H0 e Q q => by
  refine hwi H0 e _ fun J H2 G e2 w hG => ?_
  intro D hD
  refine lc_it w (fun i H' => Evl.Cw H2 f v D i H') ⟨hD, Evl.Ex.new hD, upd_same⟩ (fun i H' _ p => hG H' p.2.1) (fun i x H' H'' hi p y => ?_) (fun H' p => q D H' (Evl.fresh_back e2 p.1) (e2.trans p.2.1) p.2.2)
  obtain ⟨T, x1, x2, rfl, nT, rfl, e3, e4⟩ := y
  have p' : Evl.Cw H2 f v D i (upd H' T (.tup [x1, x2])) := ⟨p.1, p.2.1.trans (Evl.Ex.new nT), by rw [upd_ne (ne_of_none p.2.2 nT)]; exact p.2.2⟩
  exact ⟨_, _, rfl, SqT.of upd_same, rfl, _, _, rfl, _, _, rfl, rfl, hw x1 x2, Evl.cw_turn p' (by omega) (ht i x1 x2 H2 (e.trans e2) hi e3 e4) (fun hf => he i x1 x2 H2 (e.trans e2) hi e3 e4 hf)⟩
theorem wi_enum {K : PySem.W.Frag} {σ : L2.St} {H : Hp} {ta : TA} {a : Addr} {xs : List V} (h : Evl.EvA ta σ H [.ref a]) (hx : SqL K H a xs) :
    ∀ H1, Evl.Ex H H1 → ∀ R : It → Hp → Prop, (∀ (J : It) (H2 : Hp) (G : Hp → Prop), Evl.Ex H1 H2 → Walk J xs.length G (YPair (fun i => some (.int (i : Nat))) (fun i => xs[i]?)) → (∀ H3, Evl.Ex H2 H3 → G H3) → R J H2) → iEnum K ta σ H1 R :=
  fun H1 e R q => h H1 e _ fun H2 e2 => ⟨a, xs, rfl, Evl.ex_l (e.trans e2) hx, q _ H2 _ e2 (walk_enum (K := K)) fun H3 e3 => Evl.ex_l ((e.trans e2).trans e3) hx⟩
theorem wi_zip {K : PySem.W.Frag} {σ : L2.St} {H : Hp} {ta : TA} {a b : Addr} {xs ys : List V} {n : Nat} (hn : n = min xs.length ys.length) (h : Evl.EvA ta σ H [.ref a, .ref b]) (hx : SqL K H a xs) (hy : SqL K H b ys) :
    ∀ H1, Evl.Ex H H1 → ∀ R : It → Hp → Prop, (∀ (J : It) (H2 : Hp) (G : Hp → Prop), Evl.Ex H1 H2 → Walk J n G (YPair (fun i => xs[i]?) (fun i => ys[i]?)) → (∀ H3, Evl.Ex H2 H3 → G H3) → R J H2) → iZip K ta σ H1 R :=
  fun H1 e R q => h H1 e _ fun H2 e2 => ⟨a, b, xs, ys, rfl, Evl.ex_l (e.trans e2) hx, Evl.ex_l (e.trans e2) hy, q _ H2 _ e2 (walk_zip (K := K) hn) fun H3 e3 => ⟨Evl.ex_l ((e.trans e2).trans e3) hx, Evl.ex_l ((e.trans e2).trans e3) hy⟩⟩
/-- whom the law takes for the speaker -/
def Spk (m : Mb) (kept : List Int) (t : Int) (k : Nat) : Prop := if m.1 = .last then (∃ x, kept[k]? = some x ∧ t ≤ x ∧ ∀ j y, j < k → kept[j]? = some y → y < t) else (∃ x, kept[k]? = some x ∧ x ≤ t ∧ ∀ j y, k < j → kept[j]? = some y → t < y)
/-- some speaker there is -/
def HasSpk (m : Mb) (kept : List Int) (t : Int) : Prop := if m.1 = .last then (∃ x ∈ kept, t ≤ x) else (∃ x ∈ kept, x ≤ t)
def spSpeaker (K : PySem.W.Frag) : Sp := fun vs H Q _ => ∃ (p l g : Addr) (m : Mb) (ts kept : List Int) (i : Nat) (t : Int), vs = [.ref p, .ref l, .ref g, .int (i : Nat)] ∧ H p = some (.tup [.str m.1.str, .int m.2]) ∧ SqL K H l (ts.map V.int) ∧ SqL K H g (kept.map V.int) ∧
  (ts[i]? = some t ∧ kept.length ≤ 40000 ∧ HasSpk m kept t) ∧ ∀ H' k, Same H H' → Spk m kept t k → Q (.int (k : Nat)) H'
/-- the places of what is told -/
def placesOf (kept : List Int) (pr : Int → Bool) : List Int := ((List.range kept.length).filter (fun i => pr (kept.getD i 0))).map (fun (i : Nat) => (i : Int))
theorem given_places (kept : List Int) (pr : Int → Bool) : Evl.given kept.length (fun i => pr (kept.getD i 0)) (fun i => V.int (i : Nat)) = (placesOf kept pr).map V.int := by
  unfold Evl.given placesOf
  rw [List.map_map]
  rfl
theorem mem_places {kept : List Int} {pr : Int → Bool} {z : Int} : z ∈ placesOf kept pr ↔ ∃ (k : Nat) (x : Int), z = (k : Int) ∧ kept[k]? = some x ∧ pr x = true := by
  unfold placesOf
  simp only [List.mem_map, List.mem_filter, List.mem_range]
  constructor
  · rintro ⟨k, ⟨hk, hp⟩, rfl⟩
    exact ⟨k, kept.getD k 0, rfl, by simp [hk], hp⟩
  · rintro ⟨k, x, rfl, hx, hp⟩
    have hk := (List.getElem?_eq_some_iff.mp hx).1
    exact ⟨k, ⟨hk, by simp [hx, hp]⟩, rfl⟩
theorem spk_min {m : Mb} {kept : List Int} {t z : Int} (hm : m.1 = .last) (h1 : z ∈ placesOf kept (fun x => decide (x ≥ t))) (h2 : ∀ y, y ∈ placesOf kept (fun x => decide (x ≥ t)) → z ≤ y) : ∃ k : Nat, z = (k : Int) ∧ Spk m kept t k := by
  obtain ⟨k, x, rfl, hx, hp⟩ := mem_places.mp h1
  refine ⟨k, rfl, ?_⟩
  unfold Spk
  rw [if_pos hm]
  refine ⟨x, hx, of_decide_eq_true hp, fun j y hj hy => ?_⟩
  apply Int.not_le.mp
  intro hle
  have := h2 (j : Int) (mem_places.mpr ⟨j, y, rfl, hy, decide_eq_true hle⟩)
  omega
theorem spk_max {m : Mb} {kept : List Int} {t z : Int} (hm : ¬ m.1 = .last) (h1 : z ∈ placesOf kept (fun x => decide (x ≤ t))) (h2 : ∀ y, y ∈ placesOf kept (fun x => decide (x ≤ t)) → y ≤ z) : ∃ k : Nat, z = (k : Int) ∧ Spk m kept t k := by
  obtain ⟨k, x, rfl, hx, hp⟩ := mem_places.mp h1
  refine ⟨k, rfl, ?_⟩
  unfold Spk
  rw [if_neg hm]
  refine ⟨x, hx, of_decide_eq_true hp, fun j y hj hy => ?_⟩
  apply Int.not_le.mp
  intro hle
  have := h2 (j : Int) (mem_places.mpr ⟨j, y, rfl, hy, decide_eq_true hle⟩)
  omega
/-! ### more comprehensions -/
theorem et_yes {σ : L2.St} {H : Hp} : Evl.EvT tYes σ H true := fun H1 _ _ q => q H1 (Evl.Ex.refl H1)
theorem given_all {n : Nat} {v : Nat → V} : Evl.given n (fun _ => true) v = (List.range n).map v := by
  unfold Evl.given
  rw [List.filter_eq_self.mpr (fun _ _ => rfl)]
theorem comp_map {K : PySem.W.Frag} {σ : L2.St} {H : Hp} {a : Addr} {ns : List Int} {tl te : TE} {j : Nat} {vs : List Nat} (fn : Int → Int) (h : Evl.Ev tl σ H (.ref a)) (hx : SqL K H a (ns.map V.int)) (hz : ns.length ≤ 40000) (hw : ∀ x, wipe ((wipe σ vs).set j (some x)) vs = wipe σ vs)
    (he : ∀ (o : Int) H1, o ∈ ns → Same H H1 → Evl.Ev te ((wipe σ vs).set j (some (.int o))) H1 (.int (fn o))) :
    Evl.EvL (tLc (iList K tl) (gName j) tYes te vs) σ H ((ns.map fn).map V.int) := by
  have h2 := Evl.el_lcL (K := K) (te := te) (t := tYes) (j := j) (vs := vs) (fun _ => true) (fun i => V.int (fn (ns.getD i 0))) h hx (by rw [List.length_map]; exact hz) hw
    (fun i x H1 e hi => et_yes) (fun i x H1 e hi _ => by
      obtain ⟨rfl, hl⟩ := map_at hi
      exact he _ H1 (by simp [hl]) e)
  rw [List.length_map, given_all] at h2
  have e : (ns.map fn).map V.int = (List.range ns.length).map (fun i => V.int (fn (ns.getD i 0))) := by
    apply List.ext_getElem
    · simp
    · intro i h1 h2
      simp at h1
      simp [h1]
  rw [e]
  exact h2
def ksOf (bs : List Bool) : List Nat := (List.range bs.length).filter (fun i => bs.getD i false)
theorem comp_zip {K : PySem.W.Frag} {σ : L2.St} {H : Hp} {a b : Addr} {ns : List Int} {bs : List Bool} {ta : TA} {t : TT} {te : TE} {j1 j2 : Nat} {vs : List Nat} (h : Evl.EvA ta σ H [.ref a, .ref b]) (hx : SqL K H a (ns.map V.int)) (hy : SqL K H b (bs.map V.bl)) (hn : ns.length = bs.length) (hz : bs.length ≤ 40000)
    (hw : ∀ x y, wipe (((wipe σ vs).set j1 (some x)).set j2 (some y)) vs = wipe σ vs)
    (ht : ∀ x (y : Bool) H1, Evl.EvT t (((wipe σ vs).set j1 (some x)).set j2 (some (.bl y))) H1 y)
    (he : ∀ x y H1, Evl.Ev te (((wipe σ vs).set j1 (some x)).set j2 (some y)) H1 x) :
    Evl.EvL (tLc (iZip K ta) (gTup K 2 (gCons (gName j1) (gCons (gName j2) gNil))) t te vs) σ H (((ksOf bs).map fun i => ns.getD i 0).map V.int) := by
  have h2 := lc_pairs (K := K) (te := te) (t := t) (j1 := j1) (j2 := j2) (vs := vs) (n := bs.length) (xs := fun i => (ns.map V.int)[i]?) (ys := fun i => (bs.map V.bl)[i]?) (fun i => bs.getD i false) (fun i => V.int (ns.getD i 0)) hz
    (wi_zip (by simp [hn]) h hx hy) hw
    (fun i x y H1 e hi ex ey => by
      rw [List.getElem?_map, List.getElem?_eq_getElem hi] at ey
      cases Option.some.inj ey
      have : bs.getD i false = bs[i] := by simp [hi]
      rw [this]
      exact ht _ _ _)
    (fun i x y H1 e hi ex ey _ => by
      obtain ⟨rfl, _⟩ := map_at ex
      exact he _ _ _)
  have e : ((ksOf bs).map fun i => ns.getD i 0).map V.int = Evl.given bs.length (fun i => bs.getD i false) (fun i => V.int (ns.getD i 0)) := by
    unfold Evl.given ksOf
    rw [List.map_map]
    rfl
  rw [e]
  exact h2
/-- elements that a call gives, not as a function -/
theorem comp_rel {α : Type} {K : PySem.W.Frag} {σ : L2.St} {H : Hp} {a : Addr} {ms : List α} {xs : List V} {tl te : TE} {j : Nat} {vs : List Nat} (R : α → V → Prop) (h : Evl.Ev tl σ H (.ref a)) (hx : SqL K H a xs) (S : α → V → Prop) (hE : Each S ms xs) (hz : ms.length ≤ 40000) (hw : ∀ x, wipe ((wipe σ vs).set j (some x)) vs = wipe σ vs)
    (he : ∀ (i : Nat) (m : α) (x : V) H1, ms[i]? = some m → S m x → Same H H1 → ∀ Q : VK, (∀ H2 v, Same H1 H2 → R m v → Q v H2) → te ((wipe σ vs).set j (some x)) H1 Q) {Q : VK}
    (hq : ∀ p H2 ws, H p = none → Same H H2 → H2 p = some (.lst ws) → Each R ms ws → Q (.ref p) H2) : tLc (iList K tl) (gName j) tYes te vs σ H Q :=
  h H (Evl.Ex.refl H) _ fun H1 e1 => ⟨a, rfl, ⟨xs, Evl.ex_l e1 hx⟩, fun D hD =>
    lc_list (xs := xs) (fun i H' => Same H1 H' ∧ ∃ ws, H' D = some (.lst ws) ∧ Each R (ms.take i) ws) ⟨same_new hD, [], upd_same, Each.nil⟩ (fun i H' _ p => Evl.ex_l (Evl.Ex.trans e1 p.1) hx)
      (fun i x H' hi p => ⟨hw x, by
        obtain ⟨k1, ws, hD', hR⟩ := p
        obtain ⟨m, hm, hs⟩ := hE.at hi
        show te _ _ _
        refine he i m x H' hm hs (Evl.Ex.trans e1 k1) _ fun H2 v k2 r => ?_
        have hlen : ws.length ≤ 40000 := by rw [hR.1, List.length_take]; omega
        refine ⟨ws, k2 _ _ hD', Evl.sz_lt (by omega), Same.chg (k1.trans k2) hD, ws ++ [v], upd_same, ?_⟩
        rw [take_snoc hm]
        exact hR.snoc r⟩)
      (fun H' p => by
        obtain ⟨k1, ws, hD', hR⟩ := p
        rw [hE.1, List.take_length] at hR
        exact hq D H' ws (Evl.fresh_back e1 hD) (Evl.Ex.trans e1 k1) hD' hR)⟩
theorem comp_mine {K : PySem.W.Frag} {σ : L2.St} {H : Hp} {a : Addr} {ns : List Int} {ta : TA} {t : TT} {te : TE} {j1 j2 : Nat} {vs : List Nat} (pr : Int → Bool) (h : Evl.EvA ta σ H [.ref a]) (hx : SqL K H a (ns.map V.int)) (hz : ns.length ≤ 40000)
    (hw : ∀ x y, wipe (((wipe σ vs).set j1 (some x)).set j2 (some y)) vs = wipe σ vs)
    (ht : ∀ x (y : Int) H1, Same H H1 → Evl.EvT t (((wipe σ vs).set j1 (some x)).set j2 (some (.int y))) H1 (pr y))
    (he : ∀ x y H1, Evl.Ev te (((wipe σ vs).set j1 (some x)).set j2 (some y)) H1 x) :
    Evl.EvL (tLc (iEnum K ta) (gTup K 2 (gCons (gName j1) (gCons (gName j2) gNil))) t te vs) σ H ((placesOf ns pr).map V.int) := by
  have h2 := lc_pairs (K := K) (te := te) (t := t) (j1 := j1) (j2 := j2) (vs := vs) (n := (ns.map V.int).length) (xs := fun i => some (.int (i : Nat))) (ys := fun i => (ns.map V.int)[i]?) (fun i => pr (ns.getD i 0)) (fun i => V.int (i : Nat)) (by rw [List.length_map]; exact hz)
    (wi_enum h hx) hw
    (fun i x y H1 e hi ex ey => by
      obtain ⟨rfl, _⟩ := map_at ey
      exact ht _ _ _ e)
    (fun i x y H1 e hi ex ey _ => by
      cases Option.some.inj ex
      exact he _ _ _)
  rw [List.length_map, given_places] at h2
  exact h2
theorem rg0 (n : Nat) : rgV 0 (n : Int) = ((List.range n).map fun (i : Nat) => (i : Int)).map V.int := by
  unfold rgV
  rw [List.map_map, show ((n : Int) - 0).toNat = n by omega]
  apply List.map_congr_left
  intro i _
  show V.int (0 + (i : Int)) = V.int (i : Int)
  rw [Int.zero_add]
def theInt : V → Int
  | .int y => y
  | _ => 0
theorem each_pick {α : Type} {R : α → V → Prop} {ns : List α} {ws : List V} (h : Each R ns ws) (f : ∀ z v, R z v → ∃ y, v = V.int y) : ∃ ss : List Int, ws = ss.map V.int := by
  refine ⟨ws.map theInt, ?_⟩
  rw [List.map_map]
  apply List.ext_getElem
  · simp
  · intro i h1 h2
    have hi : ws[i]? = some ws[i] := List.getElem?_eq_getElem h1
    obtain ⟨m, hm, r⟩ := h.at hi
    obtain ⟨y, e⟩ := f _ _ r
    simp only [List.getElem_map, Function.comp]
    rw [e]
    rfl
/-! ### own classes and isinstance -/
def kitTys : List String := ["int", "bool", "list", "tuple", "str", "NoneType", "dict"]
def ownB (cs : List Str) (K : PySem.W.Frag) : Bool :=
  decide (PySem.W.specialIn K (.builtin "object.__class__") "__get__" = some (some (.builtin "getset_descriptor.__get__"))) && (decide (PySem.W.takesIn K (.builtin "object.__class__") = some true) &&
    cs.all fun c => decide (PySem.W.findIn K (.ref (He.ga K c)) "__class__" = some (some (.builtin "object.__class__"))) && (decide (PySem.W.mroIn K (He.ga K c) (.type "object") = some true) &&
      ((cs.all fun d => decide (PySem.W.kitOne K (.ref (He.ga K c)) (.ref (He.ga K d)) = some (decide (c = d)))) && (kitTys.all fun t => decide (PySem.W.kitOne K (.ref (He.ga K c)) (.type t) = some false) && decide (PySem.W.kitOne K (.type t) (.ref (He.ga K c)) = some false)))))
structure Own (cs : List Str) (K : PySem.W.Frag) : Prop where
  hn : PySem.W.specialIn K (.builtin "object.__class__") "__get__" = some (some (.builtin "getset_descriptor.__get__"))
  htk : PySem.W.takesIn K (.builtin "object.__class__") = some true
  ha : ∀ c ∈ cs, PySem.W.findIn K (.ref (He.ga K c)) "__class__" = some (some (.builtin "object.__class__"))
  hm : ∀ c ∈ cs, PySem.W.mroIn K (He.ga K c) (.type "object") = some true
  kit : ∀ c ∈ cs, ∀ d ∈ cs, PySem.W.kitOne K (.ref (He.ga K c)) (.ref (He.ga K d)) = some (decide (c = d))
  kt : ∀ c ∈ cs, ∀ t ∈ kitTys, PySem.W.kitOne K (.ref (He.ga K c)) (.type t) = some false
  tk : ∀ c ∈ cs, ∀ t ∈ kitTys, PySem.W.kitOne K (.type t) (.ref (He.ga K c)) = some false
theorem ownB_ok {cs : List Str} {K : PySem.W.Frag} (h : ownB cs K = true) : Own cs K := by
  unfold ownB at h
  obtain ⟨h1, h⟩ := He.ba h
  obtain ⟨h2, h⟩ := He.ba h
  have h3 := List.all_eq_true.mp h
  refine ⟨of_decide_eq_true h1, of_decide_eq_true h2, fun c hc => ?_, fun c hc => ?_, fun c hc d hd => ?_, fun c hc t ht => ?_, fun c hc t ht => ?_⟩
  all_goals
    obtain ⟨a1, a⟩ := He.ba (h3 c hc)
    obtain ⟨a2, a⟩ := He.ba a
    obtain ⟨a3, a4⟩ := He.ba a
  · exact of_decide_eq_true a1
  · exact of_decide_eq_true a2
  · exact of_decide_eq_true (List.all_eq_true.mp a3 d hd)
  · exact of_decide_eq_true (He.ba (List.all_eq_true.mp a4 t ht)).1
  · exact of_decide_eq_true (He.ba (List.all_eq_true.mp a4 t ht)).2
theorem Own.ty {cs : List Str} {K : PySem.W.Frag} (O : Own cs K) {c : Str} (hc : c ∈ cs) (cl : Cls K (He.ga K c)) {H : Hp} {a dx : Addr} {fs : List (Str × V)} (e : H a = some (.ins (He.ga K c) dx fs)) : TyX K H (.ref a) (.ref (He.ga K c)) :=
  .base (.ins e cl (O.ha c hc) O.hn O.htk (O.hm c hc))
/-- is_listing of a list or a tuple -/
def spListing (K : PySem.W.Frag) : Sp := fun vs H Q _ => ∃ (a : Addr) (xs : List V), vs = [.ref a] ∧ (H a = some (.lst xs) ∨ H a = some (.tup xs)) ∧ ∀ H', Same H H' → Q (.bl true) H'
/-- is_member of a member -/
def spMember (K : PySem.W.Frag) : Sp := fun vs H Q _ => ∃ (m : Mb) (v : V), vs = [v] ∧ MemV K H m v ∧ ∀ H', Same H H' → Q (.bl true) H'
end My

set_option Elab.async false
set_option linter.all false
set_option maxRecDepth 100000
set_option maxHeartbeats 4000000
namespace My
open PySem PySem.Spec PyProof.Rows L2
/-! ### what rows tell, as a function -/
/-- an event that is still told: its number, the first and the last event that it speaks for -/
structure Tl where
  num : Nat
  fst : Nat
  lst : Nat
def Tl.zero : Tl := ⟨0, 0, 0⟩
/-- the places that are marked -/
def baseT (ts : List Int) (es : List Tl) : List Int := es.map fun e => ts.getD e.num 0
def loOf (m : Mb) (ks : List Nat) (j : Nat) : Nat := if m.1 = .last then (if j = 0 then 0 else ks.getD (j - 1) 0 + 1) else ks.getD j 0
def hiOf (m : Mb) (ks : List Nat) (n j : Nat) : Nat := if m.1 = .last then ks.getD j 0 else (if j + 1 < ks.length then ks.getD (j + 1) 0 - 1 else n - 1)
def newE (m : Mb) (es : List Tl) (ks : List Nat) (j : Nat) : Tl := ⟨(es.getD (ks.getD j 0) .zero).num, (es.getD (loOf m ks j) .zero).fst, (es.getD (hiOf m ks es.length j) .zero).lst⟩
def stepE (m : Mb) (ts : List Int) (es : List Tl) : List Tl := (List.range (ksOf (letF m (baseT ts es))).length).map (newE m es (ksOf (letF m (baseT ts es))))
def initE (ts : List Int) : List Tl := (List.range ts.length).map fun i => ⟨i, i, i⟩
def tellE (ms : List Mb) (ts : List Int) : List Tl := ms.foldl (fun es m => stepE m ts es) (initE ts)
def lagOf (m : Mb) : Int := if m.1 = .last ∨ m.1 = .delay then m.2 else 0
theorem lag_last (q : Int) : lagOf (.last, q) = q := by simp [lagOf]
theorem lag_first (q : Int) : lagOf (.first, q) = 0 := by simp [lagOf]
theorem lag_limit (q : Int) : lagOf (.limit, q) = 0 := by simp [lagOf]
theorem lag_delay (q : Int) : lagOf (.delay, q) = q := by simp [lagOf]
def lateOf (ms : List Mb) : Int := ms.foldl (fun l m => l + lagOf m) 0
/-! #### marks -/
theorem letF_len (m : Mb) (ts : List Int) : (letF m ts).length = ts.length := (letSt_len m ts ts).1
theorem letSt_get (m : Mb) (ts : List Int) {i : Nat} (hi : i < ts.length) : ∀ k, i < k → k ≤ ts.length → (letSt m ts (ts.take k)).1[i]? = some (markOf m ts (letSt m ts (ts.take i)).2 ts[i]) := by
  intro k hk
  induction k with
  | zero => omega
  | succ k ih =>
    intro hl
    have hk' : k < ts.length := by omega
    rw [take_snoc (List.getElem?_eq_getElem hk'), letSt_snoc]
    unfold letStep
    have l1 := (letSt_len m ts (ts.take k)).1
    rw [List.length_take] at l1
    by_cases e : i = k
    · subst e
      rw [List.getElem?_append_right (by omega)]
      rw [show i - (letSt m ts (ts.take i)).1.length = 0 by omega]
      rfl
    · rw [List.getElem?_append_left (by omega)]
      exact ih (by omega) (by omega)
theorem letF_get (m : Mb) (ts : List Int) {i : Nat} (hi : i < ts.length) : (letF m ts)[i]? = some (markOf m ts (letSt m ts (ts.take i)).2 ts[i]) := by
  have h := letSt_get m ts hi ts.length hi (Nat.le_refl _)
  rw [List.take_length] at h
  exact h
theorem asc_lt {ts : List Int} (h : Asc 1 ts) : ∀ (j i : Nat) (hi : i < ts.length) (hj : j < ts.length), i < j → ts[i] < ts[j] := by
  intro j
  induction j with
  | zero => intro i hi hj h; omega
  | succ j ih =>
    intro i hi hj hij
    have h1 := h j ts[j] ts[j + 1] (List.getElem?_eq_getElem (by omega)) (List.getElem?_eq_getElem hj)
    by_cases e : i = j
    · subst e; omega
    · have := ih i hi (by omega) (by omega)
      omega
theorem asc_le_iff {ts : List Int} (h : Asc 1 ts) {i j : Nat} (hi : i < ts.length) (hj : j < ts.length) : ts[i] ≤ ts[j] ↔ i ≤ j := by
  constructor
  · intro hle
    apply Nat.not_lt.mp
    intro hlt
    have := asc_lt h i j hj hi hlt
    omega
  · intro hle
    rcases Nat.lt_or_eq_of_le hle with e | e
    · exact Int.le_of_lt (asc_lt h j i hi hj e)
    · subst e; exact Int.le_refl _
theorem filter_none {α : Type} {p : α → Bool} {l : List α} (h : ∀ x ∈ l, p x = false) : l.filter p = [] := by
  rw [List.filter_eq_nil_iff]
  intro x hx
  rw [h x hx]
  decide
/-- the last of all is marked by Last, the first of all by the others -/
theorem mark_last {m : Mb} {ts : List Int} (h : Asc 1 ts) (hm : m.1 = .last) (hn : 0 < ts.length) : (letF m ts)[ts.length - 1]? = some true := by
  rw [letF_get m ts (by omega)]
  unfold markOf
  rw [hm]
  refine congrArg some (decide_eq_true (filter_none fun x hx => ?_))
  obtain ⟨i, hi⟩ := List.getElem?_of_mem hx
  obtain ⟨hi', rfl⟩ := List.getElem?_eq_some_iff.mp hi
  have := (asc_le_iff h hi' (show ts.length - 1 < ts.length by omega)).mpr (by omega)
  rw [decide_eq_false (by omega)]
  rfl
theorem mark_first {m : Mb} {ts : List Int} (h : Asc 1 ts) (hm : ¬ m.1 = .last) (hn : 0 < ts.length) : (letF m ts)[0]? = some true := by
  rw [letF_get m ts hn]
  unfold markOf
  obtain ⟨kd, q⟩ := m
  cases kd
  · exact absurd rfl hm
  · refine congrArg some (decide_eq_true (filter_none fun x hx => ?_))
    obtain ⟨i, hi⟩ := List.getElem?_of_mem hx
    obtain ⟨hi', rfl⟩ := List.getElem?_eq_some_iff.mp hi
    have := (asc_le_iff h (show 0 < ts.length by omega) hi').mpr (by omega)
    rw [decide_eq_false (show ¬ ts[i] < ts[0] by omega), Bool.and_false]
  · rfl
  · rfl
/-! #### marked places -/
theorem ks_mem {bs : List Bool} {i : Nat} : i ∈ ksOf bs ↔ bs[i]? = some true := by
  unfold ksOf
  rw [List.mem_filter, List.mem_range]
  constructor
  · rintro ⟨h1, h2⟩
    rw [List.getElem?_eq_getElem h1]
    simpa [h1] using h2
  · intro h
    have h1 := (List.getElem?_eq_some_iff.mp h).1
    exact ⟨h1, by simp [h]⟩
theorem ks_lt {bs : List Bool} {i j : Nat} (hj : j < (ksOf bs).length) (hij : i < j) : (ksOf bs)[i] < (ksOf bs)[j] := by
  have h : (ksOf bs).Pairwise (· < ·) := List.Pairwise.filter _ List.pairwise_lt_range
  exact List.pairwise_iff_getElem.mp h i j (by omega) hj hij
theorem ks_le {bs : List Bool} {i j : Nat} (hj : j < (ksOf bs).length) (hij : i ≤ j) : (ksOf bs)[i] ≤ (ksOf bs)[j] := by
  rcases Nat.lt_or_eq_of_le hij with e | e
  · exact Nat.le_of_lt (ks_lt hj e)
  · subst e; exact Nat.le_refl _
theorem ks_bound {bs : List Bool} {j : Nat} (hj : j < (ksOf bs).length) : (ksOf bs)[j] < bs.length := by
  have := ks_mem.mp (List.getElem_mem hj)
  exact (List.getElem?_eq_some_iff.mp this).1
/-- the stretches cover all, one behind the other -/
structure Part (n : Nat) (es : List Tl) : Prop where
  mid : ∀ k, k < es.length → (es.getD k .zero).fst ≤ (es.getD k .zero).num ∧ (es.getD k .zero).num ≤ (es.getD k .zero).lst
  beg : 0 < es.length → (es.getD 0 .zero).fst = 0
  nxt : ∀ k, k + 1 < es.length → (es.getD (k + 1) .zero).fst = (es.getD k .zero).lst + 1
  fin : 0 < es.length → (es.getD (es.length - 1) .zero).lst + 1 = n
  pos : 0 < n → 0 < es.length
  nil : n = 0 → es = []
theorem Part.lt {n : Nat} {es : List Tl} (P : Part n es) : ∀ (j i : Nat), i < j → j < es.length → (es.getD i .zero).lst < (es.getD j .zero).fst := by
  intro j
  induction j with
  | zero => intro i h; omega
  | succ j ih =>
    intro i hij hj
    have h1 := P.nxt j hj
    by_cases e : i = j
    · subst e; omega
    · have h2 := ih i (by omega) (by omega)
      have h3 := P.mid j (by omega)
      omega
theorem Part.le_lst {n : Nat} {es : List Tl} (P : Part n es) {i j : Nat} (h : i ≤ j) (hj : j < es.length) : (es.getD i .zero).lst ≤ (es.getD j .zero).lst := by
  rcases Nat.lt_or_eq_of_le h with e | e
  · have h1 := P.lt j i e hj
    have h2 := P.mid j hj
    omega
  · subst e; exact Nat.le_refl _
theorem Part.le_fst {n : Nat} {es : List Tl} (P : Part n es) {i j : Nat} (h : i ≤ j) (hj : j < es.length) : (es.getD i .zero).fst ≤ (es.getD j .zero).fst := by
  rcases Nat.lt_or_eq_of_le h with e | e
  · have h1 := P.lt j i e hj
    have h2 := P.mid i (by omega)
    omega
  · subst e; exact Nat.le_refl _
theorem Part.bound {n : Nat} {es : List Tl} (P : Part n es) {k : Nat} (hk : k < es.length) : (es.getD k .zero).lst < n := by
  have h1 := P.le_lst (i := k) (j := es.length - 1) (by omega) (by omega)
  have h2 := P.fin (by omega)
  omega
theorem baseT_len {ts : List Int} {es : List Tl} : (baseT ts es).length = es.length := by unfold baseT; rw [List.length_map]
theorem baseT_get {ts : List Int} {es : List Tl} {k : Nat} (hk : k < (baseT ts es).length) : (baseT ts es)[k] = ts.getD (es.getD k .zero).num 0 := by
  have hk' : k < es.length := by rw [← baseT_len (ts := ts)]; exact hk
  show (es.map (fun e => ts.getD e.num 0))[k]'(by rw [List.length_map]; exact hk') = _
  rw [List.getElem_map]
  simp [hk']
theorem baseT_asc {ts : List Int} {es : List Tl} (h : Asc 1 ts) (P : Part ts.length es) : Asc 1 (baseT ts es) := by
  intro i x y h1 h2
  obtain ⟨l1, e1⟩ := List.getElem?_eq_some_iff.mp h1
  obtain ⟨l2, e2⟩ := List.getElem?_eq_some_iff.mp h2
  rw [baseT_get] at e1 e2
  rw [baseT_len] at l1 l2
  have a := P.lt (i + 1) i (by omega) l2
  have b := P.mid i l1
  have c := P.mid (i + 1) l2
  have d := P.bound l2
  have hx : (es.getD i .zero).num < ts.length := by omega
  have hy : (es.getD (i + 1) .zero).num < ts.length := by omega
  have := asc_lt h (es.getD (i + 1) .zero).num (es.getD i .zero).num hx hy (by omega)
  have gx : ts.getD (es.getD i .zero).num 0 = ts[(es.getD i .zero).num] := by
    rw [List.getD_eq_getElem?_getD, List.getElem?_eq_getElem hx, Option.getD_some]
  have gy : ts.getD (es.getD (i + 1) .zero).num 0 = ts[(es.getD (i + 1) .zero).num] := by
    rw [List.getD_eq_getElem?_getD, List.getElem?_eq_getElem hy, Option.getD_some]
  omega
/-! #### one member's stretches among the places -/
section
variable {m : Mb} {ts : List Int} {es : List Tl}
/-- what the marked places are, for times that ascend -/
structure Ks (m : Mb) (n : Nat) (ks : List Nat) : Prop where
  lt : ∀ i j, i < j → j < ks.length → ks.getD i 0 < ks.getD j 0
  bd : ∀ j, j < ks.length → ks.getD j 0 < n
  pos : 0 < n → 0 < ks.length
  nil : n = 0 → ks = []
  last : m.1 = .last → 0 < n → ks.getD (ks.length - 1) 0 = n - 1
  first : ¬ m.1 = .last → 0 < n → ks.getD 0 0 = 0
theorem ks_of (h : Asc 1 ts) : Ks m ts.length (ksOf (letF m ts)) := by
  have l0 := letF_len m ts
  have key : ∀ j (hj : j < (ksOf (letF m ts)).length), (ksOf (letF m ts)).getD j 0 = (ksOf (letF m ts))[j] := fun j hj => by simp [hj]
  have some_of : ∀ i, (letF m ts)[i]? = some true → ∃ j, ∃ hj : j < (ksOf (letF m ts)).length, (ksOf (letF m ts))[j] = i := fun i hi => by
    obtain ⟨j, hj, e⟩ := List.getElem_of_mem (ks_mem.mpr hi)
    exact ⟨j, hj, e⟩
  refine ⟨fun i j hij hj => ?_, fun j hj => ?_, fun hn => ?_, fun hn => ?_, fun hm hn => ?_, fun hm hn => ?_⟩
  · rw [key i (by omega), key j hj]; exact ks_lt hj hij
  · rw [key j hj]; have := ks_bound hj; omega
  · by_cases hm : m.1 = .last
    · obtain ⟨j, hj, _⟩ := some_of _ (mark_last h hm hn); omega
    · obtain ⟨j, hj, _⟩ := some_of _ (mark_first h hm hn); omega
  · have : letF m ts = [] := List.eq_nil_of_length_eq_zero (by omega)
    rw [this]; rfl
  · obtain ⟨j, hj, e⟩ := some_of _ (mark_last h hm hn)
    rw [key _ (by omega)]
    have h1 := ks_le (bs := letF m ts) (i := j) (j := (ksOf (letF m ts)).length - 1) (by omega) (by omega)
    have h2 := ks_bound (bs := letF m ts) (j := (ksOf (letF m ts)).length - 1) (by omega)
    omega
  · obtain ⟨j, hj, e⟩ := some_of _ (mark_first h hm hn)
    rw [key _ (by omega)]
    have h1 := ks_le (bs := letF m ts) (i := 0) (j := j) hj (by omega)
    omega
variable {n : Nat} {ks : List Nat}
theorem lo_le (W : Ks m n ks) {j : Nat} (hj : j < ks.length) : loOf m ks j ≤ ks.getD j 0 := by
  unfold loOf
  split
  · split
    · omega
    · have := W.lt (j - 1) j (by omega) hj
      omega
  · omega
theorem le_hi (W : Ks m n ks) {j : Nat} (hj : j < ks.length) : ks.getD j 0 ≤ hiOf m ks n j := by
  unfold hiOf
  have hb := W.bd j hj
  split
  · omega
  · split
    · have := W.lt j (j + 1) (by omega) (by omega)
      omega
    · omega
theorem hi_lt (W : Ks m n ks) {j : Nat} (hj : j < ks.length) : hiOf m ks n j < n := by
  unfold hiOf
  have hb := W.bd j hj
  split
  · omega
  · split
    · have := W.bd (j + 1) (by omega)
      omega
    · omega
theorem lo_zero (W : Ks m n ks) (hn : 0 < n) : loOf m ks 0 = 0 := by
  unfold loOf
  split
  · rfl
  · rename_i hm
    exact W.first hm hn
theorem lo_next (W : Ks m n ks) {j : Nat} (hj : j + 1 < ks.length) : loOf m ks (j + 1) = hiOf m ks n j + 1 := by
  unfold loOf hiOf
  split
  · rw [if_neg (by omega)]
    rfl
  · have := W.lt j (j + 1) (by omega) hj
    omega
theorem hi_end (W : Ks m n ks) (hn : 0 < n) : hiOf m ks n (ks.length - 1) + 1 = n := by
  have hp := W.pos hn
  unfold hiOf
  split
  · rename_i hm
    rw [W.last hm hn]
    omega
  · rw [if_neg (by omega)]
    omega
end
theorem getD_map_range {β : Type} {f : Nat → β} {n k : Nat} {d : β} (hk : k < n) : ((List.range n).map f).getD k d = f k := by simp [hk]
theorem stepE_part {m : Mb} {ts : List Int} {es : List Tl} (h : Asc 1 ts) (P : Part ts.length es) : Part ts.length (stepE m ts es) := by
  have W := ks_of (m := m) (baseT_asc h P)
  rw [baseT_len] at W
  have hl : (stepE m ts es).length = (ksOf (letF m (baseT ts es))).length := by unfold stepE; simp
  have hg : ∀ k, k < (stepE m ts es).length → (stepE m ts es).getD k .zero = newE m es (ksOf (letF m (baseT ts es))) k := fun k hk => by
    rw [hl] at hk
    unfold stepE
    exact getD_map_range hk
  have hes : 0 < (stepE m ts es).length → 0 < es.length := fun q => by
    apply Nat.pos_of_ne_zero
    intro z
    have := W.nil z
    rw [hl, this] at q
    simp at q
  refine ⟨fun k hk => ?_, fun hp => ?_, fun k hk => ?_, fun hp => ?_, fun hn => ?_, fun hn => ?_⟩
  · rw [hg k hk]
    have hk' : k < (ksOf (letF m (baseT ts es))).length := by omega
    have a := lo_le W hk'
    have b := le_hi W hk'
    have c := hi_lt W hk'
    have d := W.bd k hk'
    have e1 := P.le_fst a d
    have e2 := P.le_lst b c
    have e3 := P.mid _ d
    exact ⟨Nat.le_trans e1 e3.1, Nat.le_trans e3.2 e2⟩
  · rw [hg 0 hp]
    show (es.getD (loOf m _ 0) .zero).fst = 0
    rw [lo_zero W (hes hp)]
    exact P.beg (hes hp)
  · rw [hg (k + 1) hk, hg k (by omega)]
    show (es.getD (loOf m _ (k + 1)) .zero).fst = (es.getD (hiOf m _ es.length k) .zero).lst + 1
    rw [lo_next W (by omega)]
    have c := hi_lt W (j := k + 1) (by omega)
    have l := lo_next W (j := k) (by omega)
    have d := lo_le W (j := k + 1) (by omega)
    have e := W.bd (k + 1) (by omega)
    exact P.nxt _ (by omega)
  · rw [hg _ (by omega)]
    show (es.getD (hiOf m _ es.length _) .zero).lst + 1 = ts.length
    have e := hi_end W (hes hp)
    rw [hl]
    rw [show hiOf m (ksOf (letF m (baseT ts es))) es.length ((ksOf (letF m (baseT ts es))).length - 1) = es.length - 1 by omega]
    exact P.fin (hes hp)
  · rw [hl]; exact W.pos (P.pos hn)
  · have := P.nil hn
    unfold stepE
    rw [W.nil (by rw [this]; rfl)]
    rfl
theorem initE_part (ts : List Int) : Part ts.length (initE ts) := by
  have hl : (initE ts).length = ts.length := by unfold initE; simp
  have hg : ∀ k, k < (initE ts).length → (initE ts).getD k .zero = ⟨k, k, k⟩ := fun k hk => by
    rw [hl] at hk
    unfold initE
    exact getD_map_range hk
  refine ⟨fun k hk => ?_, fun hp => ?_, fun k hk => ?_, fun hp => ?_, fun hn => ?_, fun hn => ?_⟩
  · rw [hg k hk]; exact ⟨Nat.le_refl _, Nat.le_refl _⟩
  · rw [hg 0 hp]
  · rw [hg (k + 1) hk, hg k (by omega)]
  · rw [hg _ (by omega)]; show (initE ts).length - 1 + 1 = ts.length; omega
  · omega
  · exact List.eq_nil_of_length_eq_zero (by omega)
/-- whom the law takes for the speaker is whose stretch holds the place -/
theorem spk_iff {m : Mb} {bt : List Int} {ks : List Nat} (h : Asc 1 bt) (W : Ks m bt.length ks) {k j : Nat} (hk : k < bt.length) (hs : Spk m (ks.map fun a => bt.getD a 0) (bt.getD k 0) j) : j < ks.length ∧ loOf m ks j ≤ k ∧ k ≤ hiOf m ks bt.length j := by
  have hb : ∀ a, a < bt.length → bt.getD a 0 = bt.getD a 0 := fun _ _ => rfl
  have le : ∀ {a b : Nat}, a < bt.length → b < bt.length → (bt.getD a 0 ≤ bt.getD b 0 ↔ a ≤ b) := fun {a b} ha hb => by
    have := asc_le_iff h ha hb
    simpa [ha, hb] using this
  have kept : ∀ {j : Nat} (hj : j < ks.length), (ks.map fun a => bt.getD a 0)[j]? = some (bt.getD (ks.getD j 0) 0) := fun {j} hj => by simp [hj]
  unfold Spk at hs
  split at hs
  · rename_i hm
    obtain ⟨x, hx, hle, hall⟩ := hs
    have hj : j < ks.length := by have := (List.getElem?_eq_some_iff.mp hx).1; simpa using this
    rw [kept hj] at hx
    cases Option.some.inj hx
    refine ⟨hj, ?_, ?_⟩
    · unfold loOf
      rw [if_pos hm]
      split
      · omega
      · have q := hall (j - 1) _ (by omega) (kept (by omega))
        have := le (a := k) (b := ks.getD (j - 1) 0) hk (W.bd _ (by omega))
        omega
    · unfold hiOf
      rw [if_pos hm]
      exact (le hk (W.bd j hj)).mp hle
  · rename_i hm
    obtain ⟨x, hx, hle, hall⟩ := hs
    have hj : j < ks.length := by have := (List.getElem?_eq_some_iff.mp hx).1; simpa using this
    rw [kept hj] at hx
    cases Option.some.inj hx
    refine ⟨hj, ?_, ?_⟩
    · unfold loOf
      rw [if_neg hm]
      exact (le (W.bd j hj) hk).mp hle
    · unfold hiOf
      rw [if_neg hm]
      split
      · rename_i hj1
        have q := hall (j + 1) _ (by omega) (kept hj1)
        have := le (a := ks.getD (j + 1) 0) (b := k) (W.bd _ hj1) hk
        omega
      · omega
theorem has_spk {m : Mb} {bt : List Int} {ks : List Nat} (h : Asc 1 bt) (W : Ks m bt.length ks) {k : Nat} (hk : k < bt.length) : HasSpk m (ks.map fun a => bt.getD a 0) (bt.getD k 0) := by
  have le : ∀ {a b : Nat}, a < bt.length → b < bt.length → a ≤ b → bt.getD a 0 ≤ bt.getD b 0 := fun {a b} ha hb hab => by
    have := (asc_le_iff h ha hb).mpr hab
    simpa [ha, hb] using this
  have hn : 0 < bt.length := by omega
  have hp := W.pos hn
  have mem : ∀ j, j < ks.length → bt.getD (ks.getD j 0) 0 ∈ (ks.map fun a => bt.getD a 0) := fun j hj => List.mem_map.mpr ⟨ks[j], List.getElem_mem hj, by simp [hj]⟩
  unfold HasSpk
  split
  · rename_i hm
    refine ⟨_, mem (ks.length - 1) (by omega), le hk (W.bd _ (by omega)) ?_⟩
    rw [W.last hm hn]; omega
  · rename_i hm
    refine ⟨_, mem 0 hp, le (W.bd _ hp) hk ?_⟩
    rw [W.first hm hn]; omega
/-! ### the law's own run -/
structure LInv (ts : List Int) (es : List Tl) (numbers speaks : List Int) : Prop where
  part : Part ts.length es
  nums : numbers = es.map fun e => (e.num : Int)
  len : speaks.length = ts.length
  spk : ∀ (a : Nat) (k : Int), speaks[a]? = some k → ∃ kk : Nat, k = kk ∧ kk < es.length ∧ (es.getD kk .zero).fst ≤ a ∧ a ≤ (es.getD kk .zero).lst
theorem Part.uniq {n : Nat} {es : List Tl} (P : Part n es) {i j a : Nat} (hi : i < es.length) (hj : j < es.length) (h1 : (es.getD i .zero).fst ≤ a) (h2 : a ≤ (es.getD i .zero).lst) (h3 : (es.getD j .zero).fst ≤ a) (h4 : a ≤ (es.getD j .zero).lst) : i = j := by
  rcases Nat.lt_trichotomy i j with e | e | e
  · have := P.lt j i e hj; omega
  · exact e
  · have := P.lt i j e hi; omega
theorem LInv.init (ts : List Int) : LInv ts (initE ts) ((List.range ts.length).map fun (i : Nat) => (i : Int)) ((List.range ts.length).map fun (i : Nat) => (i : Int)) := by
  have hl : (initE ts).length = ts.length := by unfold initE; simp
  refine ⟨initE_part ts, ?_, by simp, fun a k h => ?_⟩
  · unfold initE
    rw [List.map_map]
    rfl
  · rw [List.getElem?_map] at h
    have ha : a < ts.length := by
      apply Nat.not_le.mp
      intro q
      rw [List.getElem?_eq_none (by simpa using q)] at h
      cases h
    rw [List.getElem?_range ha] at h
    cases Option.some.inj h
    refine ⟨a, rfl, by omega, ?_⟩
    have : (initE ts).getD a .zero = ⟨a, a, a⟩ := by unfold initE; exact getD_map_range ha
    rw [this]
    exact ⟨Nat.le_refl _, Nat.le_refl _⟩
theorem LInv.step {ts : List Int} {es : List Tl} {numbers speaks numbers' speaks' : List Int} {m : Mb} (h : Asc 1 ts) (I : LInv ts es numbers speaks)
    (hn : numbers' = (ksOf (letF m (baseT ts es))).map fun a => numbers.getD a 0) (hl : speaks'.length = speaks.length)
    (hs : ∀ (a : Nat) (k k' : Int), speaks[a]? = some k → speaks'[a]? = some k' → ∃ kk : Nat, k' = kk ∧ Spk m ((ksOf (letF m (baseT ts es))).map fun a => (baseT ts es).getD a 0) ((baseT ts es).getD k.toNat 0) kk) : LInv ts (stepE m ts es) numbers' speaks' := by
  have hb := baseT_asc h I.part
  have W := ks_of (m := m) hb
  have hl' : (stepE m ts es).length = (ksOf (letF m (baseT ts es))).length := by unfold stepE; simp
  refine ⟨stepE_part h I.part, ?_, by rw [hl, I.len], fun a k' h2 => ?_⟩
  · rw [hn]
    unfold stepE
    rw [List.map_map, I.nums]
    apply List.ext_getElem
    · simp
    · intro j h1 h2
      simp at h1
      have hk := ks_bound (bs := letF m (baseT ts es)) h1
      rw [letF_len, baseT_len] at hk
      simp [newE, h1, hk]
  · have ha : a < speaks.length := by
      rw [← hl]
      exact (List.getElem?_eq_some_iff.mp h2).1
    obtain ⟨kk, e, hkk, b1, b2⟩ := I.spk a _ (List.getElem?_eq_getElem ha)
    obtain ⟨j, e', hj⟩ := hs a _ k' (List.getElem?_eq_getElem ha) h2
    rw [e] at hj
    have hk' : kk < (baseT ts es).length := by rw [baseT_len]; exact hkk
    obtain ⟨j1, j2, j3⟩ := spk_iff hb W hk' hj
    rw [baseT_len] at j3 W
    refine ⟨j, e', by omega, ?_⟩
    have hg : (stepE m ts es).getD j .zero = newE m es (ksOf (letF m (baseT ts es))) j := by unfold stepE; exact getD_map_range j1
    rw [hg]
    have c1 := hi_lt W j1
    exact ⟨Nat.le_trans (I.part.le_fst j2 hkk) b1, Nat.le_trans b2 (I.part.le_lst j3 c1)⟩
/-- for whom an event speaks: the first and the last one -/
theorem LInv.mine {ts : List Int} {es : List Tl} {numbers speaks : List Int} (I : LInv ts es numbers speaks) {k : Nat} (hk : k < es.length) (a : Nat) : (∃ z, speaks[a]? = some z ∧ z = (k : Int)) ↔ ((es.getD k .zero).fst ≤ a ∧ a ≤ (es.getD k .zero).lst) := by
  constructor
  · rintro ⟨z, h, rfl⟩
    obtain ⟨kk, e, hkk, b⟩ := I.spk a _ h
    have : k = kk := by omega
    subst this
    exact b
  · rintro ⟨h1, h2⟩
    have ha : a < speaks.length := by
      rw [I.len]
      have := I.part.bound hk
      omega
    obtain ⟨kk, e, hkk, b1, b2⟩ := I.spk a _ (List.getElem?_eq_getElem ha)
    have := I.part.uniq hk hkk h1 h2 b1 b2
    subst this
    exact ⟨_, List.getElem?_eq_getElem ha, e⟩
theorem tellE_snoc (ms : List Mb) (m : Mb) (ts : List Int) : tellE (ms ++ [m]) ts = stepE m ts (tellE ms ts) := by unfold tellE; rw [List.foldl_append]; rfl
theorem lateOf_snoc (ms : List Mb) (m : Mb) : lateOf (ms ++ [m]) = lateOf ms + lagOf m := by unfold lateOf; rw [List.foldl_append]; rfl
theorem LInv.times {ts : List Int} {es : List Tl} {numbers speaks : List Int} (I : LInv ts es numbers speaks) : (numbers.map fun z => ts.getD z.toNat 0) = baseT ts es := by
  rw [I.nums]
  unfold baseT
  rw [List.map_map]
  apply List.map_congr_left
  intro e _
  simp
theorem LInv.bound {ts : List Int} {es : List Tl} {numbers speaks : List Int} (I : LInv ts es numbers speaks) {z : Int} (h : z ∈ numbers) : 0 ≤ z ∧ z.toNat < ts.length := by
  rw [I.nums] at h
  obtain ⟨e, he, rfl⟩ := List.mem_map.mp h
  obtain ⟨k, hk, hke⟩ := List.getElem_of_mem he
  have h1 := I.part.mid k hk
  have h2 := I.part.bound hk
  have : es.getD k .zero = e := by simp [hk, hke]
  rw [this] at h1 h2
  exact ⟨by omega, by simp; omega⟩
theorem LInv.lens {ts : List Int} {es : List Tl} {numbers speaks : List Int} (I : LInv ts es numbers speaks) : numbers.length = es.length := by rw [I.nums]; simp
theorem Part.len {n : Nat} {es : List Tl} (P : Part n es) : es.length ≤ n := by
  have key : ∀ k, k < es.length → k ≤ (es.getD k .zero).fst := by
    intro k
    induction k with
    | zero => intro _; omega
    | succ k ih =>
      intro hk
      have h1 := P.nxt k hk
      have h2 := ih (by omega)
      have h3 := P.mid k (by omega)
      omega
  by_cases e : es.length = 0
  · omega
  · have h1 := key (es.length - 1) (by omega)
    have h2 := P.fin (by omega)
    have h3 := P.mid (es.length - 1) (by omega)
    omega
theorem ix_at {ts : List Int} {z : Int} (h : 0 ≤ z ∧ z.toNat < ts.length) : atI (ts.map V.int) z = some (V.int (ts.getD z.toNat 0)) :=
  at_of (j := z.toNat) (by omega) (by simp [h.2])
/-- a told event as the law writes it: (number, time, first, last) -/
def RowV (H : Hp) (r : Int × Int × Int × Int) (v : V) : Prop := ∃ p, v = .ref p ∧ H p = some (.tup [.int r.1, .int r.2.1, .int r.2.2.1, .int r.2.2.2])
def rowsOf (ms : List Mb) (ts : List Int) : List (Int × Int × Int × Int) := (tellE ms ts).map fun e => ((e.num : Int), ts.getD e.num 0 + lateOf ms, (e.fst : Int), (e.lst : Int))
def spRun (K : PySem.W.Frag) : Sp := fun vs H Q _ => ∃ (g l : Addr) (ms : List Mb) (xs : List V) (ts : List Int), vs = [.ref g, .ref l] ∧ SqL K H g xs ∧ Each (PairV H) ms xs ∧ SqL K H l (ts.map V.int) ∧ (Asc 1 ts ∧ ts.length ≤ 30000 ∧ ms.length ≤ 10000) ∧
  ∀ H' p ys, Same H H' → H p = none → H' p = some (.lst ys) → Each (RowV H') (rowsOf ms ts) ys → Q (.ref p) H'
theorem RowV.vp {H H' : Hp} (k : VP H H') {r : Int × Int × Int × Int} {v : V} (h : RowV H r v) : RowV H' r v := by
  obtain ⟨p, e, q⟩ := h
  exact ⟨p, e, k.1 _ _ q⟩
/-- the row of an event -/
def rowOf (ts : List Int) (late : Int) (e : Tl) : Int × Int × Int × Int := ((e.num : Int), ts.getD e.num 0 + late, (e.fst : Int), (e.lst : Int))
theorem rows_eq (ms : List Mb) (ts : List Int) : rowsOf ms ts = (tellE ms ts).map (rowOf ts (lateOf ms)) := rfl
theorem mine_mem {ts : List Int} {es : List Tl} {numbers speaks : List Int} (I : LInv ts es numbers speaks) {k : Nat} (hk : k < es.length) {z : Int} : z ∈ placesOf speaks (fun x => decide (x = (k : Int))) ↔ ∃ a : Nat, z = (a : Int) ∧ (es.getD k .zero).fst ≤ a ∧ a ≤ (es.getD k .zero).lst := by
  rw [mem_places]
  constructor
  · rintro ⟨a, x, rfl, hx, hp⟩
    exact ⟨a, rfl, (I.mine hk a).mp ⟨x, hx, of_decide_eq_true hp⟩⟩
  · rintro ⟨a, rfl, h⟩
    obtain ⟨x, hx, e⟩ := (I.mine hk a).mpr h
    exact ⟨a, x, rfl, hx, decide_eq_true e⟩
theorem mine_min {ts : List Int} {es : List Tl} {numbers speaks : List Int} (I : LInv ts es numbers speaks) {k : Nat} (hk : k < es.length) {z : Int} (h1 : z ∈ placesOf speaks (fun x => decide (x = (k : Int)))) (h2 : ∀ y, y ∈ placesOf speaks (fun x => decide (x = (k : Int))) → z ≤ y) : z = ((es.getD k .zero).fst : Int) := by
  obtain ⟨a, rfl, b1, b2⟩ := (mine_mem I hk).mp h1
  have := h2 _ ((mine_mem I hk).mpr ⟨(es.getD k .zero).fst, rfl, Nat.le_refl _, by have := I.part.mid k hk; omega⟩)
  omega
theorem mine_max {ts : List Int} {es : List Tl} {numbers speaks : List Int} (I : LInv ts es numbers speaks) {k : Nat} (hk : k < es.length) {z : Int} (h1 : z ∈ placesOf speaks (fun x => decide (x = (k : Int)))) (h2 : ∀ y, y ∈ placesOf speaks (fun x => decide (x = (k : Int))) → y ≤ z) : z = ((es.getD k .zero).lst : Int) := by
  obtain ⟨a, rfl, b1, b2⟩ := (mine_mem I hk).mp h1
  have := h2 _ ((mine_mem I hk).mpr ⟨(es.getD k .zero).lst, rfl, by have := I.part.mid k hk; omega, Nat.le_refl _⟩)
  omega
theorem mine_pos {ts : List Int} {es : List Tl} {numbers speaks : List Int} (I : LInv ts es numbers speaks) {k : Nat} (hk : k < es.length) : 0 < (placesOf speaks (fun x => decide (x = (k : Int)))).length :=
  List.length_pos_of_mem ((mine_mem I hk).mpr ⟨(es.getD k .zero).fst, rfl, Nat.le_refl _, by have := I.part.mid k hk; omega⟩)
end My

set_option Elab.async false
set_option linter.all false
set_option maxRecDepth 100000
set_option maxHeartbeats 4000000
namespace My
open PySem PySem.Spec PyProof.Rows L2
/-! ### the stretches, as the program finds them -/
abbrev T3 := Nat × Nat × Nat
def strOf (m : Mb) (ts : List Int) : List T3 := (List.range (ksOf (letF m ts)).length).map fun j => ((ksOf (letF m ts)).getD j 0, loOf m (ksOf (letF m ts)) j, hiOf m (ksOf (letF m ts)) ts.length j)
/-! #### a move in time changes no mark -/
theorem filter_move (c : Int) (p : Int → Bool) (l : List Int) : (l.map (· + c)).filter p = (l.filter (fun x => p (x + c))).map (· + c) := by
  rw [List.filter_map]
  rfl
theorem markOf_move (m : Mb) (c : Int) (ts before : List Int) (t : Int) : markOf m (ts.map (· + c)) (before.map (· + c)) (t + c) = markOf m ts before t := by
  obtain ⟨kd, q⟩ := m
  unfold markOf
  cases kd
  · simp only [filter_move, List.map_eq_nil_iff]
    congr 2
    apply List.filter_congr
    intro x _
    congr 1 <;> exact decide_eq_decide.mpr (by omega)
  · simp only [filter_move, List.map_eq_nil_iff]
    congr 2
    apply List.filter_congr
    intro x _
    congr 1 <;> exact decide_eq_decide.mpr (by omega)
  · simp only [filter_move, List.map_eq_nil_iff]
    congr 2
    apply List.filter_congr
    intro x _
    exact decide_eq_decide.mpr (by omega)
  · rfl
theorem letSt_move (m : Mb) (c : Int) (ts : List Int) : ∀ (us : List Int) (st : List Bool × List Int), ((us.map (· + c)).foldl (letStep m (ts.map (· + c))) (st.1, st.2.map (· + c))) = ((us.foldl (letStep m ts) st).1, (us.foldl (letStep m ts) st).2.map (· + c))
  | [], st => rfl
  | t :: us, st => by
    rw [List.map_cons, List.foldl_cons, List.foldl_cons, ← letSt_move m c ts us (letStep m ts st t)]
    congr 1
    unfold letStep
    simp only [markOf_move]
    congr 1
    split
    · simp
    · rfl
theorem letF_move (m : Mb) (c : Int) (ts : List Int) : letF m (ts.map (· + c)) = letF m ts := by
  have h := letSt_move m c ts ts ([], [])
  have h2 := congrArg (fun z : List Bool × List Int => z.1) h
  exact h2
theorem strOf_move (m : Mb) (c : Int) (ts : List Int) : strOf m (ts.map (· + c)) = strOf m ts := by
  unfold strOf
  rw [letF_move, List.length_map]
theorem asc_move {c : Int} {ts : List Int} (h : Asc 1 ts) : Asc 1 (ts.map (· + c)) := by
  intro i x y h1 h2
  rw [List.getElem?_map] at h1 h2
  cases e1 : ts[i]? with
  | none => rw [e1] at h1; cases h1
  | some a =>
    cases e2 : ts[i + 1]? with
    | none => rw [e2] at h2; cases h2
    | some b =>
      rw [e1] at h1
      rw [e2] at h2
      have := h i a b e1 e2
      cases Option.some.inj h1
      cases Option.some.inj h2
      simp only
      omega
/-! #### the marks by neighbours -/
theorem filter_nil_iff {α : Type} {p : α → Bool} {l : List α} : l.filter p = [] ↔ ∀ x ∈ l, p x = false := by
  rw [List.filter_eq_nil_iff]
  constructor
  · intro h x hx
    exact Bool.eq_false_iff.mpr (h x hx)
  · intro h x hx
    rw [h x hx]
    decide
theorem mark_last_at {q : Int} {ts : List Int} (h : Asc 1 ts) {i : Nat} (hi : i < ts.length) : (letF (.last, q) ts).getD i false = decide (i + 1 = ts.length ∨ ts.getD (i + 1) 0 - ts.getD i 0 ≥ q) := by
  rw [List.getD_eq_getElem?_getD, letF_get _ _ hi]
  show decide (ts.filter (fun o => decide (ts[i] < o) && decide (o < ts[i] + q)) = []) = _
  apply decide_eq_decide.mpr
  rw [filter_nil_iff]
  have gi : ts.getD i 0 = ts[i] := by simp [hi]
  rw [gi]
  constructor
  · intro hall
    by_cases e : i + 1 = ts.length
    · exact .inl e
    · right
      have hi1 : i + 1 < ts.length := by omega
      have g1 : ts.getD (i + 1) 0 = ts[i + 1] := by simp [hi1]
      rw [g1]
      have := hall ts[i + 1] (List.getElem_mem hi1)
      have lt := asc_lt h (i + 1) i hi hi1 (by omega)
      simp only [Bool.and_eq_false_iff, decide_eq_false_iff_not] at this
      omega
  · intro hor x hx
    obtain ⟨j, hj, rfl⟩ := List.getElem_of_mem hx
    simp only [Bool.and_eq_false_iff, decide_eq_false_iff_not]
    by_cases hle : j ≤ i
    · left
      have := (asc_le_iff h hj hi).mpr hle
      omega
    · right
      have hi1 : i + 1 < ts.length := by omega
      have g1 : ts.getD (i + 1) 0 = ts[i + 1] := by simp [hi1]
      have := (asc_le_iff h hi1 hj).mpr (by omega)
      rcases hor with e | e
      · omega
      · rw [g1] at e
        omega
theorem mark_first_at {q : Int} {ts : List Int} (h : Asc 1 ts) {i : Nat} (hi : i < ts.length) : (letF (.first, q) ts).getD i false = decide (i = 0 ∨ ts.getD i 0 - ts.getD (i - 1) 0 ≥ q) := by
  rw [List.getD_eq_getElem?_getD, letF_get _ _ hi]
  show decide (ts.filter (fun o => decide (ts[i] - q < o) && decide (o < ts[i])) = []) = _
  apply decide_eq_decide.mpr
  rw [filter_nil_iff]
  have gi : ts.getD i 0 = ts[i] := by simp [hi]
  rw [gi]
  constructor
  · intro hall
    by_cases e : i = 0
    · exact .inl e
    · right
      have hi1 : i - 1 < ts.length := by omega
      have g1 : ts.getD (i - 1) 0 = ts[i - 1] := by simp [hi1]
      rw [g1]
      have := hall ts[i - 1] (List.getElem_mem hi1)
      have lt := asc_lt h i (i - 1) hi1 hi (by omega)
      simp only [Bool.and_eq_false_iff, decide_eq_false_iff_not] at this
      omega
  · intro hor x hx
    obtain ⟨j, hj, rfl⟩ := List.getElem_of_mem hx
    simp only [Bool.and_eq_false_iff, decide_eq_false_iff_not]
    by_cases hle : i ≤ j
    · right
      have := (asc_le_iff h hi hj).mpr hle
      omega
    · left
      have hi1 : i - 1 < ts.length := by omega
      have g1 : ts.getD (i - 1) 0 = ts[i - 1] := by simp [hi1]
      have := (asc_le_iff h hj hi1).mpr (by omega)
      rcases hor with e | e
      · omega
      · rw [g1] at e
        omega
/-- the marked places below i -/
def ksTo (m : Mb) (ts : List Int) (i : Nat) : List Nat := (List.range i).filter (fun a => (letF m ts).getD a false)
theorem ksTo_all (m : Mb) (ts : List Int) : ksTo m ts ts.length = ksOf (letF m ts) := by unfold ksTo ksOf; rw [letF_len]
theorem ksTo_succ (m : Mb) (ts : List Int) (i : Nat) : ksTo m ts (i + 1) = if (letF m ts).getD i false = true then ksTo m ts i ++ [i] else ksTo m ts i := by
  unfold ksTo
  rw [List.range_succ, List.filter_append]
  split
  · rename_i hc
    rw [List.filter_cons, if_pos hc]
    rfl
  · rename_i hc
    rw [List.filter_cons, if_neg hc]
    exact List.append_nil _
/-- what Limit told before is what was marked -/
theorem before_ks (m : Mb) (ts : List Int) : ∀ i, i ≤ ts.length → (letSt m ts (ts.take i)).2 = (ksTo m ts i).map fun a => ts.getD a 0 := by
  intro i
  induction i with
  | zero => intro _; rfl
  | succ i ih =>
    intro hi
    have hi' : i < ts.length := by omega
    rw [take_snoc (List.getElem?_eq_getElem hi'), letSt_snoc, ksTo_succ]
    have hm : (letF m ts).getD i false = markOf m ts (letSt m ts (ts.take i)).2 ts[i] := by
      rw [List.getD_eq_getElem?_getD, letF_get _ _ hi']
      rfl
    rw [hm]
    unfold letStep
    simp only
    split
    · rw [ih (by omega), List.map_append]
      simp [hi']
    · exact ih (by omega)
theorem ksTo_bound {m : Mb} {ts : List Int} {i a : Nat} (h : a ∈ ksTo m ts i) : a < i := by
  unfold ksTo at h
  exact List.mem_range.mp (List.mem_filter.mp h).1
theorem ksTo_lt {m : Mb} {ts : List Int} {i a b : Nat} (hb : b < (ksTo m ts i).length) (hab : a < b) : (ksTo m ts i)[a] < (ksTo m ts i)[b] := by
  have h : (ksTo m ts i).Pairwise (· < ·) := List.Pairwise.filter _ List.pairwise_lt_range
  exact List.pairwise_iff_getElem.mp h a b (by omega) hb hab
theorem mark_limit_at {q : Int} {ts : List Int} (h : Asc 1 ts) {i : Nat} (hi : i < ts.length) : (letF (.limit, q) ts).getD i false = decide (ksTo (.limit, q) ts i = [] ∨ ts.getD i 0 - ts.getD ((ksTo (.limit, q) ts i).getD ((ksTo (.limit, q) ts i).length - 1) 0) 0 ≥ q) := by
  rw [List.getD_eq_getElem?_getD, letF_get _ _ hi]
  show decide (((letSt (.limit, q) ts (ts.take i)).2).filter (fun o => decide (ts[i] - q < o)) = []) = _
  rw [before_ks _ _ i (by omega)]
  apply decide_eq_decide.mpr
  rw [filter_nil_iff]
  have gi : ts.getD i 0 = ts[i] := by simp [hi]
  rw [gi]
  generalize hk : ksTo (.limit, q) ts i = ks
  constructor
  · intro hall
    by_cases e : ks = []
    · exact .inl e
    · right
      have hp : 0 < ks.length := List.length_pos_iff.mpr e
      have hl : ks.length - 1 < ks.length := by omega
      have g1 : ks.getD (ks.length - 1) 0 = ks[ks.length - 1] := by simp [hl]
      rw [g1]
      have := hall (ts.getD ks[ks.length - 1] 0) (List.mem_map.mpr ⟨_, List.getElem_mem hl, rfl⟩)
      simp only [decide_eq_false_iff_not] at this
      omega
  · intro hor x hx
    obtain ⟨a, ha, rfl⟩ := List.mem_map.mp hx
    simp only [decide_eq_false_iff_not]
    obtain ⟨j, hj, rfl⟩ := List.getElem_of_mem ha
    have hl : ks.length - 1 < ks.length := by omega
    have g1 : ks.getD (ks.length - 1) 0 = ks[ks.length - 1] := by simp [hl]
    rcases hor with e | e
    · rw [e] at hj; simp at hj
    · rw [g1] at e
      have b1 : ks[ks.length - 1] < i := ksTo_bound (m := (.limit, q)) (ts := ts) (by rw [hk]; exact List.getElem_mem hl)
      have b2 : ks[j] < i := ksTo_bound (m := (.limit, q)) (ts := ts) (by rw [hk]; exact List.getElem_mem hj)
      have b3 : ks[j] ≤ ks[ks.length - 1] := by
        rcases Nat.lt_or_eq_of_le (show j ≤ ks.length - 1 by omega) with z | z
        · subst hk
          exact Nat.le_of_lt (ksTo_lt hl z)
        · simp [z]
      have t1 : ts.getD ks[ks.length - 1] 0 = ts[ks[ks.length - 1]]'(by omega) := by simp [show ks[ks.length - 1] < ts.length by omega]
      have t2 : ts.getD ks[j] 0 = ts[ks[j]]'(by omega) := by simp [show ks[j] < ts.length by omega]
      have := (asc_le_iff h (i := ks[j]) (j := ks[ks.length - 1]) (by omega) (by omega)).mpr b3
      omega
theorem mark_delay_at {q : Int} {ts : List Int} {i : Nat} (hi : i < ts.length) : (letF (.delay, q) ts).getD i false = true := by
  rw [List.getD_eq_getElem?_getD, letF_get _ _ hi]
  rfl
theorem ks_delay (q : Int) (ts : List Int) : ksOf (letF (.delay, q) ts) = List.range ts.length := by
  unfold ksOf
  rw [letF_len]
  apply List.filter_eq_self.mpr
  intro a ha
  exact mark_delay_at (List.mem_range.mp ha)
/-- (place, first, last) as a tuple -/
def T3V (H : Hp) (r : T3) (v : V) : Prop := ∃ p, v = .ref p ∧ H p = some (.tup [.int (r.1 : Int), .int (r.2.1 : Int), .int (r.2.2 : Int)])
theorem T3V.vp {H H' : Hp} (k : VP H H') {r : T3} {v : V} (h : T3V H r v) : T3V H' r v := by
  obtain ⟨p, e, q⟩ := h
  exact ⟨p, e, k.1 _ _ q⟩
def spLag (C : Addr) (f : Str) : Sp := fun vs H Q _ => ∃ (a dx : Addr) (n : Int), vs = [.ref a] ∧ H a = some (.ins C dx [(f, .int n)]) ∧ Q (.int n) H
def spLag0 (C : Addr) (f : Str) : Sp := fun vs H Q _ => ∃ (a dx : Addr) (n : Int), vs = [.ref a] ∧ H a = some (.ins C dx [(f, .int n)]) ∧ Q (.int 0) H
/-- a member's stretches -/
def spStr (K : PySem.W.Frag) (kd : Kd) : Sp := fun vs H Q _ => ∃ (a l dx : Addr) (n : Int) (ts : List Int), vs = [.ref a, .ref l] ∧ H a = some (.ins (kd.cls K) dx [(kd.fld, .int n)]) ∧ H l = some (.lst (ts.map V.int)) ∧ (Asc 1 ts ∧ ts.length ≤ 30000) ∧
  ∀ H' p ys, Same H H' → H p = none → H' p = some (.lst ys) → Each (T3V H') (strOf (kd, n) ts) ys → Q (.ref p) H'
/-- stretches_from -/
def spFrom (K : PySem.W.Frag) : Sp := fun vs H Q _ => ∃ (l : Addr) (hs : List Nat) (n : Nat), vs = [.ref l, .int (n : Int)] ∧ H l = some (.lst ((hs.map fun (i : Nat) => (i : Int)).map V.int)) ∧ (hs.length ≤ 30000 ∧ ∀ j, j + 1 < hs.length → 1 ≤ hs.getD (j + 1) 0) ∧ (hs ≠ [] → 1 ≤ n) ∧
  ∀ H' p ys, Same H H' → H p = none → H' p = some (.lst ys) → Each (T3V H') ((List.range hs.length).map fun j => (hs.getD j 0, hs.getD j 0, if j + 1 < hs.length then hs.getD (j + 1) 0 - 1 else n - 1)) ys → Q (.ref p) H'
/-- the first so many stretches of Last -/
theorem last_begin {q : Int} {ts : List Int} {i : Nat} (hi : i < ts.length) (hm : (letF (.last, q) ts).getD i false = true) : (strOf (.last, q) ts)[(ksTo (.last, q) ts i).length]? = some (i, (if (ksTo (.last, q) ts i).length = 0 then 0 else (ksTo (.last, q) ts i).getD ((ksTo (.last, q) ts i).length - 1) 0 + 1), i) := by
  have hsplit : ksOf (letF (.last, q) ts) = ksTo (.last, q) ts i ++ i :: ((List.range (ts.length - (i + 1))).map (· + (i + 1))).filter (fun a => (letF (.last, q) ts).getD a false) := by
    rw [← ksTo_all]
    unfold ksTo
    conv => lhs; rw [show ts.length = i + (1 + (ts.length - (i + 1))) by omega]
    rw [List.range_add, List.filter_append]
    congr 1
    rw [List.range_add, List.map_append, List.filter_append]
    simp only [List.range_one, List.map_cons, List.map_nil, Nat.add_zero, List.map_map]
    rw [List.filter_cons, if_pos hm]
    show i :: ([] ++ _) = _
    rw [List.nil_append]
    congr 2
    apply List.map_congr_left
    intro a _
    simp only [Function.comp]
    omega
  have hlen : (ksTo (.last, q) ts i).length < (ksOf (letF (.last, q) ts)).length := by rw [hsplit]; simp
  unfold strOf
  rw [List.getElem?_map, List.getElem?_range hlen]
  have g0 : (ksOf (letF (.last, q) ts)).getD (ksTo (.last, q) ts i).length 0 = i := by rw [hsplit]; simp
  rw [Option.map_some]
  rw [g0]
  congr 2
  unfold loOf hiOf
  rw [if_pos rfl, if_pos rfl, g0]
  congr 1
  split
  · rfl
  · rename_i hne
    rw [hsplit, List.getD_eq_getElem?_getD, List.getD_eq_getElem?_getD, List.getElem?_append_left (by omega)]
theorem strOf_len (m : Mb) (ts : List Int) : (strOf m ts).length = (ksOf (letF m ts)).length := by unfold strOf; simp
def spRowInit (K : PySem.W.Frag) : Sp := fun vs H Q _ => ∃ (p dx l : Addr) (xs : List V) (ms : List Mb), vs = [.ref p, .ref l] ∧ H p = some (.ins (He.ga K "Row") dx []) ∧ H l = some (.lst xs) ∧ Each (MemV K H) ms xs ∧ ms.length ≤ 10000 ∧
  ∀ H' q, But p H H' → H q = none → H' q = some (.tup xs) → H' p = some (.ins (He.ga K "Row") dx [("members", .ref q)]) → Q .non H'
def toldF (a b c d : Int) : List (Str × V) := [("number", .int a), ("time", .int b), ("first", .int c), ("last", .int d)]
def spToldInit (K : PySem.W.Frag) : Sp := fun vs H Q _ => ∃ (p dx : Addr) (a b c d : Int), vs = [.ref p, .int a, .int b, .int c, .int d] ∧ H p = some (.ins (He.ga K "Told") dx []) ∧ ∀ H', But p H H' → H' p = some (.ins (He.ga K "Told") dx (toldF a b c d)) → Q .non H'
/-- a told event as an object -/
def ToldV (K : PySem.W.Frag) (H : Hp) (r : Int × Int × Int × Int) (v : V) : Prop := ∃ a dx, v = .ref a ∧ H a = some (.ins (He.ga K "Told") dx (toldF r.1 r.2.1 r.2.2.1 r.2.2.2))
theorem ToldV.vp {K : PySem.W.Frag} {H H' : Hp} (k : VP H H') {r : Int × Int × Int × Int} {v : V} (h : ToldV K H r v) : ToldV K H' r v := by
  obtain ⟨a, dx, e, q⟩ := h
  exact ⟨a, dx, e, k.2 _ _ _ _ q⟩
theorem dec_int {a b : Int} (h : decide (V.int a = V.int b) = true) : a = b := by simpa using h
theorem dec_nint {a b : Int} (h : ¬ decide (V.int a = V.int b) = true) : a ≠ b := by simpa using h
theorem ix_nat {ts : List Int} {i : Nat} (h : i < ts.length) {z : Int} (e : z = (i : Int)) : atI (ts.map V.int) z = some (V.int (ts.getD i 0)) := by
  subst e
  exact at_of (j := i) rfl (by simp [h])
theorem mark_true {m : Mb} {ts : List Int} {i : Nat} (h : (letF m ts).getD i false = true) : ksTo m ts (i + 1) = ksTo m ts i ++ [i] := by rw [ksTo_succ, if_pos h]
theorem mark_false {m : Mb} {ts : List Int} {i : Nat} (h : ¬ (letF m ts).getD i false = true) : ksTo m ts (i + 1) = ksTo m ts i := by rw [ksTo_succ, if_neg h]
theorem ksTo_len (m : Mb) (ts : List Int) (i : Nat) : (ksTo m ts i).length ≤ i := by
  unfold ksTo
  exact Nat.le_trans (List.length_filter_le _ _) (by rw [List.length_range]; exact Nat.le_refl _)
/-! ### lists made together -/
theorem el_catS {K : PySem.W.Frag} {σ : L2.St} {H : Hp} {ta tb : TE} {xs ys : List V} (ha : Evl.EvL ta σ H xs) (hb : Evl.EvL tb σ H ys) (hz : xs.length + ys.length ≤ 80000) : Evl.EvL (tOp (rCatS K) ta tb) σ H (xs ++ ys) := fun H1 e Q q =>
  ha H1 e _ fun p H2 np e2 hp => hb H2 (e.trans e2) _ fun p2 H3 np2 e3 hp2 => ⟨p, p2, xs, ys, rfl, rfl, SqL.of (e3 _ _ hp), SqL.of hp2, Nat.le_of_lt (Evl.sz_lt (by omega)), fun r hr => q r _ (Evl.fresh_back (e2.trans e3) hr) ((e2.trans e3).trans (Evl.Ex.new hr)) upd_same⟩
/-- elements that a reading gives, over pairs; what they are may speak of the heap -/
theorem comp_relZ {α : Type} {K : PySem.W.Frag} {σ : L2.St} {H : Hp} {wi : TI} {te : TE} {j1 j2 : Nat} {vs : List Nat} {xs ys : Nat → Option V} (rs : List α) (R : Hp → α → V → Prop) (hR : ∀ H1 H2 r v, VP H1 H2 → R H1 r v → R H2 r v) (hn : rs.length ≤ 40000)
    (hwi : ∀ H1, Evl.Ex H H1 → ∀ R : It → Hp → Prop, (∀ (J : It) (H2 : Hp) (G : Hp → Prop), Evl.Ex H1 H2 → Walk J rs.length G (YPair xs ys) → (∀ H3, Evl.Ex H2 H3 → G H3) → R J H2) → wi σ H1 R)
    (hw : ∀ x y, wipe (((wipe σ vs).set j1 (some x)).set j2 (some y)) vs = wipe σ vs)
    (he : ∀ (i : Nat) x y r H1, Evl.Ex H H1 → rs[i]? = some r → xs i = some x → ys i = some y → ∀ Q : VK, (∀ H2 v, Same H1 H2 → R H2 r v → Q v H2) → te (((wipe σ vs).set j1 (some x)).set j2 (some y)) H1 Q) {Q : VK}
    (hq : ∀ p H2 ws, H p = none → Same H H2 → H2 p = some (.lst ws) → Each (R H2) rs ws → Q (.ref p) H2) : tLc wi (gTup K 2 (gCons (gName j1) (gCons (gName j2) gNil))) tYes te vs σ H Q := by
  refine hwi H (Evl.Ex.refl H) _ fun J H2 G e2 w hG => ?_
  intro D hD
  refine lc_it w (fun i H' => Same H2 H' ∧ ∃ ws, H' D = some (.lst ws) ∧ Each (R H') (rs.take i) ws) ⟨same_new hD, [], upd_same, Each.nil⟩ (fun i H' _ p => hG H' p.1) (fun i x H' H'' hi p y => ?_) (fun H' p => ?_)
  · obtain ⟨T, x1, x2, rfl, nT, rfl, e3, e4⟩ := y
    obtain ⟨k1, ws, hD', hE⟩ := p
    obtain ⟨r, hr⟩ : ∃ r, rs[i]? = some r := ⟨rs[i], List.getElem?_eq_getElem hi⟩
    have kT : Same H' (upd H' T (.tup [x1, x2])) := same_new nT
    refine ⟨_, _, rfl, SqT.of upd_same, rfl, _, _, rfl, _, _, rfl, rfl, hw x1 x2, ?_⟩
    show te _ _ _
    refine he i x1 x2 r _ ((e2.trans k1).trans kT) hr e3 e4 _ fun H3 v k3 rv => ?_
    have hlen : ws.length ≤ 40000 := by rw [hE.1, List.length_take]; omega
    refine ⟨ws, k3 _ _ (kT _ _ hD'), Evl.sz_lt (by omega), Same.chg (k1.trans (kT.trans k3)) hD, ws ++ [v], upd_same, ?_⟩
    rw [take_snoc hr]
    have kD : VP H3 (upd H3 D (.lst (ws ++ [v]))) := VP.upd (k3 _ _ (kT _ _ hD'))
    exact (hE.mono fun m u _ z => hR _ _ _ _ ((VP.same (kT.trans k3)).trans kD) z).snoc (hR _ _ _ _ kD rv)
  · obtain ⟨k1, ws, hD', hE⟩ := p
    rw [List.take_length] at hE
    exact hq D H' ws (Evl.fresh_back e2 hD) (e2.trans k1) hD' hE
/-- the same with one name -/
theorem comp_relG {α : Type} {K : PySem.W.Frag} {σ : L2.St} {H : Hp} {wi : TI} {te : TE} {j : Nat} {vs : List Nat} {Y : Nat → Hp → V → Hp → Prop} {xs : Nat → V → Prop} (hY : ∀ i H1 x H2, Y i H1 x H2 → H2 = H1 ∧ xs i x) (rs : List α) (R : Hp → α → V → Prop) (hR : ∀ H1 H2 r v, VP H1 H2 → R H1 r v → R H2 r v) (hn : rs.length ≤ 40000)
    (hwi : ∀ H1, Evl.Ex H H1 → ∀ R : It → Hp → Prop, (∀ (J : It) (H2 : Hp) (G : Hp → Prop), Evl.Ex H1 H2 → Walk J rs.length G Y → (∀ H3, Evl.Ex H2 H3 → G H3) → R J H2) → wi σ H1 R)
    (hw : ∀ x, wipe ((wipe σ vs).set j (some x)) vs = wipe σ vs)
    (he : ∀ (i : Nat) x r H1, Evl.Ex H H1 → rs[i]? = some r → xs i x → ∀ Q : VK, (∀ H2 v, Same H1 H2 → R H2 r v → Q v H2) → te ((wipe σ vs).set j (some x)) H1 Q) {Q : VK}
    (hq : ∀ p H2 ws, H p = none → Same H H2 → H2 p = some (.lst ws) → Each (R H2) rs ws → Q (.ref p) H2) : tLc wi (gName j) tYes te vs σ H Q := by
  refine hwi H (Evl.Ex.refl H) _ fun J H2 G e2 w hG => ?_
  intro D hD
  refine lc_it w (fun i H' => Same H2 H' ∧ ∃ ws, H' D = some (.lst ws) ∧ Each (R H') (rs.take i) ws) ⟨same_new hD, [], upd_same, Each.nil⟩ (fun i H' _ p => hG H' p.1) (fun i x H' H'' hi p y => ?_) (fun H' p => ?_)
  · obtain ⟨rfl, e3⟩ := hY _ _ _ _ y
    obtain ⟨k1, ws, hD', hE⟩ := p
    obtain ⟨r, hr⟩ : ∃ r, rs[i]? = some r := ⟨rs[i], List.getElem?_eq_getElem hi⟩
    refine ⟨hw x, ?_⟩
    show te _ _ _
    refine he i x r _ (e2.trans k1) hr e3 _ fun H3 v k3 rv => ?_
    have hlen : ws.length ≤ 40000 := by rw [hE.1, List.length_take]; omega
    refine ⟨ws, k3 _ _ hD', Evl.sz_lt (by omega), Same.chg (k1.trans k3) hD, ws ++ [v], upd_same, ?_⟩
    rw [take_snoc hr]
    have kD : VP H3 (upd H3 D (.lst (ws ++ [v]))) := VP.upd (k3 _ _ hD')
    exact (hE.mono fun m u _ z => hR _ _ _ _ ((VP.same k3).trans kD) z).snoc (hR _ _ _ _ kD rv)
  · obtain ⟨k1, ws, hD', hE⟩ := p
    rw [List.take_length] at hE
    exact hq D H' ws (Evl.fresh_back e2 hD) (e2.trans k1) hD' hE
theorem wi_range {K : PySem.W.Frag} {σ : L2.St} {H : Hp} {ta : TA} {n : Nat} (h : Evl.EvA ta σ H [.int (n : Int)]) (hn : n ≤ 40000) :
    ∀ H1, Evl.Ex H H1 → ∀ R : It → Hp → Prop, (∀ (J : It) (H2 : Hp) (G : Hp → Prop), Evl.Ex H1 H2 → Walk J n G (YFn fun i => .int (0 + (i : Int))) → (∀ H3, Evl.Ex H2 H3 → G H3) → R J H2) → iRng1 ta σ H1 R :=
  fun H1 e R q => h H1 e _ fun H2 e2 => ⟨n, rfl, by omega, by omega, q _ H2 _ e2 walk_range fun H3 e3 => trivial⟩
theorem cut1 (xs : List V) : cutV xs (some 1) none = xs.drop 1 := by
  unfold cutV
  have h1 : HT.sIx xs.length 0 (some 1) = min 1 xs.length := by
    unfold HT.sIx
    simp
    try omega
  have h2 : HT.sIx xs.length xs.length none = xs.length := by
    unfold HT.sIx
    simp
  rw [h1, h2]
  by_cases h : xs.length = 0
  · have := List.length_eq_zero_iff.mp h
    subst this
    rfl
  · rw [Nat.min_eq_left (by omega)]
    exact List.take_of_length_le (by simp)
theorem strOf_get (m : Mb) {ts : List Int} {j : Nat} (hj : j < (ksOf (letF m ts)).length) : (strOf m ts)[j]? = some ((ksOf (letF m ts)).getD j 0, loOf m (ksOf (letF m ts)) j, hiOf m (ksOf (letF m ts)) ts.length j) := by
  unfold strOf
  rw [List.getElem?_map, List.getElem?_range hj]
  rfl
theorem strOf_delay (n : Int) {ts : List Int} {i : Nat} (hi : i < ts.length) : (strOf (.delay, n) ts)[i]? = some (i, i, i) := by
  rw [strOf_get _ (by rw [ks_delay, List.length_range]; exact hi), ks_delay]
  have h1 : (List.range ts.length).getD i 0 = i := by simp [hi]
  have h2 : loOf (.delay, n) (List.range ts.length) i = i := by
    unfold loOf
    rw [if_neg (by intro z; cases z)]
    exact h1
  have h3 : hiOf (.delay, n) (List.range ts.length) ts.length i = i := by
    unfold hiOf
    rw [if_neg (by intro z; cases z)]
    split
    · rename_i hc
      rw [List.length_range] at hc
      have : (List.range ts.length).getD (i + 1) 0 = i + 1 := by simp [hc]
      omega
    · rename_i hc
      rw [List.length_range] at hc
      omega
  rw [h1, h2, h3]
/-- what stretches_from gives, of the marked places -/
theorem strOf_from {m : Mb} (hm : ¬ m.1 = .last) (ts : List Int) : strOf m ts = (List.range (ksOf (letF m ts)).length).map fun j => ((ksOf (letF m ts)).getD j 0, (ksOf (letF m ts)).getD j 0, if j + 1 < (ksOf (letF m ts)).length then (ksOf (letF m ts)).getD (j + 1) 0 - 1 else ts.length - 1) := by
  unfold strOf loOf hiOf
  simp only [if_neg hm]
theorem ev_fld {K : PySem.W.Frag} {σ : L2.St} {H : Hp} {ta : TE} {a C dx : Addr} {fs : List (Str × V)} {f : Str} {v : V} (ha : Evl.Ev ta σ H (.ref a)) (hx : H a = some (.ins C dx fs)) (hc : Cls K C) (hn : NoAttr K C f) (hl : fs.lookup f = some v) : Evl.Ev (tFld K ta f) σ H v := fun H1 e Q q =>
  ha H1 e _ fun H2 e2 => ⟨a, C, dx, fs, v, rfl, (e.trans e2) _ _ hx, hc, hn, hl, q H2 e2⟩
theorem given_ks (m : Mb) (ts : List Int) : Evl.given ts.length (fun i => (letF m ts).getD i false) (fun i => V.int (i : Nat)) = ((ksOf (letF m ts)).map fun (i : Nat) => (i : Int)).map V.int := by
  unfold Evl.given ksOf
  rw [letF_len, List.map_map]
  rfl
theorem ks_len (m : Mb) (ts : List Int) {n : Nat} (h : ts.length ≤ n) : (ksOf (letF m ts)).length ≤ n := by
  have := ksTo_len m ts ts.length
  rw [ksTo_all] at this
  omega
theorem ks_pos (m : Mb) (ts : List Int) : ∀ j, j + 1 < (ksOf (letF m ts)).length → 1 ≤ (ksOf (letF m ts)).getD (j + 1) 0 := by
  intro j hj
  rw [← ksTo_all] at hj ⊢
  have h1 : (ksTo m ts ts.length).getD (j + 1) 0 = (ksTo m ts ts.length)[j + 1] := by simp [hj]
  rw [h1]
  have := ksTo_lt hj (show j < j + 1 by omega)
  omega
theorem ks_some (m : Mb) (ts : List Int) : ksOf (letF m ts) ≠ [] → 1 ≤ ts.length := by
  intro h
  rw [← ksTo_all] at h
  have hl := List.length_pos_iff.mpr h
  have := ksTo_bound (List.getElem_mem hl)
  omega
theorem el_isL {σ : L2.St} {H : Hp} {te : TE} {xs ys : List V} (h : Evl.EvL te σ H xs) (e : xs = ys) : Evl.EvL te σ H ys := by
  rw [← e]
  exact h
theorem ksTo_last {m : Mb} {ts : List Int} {i : Nat} (h : 0 < (ksTo m ts i).length) (hi : i < ts.length) : (ksTo m ts i).getD ((ksTo m ts i).length - 1) 0 < ts.length := by
  have hl : (ksTo m ts i).length - 1 < (ksTo m ts i).length := by omega
  have h1 : (ksTo m ts i).getD ((ksTo m ts i).length - 1) 0 = (ksTo m ts i)[(ksTo m ts i).length - 1] := by simp [hl]
  rw [h1]
  have := ksTo_bound (List.getElem_mem hl)
  omega
theorem ix_last {ks : List Nat} {ys : List V} (h : 0 < ks.length) (e : ys = (ks.map fun (j : Nat) => (j : Int)).map V.int) : atI ys (-1) = some (V.int ((ks.getD (ks.length - 1) 0 : Nat) : Int)) := by
  have hl : ks.length - 1 < ks.length := by omega
  have hy : ys.length = ks.length := by rw [e]; simp
  have h2 : ys[ks.length - 1]? = some (V.int ((ks.getD (ks.length - 1) 0 : Nat) : Int)) := by
    rw [e]
    simp [hl]
  have h3 : ixN ys.length (-1) = some (ks.length - 1) := by
    unfold ixN
    rw [if_neg (by omega), hy]
    try rw [if_pos (by omega)]
    congr 1
    omega
  unfold atI
  rw [h3]
  exact h2
/-- a stream that is one -/
def spCheckStream : Sp := fun vs H Q _ => ∃ (l : Addr) (ts : List Int), vs = [.ref l] ∧ H l = some (.lst (ts.map V.int)) ∧ (Asc 1 ts ∧ ts.length ≤ 30000) ∧ ∀ H', Same H H' → Q .non H'
/-- a row as an object -/
def RowO (K : PySem.W.Frag) (H : Hp) (ms : List Mb) (r : Addr) : Prop := ∃ (dx m : Addr) (xs : List V), H r = some (.ins (He.ga K "Row") dx [("members", .ref m)]) ∧ H m = some (.tup xs) ∧ Each (MemV K H) ms xs
def spToldEvents (K : PySem.W.Frag) : Sp := fun vs H Q _ => ∃ (r l : Addr) (ms : List Mb) (ts : List Int), vs = [.ref r, .ref l] ∧ RowO K H ms r ∧ H l = some (.lst (ts.map V.int)) ∧ (Asc 1 ts ∧ ts.length ≤ 30000 ∧ ms.length ≤ 1000) ∧
  ∀ H' p ys, Same H H' → H p = none → H' p = some (.lst ys) → Each (ToldV K H') (rowsOf ms ts) ys → Q (.ref p) H'
def spToldTimes (K : PySem.W.Frag) : Sp := fun vs H Q _ => ∃ (r l : Addr) (ms : List Mb) (ts : List Int), vs = [.ref r, .ref l] ∧ RowO K H ms r ∧ H l = some (.lst (ts.map V.int)) ∧ (Asc 1 ts ∧ ts.length ≤ 30000 ∧ ms.length ≤ 1000) ∧
  ∀ H' p, Same H H' → H p = none → H' p = some (.lst (((rowsOf ms ts).map fun r => r.2.1).map V.int)) → Q (.ref p) H'
def spRight (K : PySem.W.Frag) : Sp := fun vs H Q _ => ∃ (r g l : Addr) (ms : List Mb) (zs : List V) (ts : List Int), vs = [.ref r, .ref g, .ref l] ∧ RowO K H ms r ∧ H g = some (.lst zs) ∧ Each (PairV H) ms zs ∧ H l = some (.lst (ts.map V.int)) ∧ (Asc 1 ts ∧ ts.length ≤ 30000 ∧ ms.length ≤ 1000) ∧
  ∀ H', Same H H' → Q (.bl true) H'
theorem RowO.vp {K : PySem.W.Frag} {H H' : Hp} (k : VP H H') {ms : List Mb} {r : Addr} (h : RowO K H ms r) : RowO K H' ms r := by
  obtain ⟨dx, m, xs, h1, h2, h3⟩ := h
  exact ⟨dx, m, xs, k.2 _ _ _ _ h1, k.1 _ _ h2, h3.mono fun _ _ _ z => z.vp k⟩
end My

set_option Elab.async false
set_option linter.all false
set_option maxRecDepth 100000
set_option maxHeartbeats 4000000
namespace My
open PySem PySem.Spec PyProof.Rows L2
abbrev R4 := Int × Int × Int × Int
theorem fold_part {ts : List Int} (h : Asc 1 ts) : ∀ (ms : List Mb) (es : List Tl), Part ts.length es → Part ts.length (ms.foldl (fun es m => stepE m ts es) es)
  | [], es, P => P
  | m :: ms, es, P => fold_part h ms _ (stepE_part h P)
theorem tellE_part {ts : List Int} (h : Asc 1 ts) (ms : List Mb) : Part ts.length (tellE ms ts) := fold_part h ms _ (initE_part ts)
theorem rows_len {ts : List Int} (h : Asc 1 ts) (ms : List Mb) : (rowsOf ms ts).length ≤ ts.length := by
  unfold rowsOf
  rw [List.length_map]
  exact (tellE_part h ms).len
/-! ### what the law asks of the rows themselves -/
def endsOf (rows : List R4) : List Int := [-1] ++ rows.map fun r => r.2.2.2
theorem rows_get {ms : List Mb} {ts : List Int} {k : Nat} (hk : k < (tellE ms ts).length) : (rowsOf ms ts)[k]? = some (((((tellE ms ts).getD k .zero).num : Nat) : Int), ts.getD ((tellE ms ts).getD k .zero).num 0 + lateOf ms, ((((tellE ms ts).getD k .zero).fst : Nat) : Int), ((((tellE ms ts).getD k .zero).lst : Nat) : Int)) := by
  unfold rowsOf
  rw [List.getElem?_map, List.getElem?_eq_getElem hk]
  have : (tellE ms ts).getD k .zero = (tellE ms ts)[k] := by simp [hk]
  rw [this]
  rfl
theorem rows_firsts {ts : List Int} (h : Asc 1 ts) (ms : List Mb) : (rowsOf ms ts).map (fun r => r.2.2.1) = ((endsOf (rowsOf ms ts)).dropLast).map (· + 1) := by
  have P := tellE_part h ms
  have hl : (rowsOf ms ts).length = (tellE ms ts).length := by unfold rowsOf; simp
  apply List.ext_getElem?
  intro k
  rcases Nat.lt_or_ge k (tellE ms ts).length with hk | hk
  · rw [List.getElem?_map, rows_get hk, List.getElem?_map, List.getElem?_dropLast]
    have hk2 : k < (endsOf (rowsOf ms ts)).length - 1 := by unfold endsOf; simp [hl]; exact hk
    rw [if_pos hk2]
    unfold endsOf
    cases k with
    | zero =>
      have := P.beg hk
      rw [List.getD_eq_getElem?_getD] at this
      simp [this]
    | succ k =>
      have := P.nxt k hk
      have hk3 : k < (tellE ms ts).length := by omega
      rw [List.getElem?_append_right (by simp), List.length_singleton, Nat.add_sub_cancel, List.getElem?_map, rows_get hk3]
      simp only [Option.map_some]
      congr 1
      omega
  · rw [List.getElem?_eq_none (by simp; omega), List.getElem?_eq_none (by unfold endsOf; simp; omega)]
theorem ends_last {ts : List Int} (h : Asc 1 ts) (ms : List Mb) : (endsOf (rowsOf ms ts)).getD (rowsOf ms ts).length 0 = (ts.length : Int) - 1 := by
  have P := tellE_part h ms
  have hl : (rowsOf ms ts).length = (tellE ms ts).length := by unfold rowsOf; simp
  rw [hl]
  unfold endsOf
  rw [List.getD_eq_getElem?_getD]
  rcases Nat.eq_zero_or_pos (tellE ms ts).length with e | e
  · have h0 : ts.length = 0 := by
      rcases Nat.eq_zero_or_pos ts.length with z | z
      · exact z
      · have := P.pos z
        omega
    rw [e, h0]
    rfl
  · rw [List.getElem?_append_right (by simp; omega), List.length_singleton, List.getElem?_map, rows_get (by omega)]
    have := P.fin e
    simp only [Option.map_some, Option.getD_some]
    omega
theorem rows_mid {ts : List Int} (h : Asc 1 ts) (ms : List Mb) : ∀ r ∈ rowsOf ms ts, r.2.2.1 ≤ r.1 ∧ r.1 ≤ r.2.2.2 := by
  intro r hr
  have P := tellE_part h ms
  obtain ⟨k, hk, e⟩ := List.getElem_of_mem hr
  have hk2 : k < (tellE ms ts).length := by unfold rowsOf at hk; simpa using hk
  have h2 := rows_get hk2
  rw [List.getElem?_eq_getElem hk, e] at h2
  cases Option.some.inj h2
  have := P.mid k hk2
  simp only
  omega
/-! ### readings -/
theorem comp_relN {α β : Type} {K : PySem.W.Frag} {σ : L2.St} {H : Hp} {tl te : TE} {j : Nat} {vs : List Nat} (S : Hp → β → V → Prop) (hS : ∀ H1 H2 r v, VP H1 H2 → S H1 r v → S H2 r v) (R : Hp → α → V → Prop) (hR : ∀ H1 H2 r v, VP H1 H2 → R H1 r v → R H2 r v) (bs : List β) (rs : List α) (hbr : rs.length = bs.length) (hn : rs.length ≤ 40000)
    (h : ∀ Q : VK, (∀ p H2 xs, Same H H2 → H2 p = some (.lst xs) → Each (S H2) bs xs → Q (.ref p) H2) → tl σ H Q)
    (hw : ∀ x, wipe ((wipe σ vs).set j (some x)) vs = wipe σ vs)
    (he : ∀ (i : Nat) b r x H1, Same H H1 → bs[i]? = some b → rs[i]? = some r → S H1 b x → ∀ Q : VK, (∀ H2 v, Same H1 H2 → R H2 r v → Q v H2) → te ((wipe σ vs).set j (some x)) H1 Q) {Q : VK}
    (hq : ∀ p H2 ws, H p = none → Same H H2 → H2 p = some (.lst ws) → Each (R H2) rs ws → Q (.ref p) H2) : tLc (iList K tl) (gName j) tYes te vs σ H Q :=
  h _ fun p H2 xs k2 hp hE => ⟨p, rfl, ⟨xs, SqL.of hp⟩, fun D hD =>
    lc_list (xs := xs) (fun i H' => Same H2 H' ∧ ∃ ws, H' D = some (.lst ws) ∧ Each (R H') (rs.take i) ws) ⟨same_new hD, [], upd_same, Each.nil⟩ (fun i H' _ q => SqL.of (q.1 _ _ hp))
      (fun i x H' hi q => ⟨hw x, by
        obtain ⟨k1, ws, hD', hW⟩ := q
        obtain ⟨b, hb, hs⟩ := hE.at hi
        have hib := (List.getElem?_eq_some_iff.mp hb).1
        obtain ⟨r, hr⟩ : ∃ r, rs[i]? = some r := ⟨rs[i]'(by omega), List.getElem?_eq_getElem (by omega)⟩
        show te _ _ _
        refine he i b r x H' (Same.trans k2 k1) hb hr (hS _ _ _ _ (VP.same k1) hs) _ fun H3 v k3 rv => ?_
        have hlen : ws.length ≤ 40000 := by rw [hW.1, List.length_take]; omega
        refine ⟨ws, k3 _ _ hD', Evl.sz_lt (by omega), Same.chg (k1.trans k3) hD, ws ++ [v], upd_same, ?_⟩
        rw [take_snoc hr]
        have kD : VP H3 (upd H3 D (.lst (ws ++ [v]))) := VP.upd (k3 _ _ hD')
        exact (hW.mono fun m u _ z => hR _ _ _ _ ((VP.same k3).trans kD) z).snoc (hR _ _ _ _ kD rv)⟩)
      (fun H' q => by
        obtain ⟨k1, ws, hD', hW⟩ := q
        have : xs.length = rs.length := by rw [hE.1, hbr]
        rw [this, List.take_length] at hW
        exact hq D H' ws (Evl.fresh_back k2 hD) (Same.trans k2 k1) hD' hW)⟩
/-- a column of the rows -/
theorem el_due {K : PySem.W.Frag} {σ : L2.St} {H : Hp} {p : Addr} {ys : List V} {rows : List R4} {tl : TE} {j : Nat} {vs : List Nat} (f : R4 → Int) (c : Int) (h : Evl.Ev tl σ H (.ref p)) (hp : H p = some (.lst ys)) (hE : Each (RowV H) rows ys) (hz : rows.length ≤ 40000)
    (hc : ∀ r : R4, atI [V.int r.1, V.int r.2.1, V.int r.2.2.1, V.int r.2.2.2] c = some (.int (f r)))
    (hw : ∀ x, wipe ((wipe σ vs).set j (some x)) vs = wipe σ vs) (hv : ∀ x, ((wipe σ vs).set j (some x))[j]? = some (some x)) :
    Evl.EvL (tLc (iList K tl) (gName j) tYes (tOp (rIxT K) (tVar j) (tC (.int c))) vs) σ H ((rows.map f).map V.int) := by
  have h2 := Evl.el_lcL (K := K) (te := tOp (rIxT K) (tVar j) (tC (.int c))) (t := tYes) (j := j) (vs := vs) (fun _ => true) (fun i => V.int (f (rows.getD i (0, 0, 0, 0)))) h (SqL.of hp) (by rw [hE.1]; exact hz) hw (fun _ _ _ _ _ => et_yes) (fun i x H1 e hi _ => by
    obtain ⟨r, hr, q, rfl, hq⟩ := hE.at hi
    have g : rows.getD i (0, 0, 0, 0) = r := by rw [List.getD_eq_getElem?_getD, hr]; rfl
    rw [g]
    exact Evl.ev_op (Evl.ev_var (hv _)) Evl.ev_c (Evl.rv_ixT (SqT.of (e _ _ hq)) (hc r)))
  rw [given_all] at h2
  have e : (rows.map f).map V.int = (List.range ys.length).map fun i => V.int (f (rows.getD i (0, 0, 0, 0))) := by
    rw [hE.1]
    apply List.ext_getElem
    · simp
    · intro i h1 h2
      simp at h1
      simp [h1]
  rw [e]
  exact h2
theorem rv_neI {K : PySem.W.Frag} {H : Hp} {p q : Addr} {ns ms : List Int} (h1 : SqL K H p (ns.map V.int)) (h2 : SqL K H q (ms.map V.int)) : Evl.RV (rNeT (List Int) K) (.ref p) (.ref q) H (.bl (decide (ns ≠ ms))) :=
  fun H1 e _ qq => ⟨ns, ms, dp_ints (Evl.ex_l e h1), dp_ints (Evl.ex_l e h2), qq H1 (Evl.Ex.refl H1)⟩
def tup4 (r : R4) : PySem.W.Tup Int := ⟨[r.1, r.2.1, r.2.2.1, r.2.2.2]⟩
theorem dp_rows {K : PySem.W.Frag} {H : Hp} {p : Addr} {ys : List V} {rows : List R4} (hp : H p = some (.lst ys)) (hE : Each (RowV H) rows ys) : Dp K H (.ref p) (PySem.W.Datum.toD (rows.map tup4)) := by
  refine dp_list (SqL.of hp) ⟨by rw [List.length_map]; exact hE.1, fun i m v h1 h2 => ?_⟩
  rw [List.getElem?_map] at h1
  cases e : rows[i]? with
  | none => rw [e] at h1; cases h1
  | some r =>
    rw [e] at h1
    cases Option.some.inj h1
    obtain ⟨q, rfl, hq⟩ := hE.2 i r v e h2
    exact .tup (SqT.of hq) (.cons (.int _) (.cons (.int _) (.cons (.int _) (.cons (.int _) .nil))))
theorem cut_butlast {xs : List V} (h : 0 < xs.length) : cutV xs none (some (-1)) = xs.dropLast := by
  unfold cutV
  have h1 : HT.sIx xs.length 0 none = 0 := rfl
  have h2 : HT.sIx xs.length xs.length (some (-1)) = xs.length - 1 := by
    show (if (-1 : Int) < 0 then ((-1 : Int) + (xs.length : Int)).toNat else min (-1 : Int).toNat xs.length) = xs.length - 1
    rw [if_pos (by omega)]
    omega
  rw [h1, h2, List.drop_zero, Nat.sub_zero, List.dropLast_eq_take]
theorem r_seqa {te : TE} {i : Nat} {rest : TS} {D : Ends} {σ : L2.St} {H : Hp} (h : te σ H fun x H1 => rest D (σ.set i (some x)) H1) : tSeq (tAsg te (gName i)) rest D σ H := h
theorem atI_last {xs : List V} {n : Nat} (h : xs.length = n + 1) {v : V} (hv : xs[n]? = some v) : atI xs (-1) = some v := by
  have h3 : ixN xs.length (-1) = some n := by
    unfold ixN
    rw [if_neg (by omega), h]
    rw [if_pos (by omega)]
    congr 1
    omega
  unfold atI
  rw [h3]
  exact hv
theorem ev_chain {σ : L2.St} {H : Hp} {r r' : R2} {ta tb tc : TE} {x y z v : V} (ha : Evl.Ev ta σ H x) (hb : Evl.Ev tb σ H y) (hc : Evl.Ev tc σ H z) (h1 : Evl.RV r x y H (.bl true)) (h2 : Evl.RV r' y z H v) : Evl.Ev (tChain r r' ta tb tc) σ H v := fun H1 e Q q =>
  ha H1 e _ fun H2 e2 => hb H2 (e.trans e2) _ fun H3 e3 => h1 H3 ((e.trans e2).trans e3) _ fun H4 e4 => ⟨true, rfl, by
    rw [if_pos rfl]
    exact hc H4 (((e.trans e2).trans e3).trans e4) _ fun H5 e5 => h2 H5 ((((e.trans e2).trans e3).trans e4).trans e5) Q fun H6 e6 => q H6 ((((e2.trans e3).trans e4).trans e5).trans e6)⟩
theorem rv_eqE {K : PySem.W.Frag} {H : Hp} {p q : Addr} (h1 : H p = some (.lst [])) (h2 : H q = some (.lst [])) : Evl.RV (rEqT (List (PySem.W.Tup Int)) K) (.ref p) (.ref q) H (.bl true) :=
  fun H1 e _ qq => ⟨[], [], dp_list (SqL.of (e _ _ h1)) Each.nil, dp_list (SqL.of (e _ _ h2)) Each.nil, qq H1 (Evl.Ex.refl H1)⟩
theorem given_none {n : Nat} {v : Nat → V} : Evl.given n (fun _ => false) v = [] := by
  unfold Evl.given
  simp
/-- the comprehension that finds no row askew -/
theorem el_askew {K : PySem.W.Frag} {σ : L2.St} {H : Hp} {p : Addr} {ys : List V} {rows : List R4} {tl : TE} {j : Nat} {vs : List Nat} (h : Evl.Ev tl σ H (.ref p)) (hp : H p = some (.lst ys)) (hE : Each (RowV H) rows ys) (hz : rows.length ≤ 40000) (hm : ∀ r ∈ rows, r.2.2.1 ≤ r.1 ∧ r.1 ≤ r.2.2.2)
    (hw : ∀ x, wipe ((wipe σ vs).set j (some x)) vs = wipe σ vs) (hv : ∀ x, ((wipe σ vs).set j (some x))[j]? = some (some x)) :
    Evl.EvL (tLc (iList K tl) (gName j) (tNot (tTest (tChain (rI0 fun i j => V.bl (decide (i ≤ j))) (rI0 fun i j => V.bl (decide (i ≤ j))) (tOp (rIxT K) (tVar j) (tC (V.int 2))) (tOp (rIxT K) (tVar j) (tC (V.int 0))) (tOp (rIxT K) (tVar j) (tC (V.int 3)))))) (tVar j) vs) σ H [] := by
  have h2 := Evl.el_lcL (K := K) (te := tVar j) (t := tNot (tTest (tChain (rI0 fun i j => V.bl (decide (i ≤ j))) (rI0 fun i j => V.bl (decide (i ≤ j))) (tOp (rIxT K) (tVar j) (tC (V.int 2))) (tOp (rIxT K) (tVar j) (tC (V.int 0))) (tOp (rIxT K) (tVar j) (tC (V.int 3)))))) (j := j) (vs := vs) (fun _ => false) (fun _ => V.non) h (SqL.of hp) (by rw [hE.1]; exact hz) hw (fun i x H1 e hi => by
    obtain ⟨r, hr, q, rfl, hq⟩ := hE.at hi
    have hrm := hm r (List.mem_of_getElem? hr)
    have hq' : SqT K H1 q [.int r.1, .int r.2.1, .int r.2.2.1, .int r.2.2.2] := SqT.of (e _ _ hq)
    refine Evl.et_is (Evl.et_not (a := true) (Evl.et_test (ev_chain (x := .int r.2.2.1) (y := .int r.1) (z := .int r.2.2.2) (Evl.ev_op (Evl.ev_var (hv _)) Evl.ev_c (Evl.rv_ixT hq' rfl)) (Evl.ev_op (Evl.ev_var (hv _)) Evl.ev_c (Evl.rv_ixT hq' rfl)) (Evl.ev_op (Evl.ev_var (hv _)) Evl.ev_c (Evl.rv_ixT hq' rfl)) ?_ ?_))) rfl
    · have := Evl.rv_I0 (H := H1) (g := fun i j => V.bl (decide (i ≤ j))) (i := r.2.2.1) (j := r.1)
      rw [decide_eq_true hrm.1] at this
      exact this
    · have := Evl.rv_I0 (H := H1) (g := fun i j => V.bl (decide (i ≤ j))) (i := r.1) (j := r.2.2.2)
      rw [decide_eq_true hrm.2] at this
      exact this) (fun i x H1 e hi z => nomatch z)
  rw [given_none] at h2
  exact h2
/-- the ends but the last, each and one more -/
theorem el_ends {K : PySem.W.Frag} {σ : L2.St} {H : Hp} {p : Addr} {es : List Int} {tl : TE} {th : TO} {j : Nat} {vs : List Nat} (h : Evl.Ev tl σ H (.ref p)) (hth : Evl.EvO th σ H (some (-1))) (hp : H p = some (.lst (es.map V.int))) (hes : 0 < es.length) (hz : es.length ≤ 40000)
    (hw : ∀ x, wipe ((wipe σ vs).set j (some x)) vs = wipe σ vs) (hv : ∀ x, ((wipe σ vs).set j (some x))[j]? = some (some x)) :
    Evl.EvL (tLc (iList K (tSl (rSlL K) tl tNoPart th)) (gName j) tYes (tOp (rI0 fun i j => V.int (i + j)) (tVar j) (tC (V.int 1))) vs) σ H ((es.dropLast.map (· + 1)).map V.int) := by
  have e1 : Evl.EvL (tSl (rSlL K) tl tNoPart th) σ H (es.dropLast.map V.int) := by
    have := Evl.el_sl (K := K) h Evl.eo_none hth (SqL.of hp)
    rw [cut_butlast (by simpa using hes)] at this
    rw [List.map_dropLast]
    exact this
  have e2 := Evl.el_lcNL (K := K) (te := tOp (rI0 fun i j => V.int (i + j)) (tVar j) (tC (V.int 1))) (t := tYes) (j := j) (vs := vs) (fun _ => true) (fun i => V.int (es.dropLast.getD i 0 + 1)) e1 (by simp; omega) hw (fun _ _ _ _ _ => et_yes) (fun i x H1 _ hi _ => by
    obtain ⟨rfl, _⟩ := map_at hi
    exact Evl.ev_op (Evl.ev_var (hv _)) Evl.ev_c Evl.rv_I0)
  rw [given_all] at e2
  have e : (es.dropLast.map (· + 1)).map V.int = (List.range (es.dropLast.map V.int).length).map fun i => V.int (es.dropLast.getD i 0 + 1) := by
    apply List.ext_getElem
    · simp
    · intro i h1 h2
      have h3 : i < es.dropLast.length := by simpa using h1
      simp only [List.getElem_map, List.getElem_range]
      congr 2
      rw [List.getD_eq_getElem?_getD, List.getElem?_eq_getElem h3]
      rfl
  rw [e]
  exact e2
/-- the kinds, a new list -/
def spKinds : Sp := fun vs H Q _ => vs = [] ∧ ∀ H' p, Same H H' → H p = none → H' p = some (.lst [.str "last", .str "first", .str "limit"]) → Q (.ref p) H'
/-- up to so many members, pairs in a new list -/
def spMembers : Sp := fun vs H Q _ => ∃ (s : Addr) (many most : Int), vs = [.ref s, .int many, .int most] ∧ (0 ≤ many ∧ many < 1000) ∧ (1 ≤ most ∧ most < 2 ^ 150) ∧ St3 H s ∧
  ∀ H' (ms : List Mb) l xs, But s H H' → St3 H' s → H l = none → H' l = some (.lst xs) → Each (PairV H') ms xs → (ms.length : Int) ≤ many → (∀ m ∈ ms, Mb.ok m ∧ m.2 ≤ most) → Q (.ref l) H'
/-- up to so many events with such gaps -/
def spStream : Sp := fun vs H Q _ => ∃ (s g : Addr) (many : Int) (gs : List Int), vs = [.ref s, .int many, .ref g] ∧ (0 ≤ many ∧ many < 10000) ∧ H g = some (.lst (gs.map V.int)) ∧ g ≠ s ∧ (gs ≠ [] ∧ gs.length < 1000) ∧ (∀ d ∈ gs, 1 ≤ d) ∧ St3 H s ∧
  ∀ H' l ts, But s H H' → St3 H' s → H l = none → H' l = some (.lst (ts.map V.int)) → (ts.length : Int) ≤ many → Asc 1 ts → Q (.ref l) H'
def spLaw (K : PySem.W.Frag) : Sp := fun vs H Q _ => ∃ (a : Addr) (ns : List Int), vs = [.ref a] ∧ SqL K H a (ns.map V.int) ∧ ns.length ≤ 63 ∧ ∀ H', Q (.bl true) H'
theorem el_slN {K : PySem.W.Frag} {σ : L2.St} {H : Hp} {te : TE} {tl th : TO} {xs : List V} {lo hi : Option Int} (h : Evl.EvL te σ H xs) (h1 : Evl.EvO tl σ H lo) (h2 : Evl.EvO th σ H hi) : Evl.EvL (tSl (rSlL K) te tl th) σ H (cutV xs lo hi) := fun H1 e Q q =>
  h H1 e _ fun p H2 np e2 hp => h1 H2 (e.trans e2) _ fun H3 e3 => h2 H3 ((e.trans e2).trans e3) _ fun H4 e4 => ⟨p, xs, rfl, SqL.of (e4 _ _ (e3 _ _ hp)), fun r hr => q r _ (Evl.fresh_back ((e2.trans e3).trans e4) hr) (((e2.trans e3).trans e4).trans (Evl.Ex.new hr)) upd_same⟩
theorem el_catV {K : PySem.W.Frag} {σ : L2.St} {H : Hp} {ta tb : TE} {a : Addr} {xs ys : List V} (ha : Evl.Ev ta σ H (.ref a)) (hx : SqL K H a xs) (hb : Evl.EvL tb σ H ys) (hz : xs.length + ys.length ≤ 80000) : Evl.EvL (tOp (rCatS K) ta tb) σ H (xs ++ ys) := fun H1 e Q q =>
  ha H1 e _ fun H2 e2 => hb H2 (e.trans e2) _ fun p2 H3 np2 e3 hp2 => ⟨a, p2, xs, ys, rfl, rfl, Evl.ex_l ((e.trans e2).trans e3) hx, SqL.of hp2, Nat.le_of_lt (Evl.sz_lt (by omega)), fun r hr => q r _ (Evl.fresh_back (e2.trans e3) hr) ((e2.trans e3).trans (Evl.Ex.new hr)) upd_same⟩
theorem cell_int {ns : List Int} {lo hi : Option Int} {i : Nat} {x : V} (h : (cutV (ns.map V.int ++ [V.int 0]) lo hi)[i]? = some x) : ∃ z, x = V.int z := by
  have h1 := List.mem_of_getElem? h
  unfold cutV at h1
  have h2 := List.mem_of_mem_drop (List.mem_of_mem_take h1)
  rcases List.mem_append.mp h2 with h3 | h3
  · obtain ⟨z, _, rfl⟩ := List.mem_map.mp h3
    exact ⟨z, rfl⟩
  · exact ⟨0, List.mem_singleton.mp h3⟩
theorem three_at {d : Int} (h0 : 0 ≤ d) (h1 : d < 3) : ∃ b : Int, atI [V.int 3, V.int 9, V.int 40] d = some (V.int b) ∧ 1 ≤ b ∧ b ≤ 40 := by
  have : d = 0 ∨ d = 1 ∨ d = 2 := by omega
  rcases this with rfl | rfl | rfl
  · exact ⟨3, rfl, by decide, by decide⟩
  · exact ⟨9, rfl, by decide, by decide⟩
  · exact ⟨40, rfl, by decide, by decide⟩
theorem Same.made1 {H H' : Hp} {x dx C : Addr} {fs : List (Str × V)} (nx : H x = none) (nd : H dx = none) (k : But x (upd (upd H dx (.own x)) x (.ins C dx fs)) H') : Same H H' := fun b o e => k b o (ne_of_none e nx) (by
  rw [upd_ne (ne_of_none e nx), upd_ne (ne_of_none e nd)]
  exact e)
theorem Same.made0 {H : Hp} {x dx C : Addr} {fs : List (Str × V)} (nx : H x = none) (nd : H dx = none) : Same H (upd (upd H dx (.own x)) x (.ins C dx fs)) := fun b o e => by
  rw [upd_ne (ne_of_none e nx), upd_ne (ne_of_none e nd)]
  exact e
theorem three_ix {x y : V} {i : Nat} {v : V} (h : [x, y, x][i]? = some v) : v = x ∨ v = y := by
  have := List.mem_of_getElem? h
  simp at this
  rcases this with e | e | e
  · exact .inl e
  · exact .inr e
  · exact .inl e
/-! ### told_events, as it now is -/
def row0 : R4 := (0, 0, 0, 0)
def forRow (rows : List R4) (lag : Int) (t : T3) : R4 := ((rows.getD t.1 row0).1, (rows.getD t.1 row0).2.1 + lag, (rows.getD t.2.1 row0).2.2.1, (rows.getD t.2.2 row0).2.2.2)
def spToldFor (K : PySem.W.Frag) : Sp := fun vs H Q _ => ∃ (l q : Addr) (lag : Int) (xs : List V) (rows : List R4) (t : T3), vs = [.ref l, .ref q, .int lag] ∧ H l = some (.lst xs) ∧ Each (ToldV K H) rows xs ∧ H q = some (.tup [.int (t.1 : Int), .int (t.2.1 : Int), .int (t.2.2 : Int)]) ∧ (t.1 < rows.length ∧ t.2.1 < rows.length ∧ t.2.2 < rows.length) ∧
  ∀ H' o, Same H H' → ToldV K H' (forRow rows lag t) o → Q o H'
theorem told_at {K : PySem.W.Frag} {H : Hp} {rows : List R4} {xs : List V} (hE : Each (ToldV K H) rows xs) {i : Nat} (hi : i < rows.length) : ∃ a dx, atI xs (i : Int) = some (.ref a) ∧ H a = some (.ins (He.ga K "Told") dx (toldF (rows.getD i row0).1 (rows.getD i row0).2.1 (rows.getD i row0).2.2.1 (rows.getD i row0).2.2.2)) := by
  have hx : i < xs.length := by rw [hE.1]; exact hi
  obtain ⟨a, dx, e, h⟩ := hE.2 i rows[i] xs[i] (List.getElem?_eq_getElem hi) (List.getElem?_eq_getElem hx)
  have g : rows.getD i row0 = rows[i] := by simp [hi]
  rw [g]
  exact ⟨a, dx, at_of (j := i) rfl (by rw [List.getElem?_eq_getElem hx, e]), h⟩
def spByMember (K : PySem.W.Frag) : Sp := fun vs H Q _ => ∃ (v : V) (l : Addr) (m : Mb) (xs : List V) (ts : List Int) (es : List Tl) (late : Int), vs = [v, .ref l] ∧ MemV K H m v ∧ H l = some (.lst xs) ∧ Each (ToldV K H) (es.map (rowOf ts late)) xs ∧ (Asc 1 ts ∧ Part ts.length es ∧ ts.length ≤ 30000) ∧
  ∀ H' p ys, Same H H' → H p = none → H' p = some (.lst ys) → Each (ToldV K H') ((stepE m ts es).map (rowOf ts (late + lagOf m))) ys → Q (.ref p) H'
theorem ks_bnd (m : Mb) (ts : List Int) {j : Nat} (hj : j < (ksOf (letF m ts)).length) : (ksOf (letF m ts)).getD j 0 < ts.length := by
  rw [← ksTo_all] at hj ⊢
  have h1 : (ksTo m ts ts.length).getD j 0 = (ksTo m ts ts.length)[j] := by simp [hj]
  rw [h1]
  exact ksTo_bound (List.getElem_mem hj)
theorem ks_less (m : Mb) (ts : List Int) {i j : Nat} (hj : j < (ksOf (letF m ts)).length) (h : i < j) : (ksOf (letF m ts)).getD i 0 < (ksOf (letF m ts)).getD j 0 := by
  rw [← ksTo_all] at hj ⊢
  have h1 : (ksTo m ts ts.length).getD j 0 = (ksTo m ts ts.length)[j] := by simp [hj]
  have h2 : (ksTo m ts ts.length).getD i 0 = (ksTo m ts ts.length)[i]'(by omega) := by simp [show i < (ksTo m ts ts.length).length by omega]
  rw [h1, h2]
  exact ksTo_lt hj h
theorem lo_bound (m : Mb) (ts : List Int) {j : Nat} (hj : j < (ksOf (letF m ts)).length) : loOf m (ksOf (letF m ts)) j < ts.length := by
  have hb := ks_bnd m ts hj
  unfold loOf
  split
  · split
    · omega
    · have := ks_less m ts hj (show j - 1 < j by omega)
      omega
  · exact hb
theorem hi_bound (m : Mb) (ts : List Int) {j : Nat} (hj : j < (ksOf (letF m ts)).length) : hiOf m (ksOf (letF m ts)) ts.length j < ts.length := by
  have hb := ks_bnd m ts hj
  unfold hiOf
  split
  · exact hb
  · split
    · rename_i h
      have := ks_bnd m ts h
      omega
    · omega
theorem rows_at (ts : List Int) (late : Int) {es : List Tl} {i : Nat} (hi : i < es.length) : (es.map (rowOf ts late)).getD i row0 = rowOf ts late (es.getD i .zero) := by
  simp [hi]
theorem times_eq (ts : List Int) (es : List Tl) (late : Int) : (es.map (rowOf ts late)).map (fun r => r.2.1) = (baseT ts es).map (· + late) := by
  unfold baseT
  rw [List.map_map, List.map_map]
  rfl
theorem str_rows {m : Mb} {ts : List Int} {es : List Tl} (late : Int) : (stepE m ts es).map (rowOf ts (late + lagOf m)) = (strOf m ((es.map (rowOf ts late)).map fun r => r.2.1)).map (forRow (es.map (rowOf ts late)) (lagOf m)) := by
  rw [times_eq, strOf_move]
  unfold stepE strOf
  rw [List.map_map, List.map_map]
  apply List.map_congr_left
  intro j hj
  have hj := List.mem_range.mp hj
  have bl : (baseT ts es).length = es.length := by unfold baseT; simp
  have b1 := ks_bnd m (baseT ts es) hj
  have b2 := lo_bound m (baseT ts es) hj
  have b3 := hi_bound m (baseT ts es) hj
  rw [bl] at b1 b2 b3
  simp only [Function.comp, forRow, bl]
  rw [rows_at ts late b1, rows_at ts late b2, rows_at ts late b3]
  unfold rowOf newE
  simp only
  rw [Int.add_assoc]
theorem str_bound {m : Mb} {ts : List Int} {t : T3} {i : Nat} (h : (strOf m ts)[i]? = some t) : t.1 < ts.length ∧ t.2.1 < ts.length ∧ t.2.2 < ts.length := by
  have hi := (List.getElem?_eq_some_iff.mp h).1
  rw [strOf_len] at hi
  rw [strOf_get m hi] at h
  cases Option.some.inj h
  exact ⟨ks_bnd m ts hi, lo_bound m ts hi, hi_bound m ts hi⟩
theorem q_asgR {t : TE} {i : Nat} {rest : TS} {D : Ends} {σ : L2.St} {H : Hp} {W : Addr → Hp → Prop} (h : ∀ Q : VK, (∀ p H2, W p H2 → Q (.ref p) H2) → t σ H Q) (k : ∀ p H2, W p H2 → rest D (σ.set i (some (.ref p))) H2) : tSeq (tAsg t (gName i)) rest D σ H := h _ k
/-- a field of the told events -/
theorem el_told {K : PySem.W.Frag} {σ : L2.St} {H : Hp} {p : Addr} {xs : List V} {rows : List R4} {tl : TE} {j : Nat} {vs : List Nat} (fld : Str) (f : R4 → Int) (h : Evl.Ev tl σ H (.ref p)) (hp : H p = some (.lst xs)) (hE : Each (ToldV K H) rows xs) (hz : rows.length ≤ 40000)
    (hc : Cls K (He.ga K "Told")) (hn : NoAttr K (He.ga K "Told") fld) (hf : ∀ r : R4, (toldF r.1 r.2.1 r.2.2.1 r.2.2.2).lookup fld = some (.int (f r)))
    (hw : ∀ x, wipe ((wipe σ vs).set j (some x)) vs = wipe σ vs) (hv : ∀ x, ((wipe σ vs).set j (some x))[j]? = some (some x)) :
    Evl.EvL (tLc (iList K tl) (gName j) tYes (tFld K (tVar j) fld) vs) σ H ((rows.map f).map V.int) := by
  have h2 := Evl.el_lcL (K := K) (te := tFld K (tVar j) fld) (t := tYes) (j := j) (vs := vs) (fun _ => true) (fun i => V.int (f (rows.getD i row0))) h (SqL.of hp) (by rw [hE.1]; exact hz) hw (fun _ _ _ _ _ => et_yes) (fun i x H1 e hi _ => by
    obtain ⟨r, hr, a, dx, rfl, ha⟩ := hE.at hi
    have g : rows.getD i row0 = r := by rw [List.getD_eq_getElem?_getD, hr]; rfl
    rw [g]
    exact ev_fld (Evl.ev_var (hv _)) (e _ _ ha) hc hn (hf r))
  rw [given_all] at h2
  have e : (rows.map f).map V.int = (List.range xs.length).map fun i => V.int (f (rows.getD i row0)) := by
    rw [hE.1]
    apply List.ext_getElem
    · simp
    · intro i h1 h2
      simp at h1
      simp [h1]
  rw [e]
  exact h2
theorem each_ints {rows : List R4} {ws : List V} (h : Each (fun (r : R4) v => v = V.int r.2.1) rows ws) : ws = (rows.map fun r => r.2.1).map V.int := by
  apply List.ext_getElem?
  intro i
  rcases Nat.lt_or_ge i rows.length with hi | hi
  · have hw : i < ws.length := by rw [h.1]; exact hi
    rw [List.getElem?_eq_getElem hw, List.getElem?_map, List.getElem?_map, List.getElem?_eq_getElem hi]
    have := h.2 i rows[i] ws[i] (List.getElem?_eq_getElem hi) (List.getElem?_eq_getElem hw)
    rw [this]
    rfl
  · rw [List.getElem?_eq_none (by rw [h.1]; exact hi), List.getElem?_eq_none (by simp; omega)]
end My


set_option Elab.async false
set_option linter.all false
set_option maxRecDepth 100000
set_option maxHeartbeats 4000000
namespace MyE
open PySem PySem.SeqAt
open AutoSeq1 (wpAny_loadPart')
open MeetsSeq MeetsSeq2 MeetsSeq3 SeqRoads2
section
variable {prog : Program} {w : World} {A : Around} {E : Value → Shared → Prop} {s : Shared}
open PySem.W PySem.Spec PyProof.Rows in
/-- != by an own __eq__: what it answers, turned round -/
theorem ne_KO {K : Frag} {x C f L : Addr} {h₀ : Heap} {m : Str → Option Value} {ox : Obj} {od : Option Obj} {b tb : Value} {Q : Value → Shared → Prop} (hu : A.units + 1 < cLine) (F : Fr h₀ L s.heap m) (X₀ : K.In h₀) (I : InstAt s.heap x ox C od)
    (hb : Looks (model prog w) s.heap (typeOf b) tb) (hn : notFirst K C tb = true) (hobj : mroIn K C (.type "object") = some true)
    (hne : findIn K (.ref C) "__ne__" = some (some (.builtin "object.__ne__"))) (hs : findIn K (.ref C) "__eq__" = some (some (.ref f))) (hf : isFn K (.ref f) = true)
    (h : wpAny (model prog w) A.in1 (call (.ref f) [.ref x, b]) (fun v s' => ∃ r, v = .bool r ∧ Q (.bool (!r)) s') E s) : wpAny (model prog w) A (richCompare .NotEq (.ref x) b) Q E s := by
  have X := X₀.keeps F.keep
  have inst : Looks (model prog w) s.heap (isInstance (.ref x) (.type "object")) true := I.type.andThen (looks_mroIn X hobj)
  have body : wpAny (model prog w) A.in1 (Builtin.«object.__ne__» ⟨[.ref x, b], []⟩) (fun fin s' => ∃ v, fin = .done (.ret v) ∧ v ≠ .notImplemented ∧ Q v s') E s := by
    unfold Builtin.«object.__ne__»
    repeat (first
      | with_reducible refine wpAny_cRoomFor (by show A.units + 1 < cLine; exact hu) ?_
      | (refine wpAny_bind (m := callSpecialIfBound? (.ref x) (Str.ofString "__eq__") [b])
          (ifBound_K X I hs hf (wpAny_mono h (fun r s' hr => by
            obtain ⟨b, rfl, hq⟩ := hr
            repeat (first | exact ⟨_, rfl, (fun z => nomatch z), hq⟩ | exact wpAny_pure ⟨_, rfl, (fun z => nomatch z), hq⟩ | (refine wpAny_bind (m := truthy (.bool _)) (wpAny_truthy_bool ?_)) | wp_step)) fun _ _ e => e)))
      | wp_step)
  have one : wpAny (model prog w) A (tryCompare (.ref x) "__ne__" b) (fun r s' => ∃ v, r = some v ∧ Q v s') E s := by
    unfold tryCompare
    refine wpAny_bind ?_
    simp only [callSpecialIfBound?, bindSpecialIfBound?]
    refine wpAny_holding (wpAny_bind (wpAny_bind (wpAny_bind (I.type.here ((looks_findIn X hne).here ?_)))))
    simp only [PySem.F.cmp_object.ne.bind]
    refine wpAny_bind (wpAny_askSetting (wpAny_ite ?_))
    have run : ∀ (R : Value → Shared → Prop), (∀ v s', v ≠ .notImplemented → Q v s' → R v s') → wpAny (model prog w) A (call (.builtin "object.__ne__") ([.ref x] ++ [b])) R E s := fun R hR =>
      wpAny_call (codeAny_call_builtin PySem.F.cmp_object.ne.plain PySem.F.cmpEntry_ne (check_slot PySem.F.cmpKind_ne PySem.F.cmpSplit_ne inst (PySem.F.cmpArgs_ne _ _) (wpAny_mono body (fun fin s' z => by
        obtain ⟨v, rfl, hv, q⟩ := z
        exact hR v s' hv q) fun _ _ e => e)))
    split
    · refine wpAny_bind (wpAny_pure (wpAny_pure (wpAny_bind (run _ fun v s' hv q => ?_))))
      cases v <;> first | exact absurd rfl hv | exact wpAny_pure (wpAny_pure ⟨_, rfl, q⟩)
    · refine wpAny_tryCatch (wpAny_bind (wpAny_pure (wpAny_pure (wpAny_bind (run _ fun v s' hv q => ?_)))))
      cases v <;> first | exact absurd rfl hv | exact wpAny_pure (wpAny_pure ⟨_, rfl, q⟩)
  unfold richCompare
  simp only [oneThing_ref]
  refine wpAny_holding (wpAny_bind (wpAny_cRoomFor (by omega) ?_))
  refine wpAny_bind (I.type.here (wpAny_bind (hb.here ?_)))
  split
  · rename_i q
    have e : subIn K tb (.ref C) = some false := by
      rcases Bool.or_eq_true_iff.mp hn with e | e
      · rw [beq_iff_eq.mp e] at q; simp at q
      · exact beq_iff_eq.mp e
    refine wpAny_bind ((looks_subIn X e).here ?_)
    simp only [Bool.false_eq_true, if_false]
    refine wpAny_bind (wpAny_mono one (fun r s' z => ?_) fun _ _ e => e)
    obtain ⟨v, rfl, hq⟩ := z
    exact wpAny_pure hq
  · refine wpAny_bind (wpAny_pure ?_)
    simp only [Bool.false_eq_true, if_false]
    refine wpAny_bind (wpAny_mono one (fun r s' z => ?_) fun _ _ e => e)
    obtain ⟨v, rfl, hq⟩ := z
    exact wpAny_pure hq
end
end MyE
namespace MyE
open PySem PySem.SeqAt
open AutoSeq1 (wpAny_loadPart')
open MeetsSeq MeetsSeq2 MeetsSeq3 SeqRoads2
section
variable {prog : Program} {w : World} {A : Around} {R : Result → Shared → Prop}
/-- the first places at which two differ settle the answer -/
structure Ans (N M : Nat) (cs : Nat → Bool) (b : Bool) : Prop where
  no : ∀ i, i < N → i < M → cs i = false → b = false
  yes : (∀ i, i < N → i < M → cs i = true) → b = (N == M)
theorem tuple_eqB (l b : Addr) (items items2 : Array Value) (n n2 : Nat) (dd dd2 : Option Addr) (sl sl2 : Array (Option Value)) (cs : Nat → Bool) (ans : Bool) (hA : Ans items.size items2.size cs ans) (I : Nat → Shared → Prop)
    (turn : ∀ i (h1 : i < items.size) (h2 : i < items2.size) s, I i s → wpAny (model prog w) A.in1 (eqBool items[i] items2[i]) (fun r s' => r = cs i ∧ I (i + 1) s') (fun e s' => R (.error e) s') s)
    (fin : ∀ i s, I i s → R (.ok (.ret (.bool ans))) s) {s : Shared} (hl1 : s.heap.get? l = some { cls := .type "tuple", dict := dd, data := .seq items n, slots := sl }) (hb1 : s.heap.get? b = some { cls := .type "tuple", dict := dd2, data := .seq items2 n2, slots := sl2 }) (h : I 0 s) :
    wpAny (model prog w) A.in1 (Builtin.«tuple.__eq__» ⟨[.ref l, .ref b], []⟩) (GQ.FinOf prog w A R) (fun e s' => R (.error e) s') s := by
  have f2 := AutoSeq1.sub_tuple_tuple
  have hZ : (items.toList.zip items2.toList).length = min items.size items2.size := by simp
  have h0 := h
  obtain ⟨hp, g, d, tk, os⟩ := s
  wp_walk using wpAny_loadPart' hl1, wpAny_loadPart' hb1, wpAny_forIn_list _ (fun rest b s' => b.1 = none ∧ ∃ i, rest = (items.toList.zip items2.toList).drop i ∧ i ≤ min items.size items2.size ∧ (∀ j, j < i → cs j = true) ∧ I i s') _
  case turn =>
    rintro ⟨y, x⟩ rest b s' ⟨hb', i, hz, hi, hall, hI⟩
    have hlt : i < (items.toList.zip items2.toList).length := by
      rcases Nat.lt_or_ge i (items.toList.zip items2.toList).length with h' | h'
      · exact h'
      · rw [List.drop_of_length_le h'] at hz; cases hz
    have h1 : i < items.size := Nat.lt_of_lt_of_le (hZ ▸ hlt) (Nat.min_le_left _ _)
    have h2 : i < items2.size := Nat.lt_of_lt_of_le (hZ ▸ hlt) (Nat.min_le_right _ _)
    rw [List.drop_eq_getElem_cons hlt] at hz
    injection hz with hyx hrest
    have hy : y = items[i] := by have := congrArg Prod.fst hyx; simpa using this
    have hx : x = items2[i] := by have := congrArg Prod.snd hyx; simpa using this
    subst hy hx
    refine wpAny_bind (wpAny_mono (turn i h1 h2 s' hI) (fun r s2 q2 => ?_) fun _ _ x => x)
    obtain ⟨hr, q2⟩ := q2
    subst hr
    cases hc : cs i with
    | true =>
      wp_walk
      exact ⟨rfl, i + 1, hrest, by omega, fun j hj => by
        rcases Nat.lt_or_eq_of_le (Nat.le_of_lt_succ hj) with e | e
        · exact hall j e
        · rw [e]; exact hc, q2⟩
    | false =>
      have hR : R (.ok (.ret (.bool ans))) s2 := fin _ s2 q2
      rw [hA.no i h1 h2 hc] at hR
      wp_walk
      exact hR
  case fin =>
    rintro ⟨b1, b2⟩ s' ⟨hb', i, hz, hi, hall, hI⟩
    simp only at hb'
    subst hb'
    have hge : min items.size items2.size ≤ i := by
      rcases Nat.lt_or_ge i (items.toList.zip items2.toList).length with h' | h'
      · rw [List.drop_eq_getElem_cons h'] at hz; cases hz
      · exact hZ ▸ h'
    have hR : R (.ok (.ret (.bool ans))) s' := fin _ s' hI
    rw [hA.yes (fun j h1 h2 => hall j (by omega))] at hR
    wp_walk
    simpa [Builtin.Tuple.tupleCompareSizes] using hR
  case h =>
    exact ⟨rfl, 0, rfl, Nat.zero_le _, fun j hj => by omega, h0⟩
theorem tuple_neB (l b : Addr) (items items2 : Array Value) (n n2 : Nat) (dd dd2 : Option Addr) (sl sl2 : Array (Option Value)) (cs : Nat → Bool) (ans : Bool) (hA : Ans items.size items2.size cs ans) (I : Nat → Shared → Prop)
    (turn : ∀ i (h1 : i < items.size) (h2 : i < items2.size) s, I i s → wpAny (model prog w) A.in1 (eqBool items[i] items2[i]) (fun r s' => r = cs i ∧ I (i + 1) s') (fun e s' => R (.error e) s') s)
    (fin : ∀ i s, I i s → R (.ok (.ret (.bool (!ans)))) s) {s : Shared} (hl1 : s.heap.get? l = some { cls := .type "tuple", dict := dd, data := .seq items n, slots := sl }) (hb1 : s.heap.get? b = some { cls := .type "tuple", dict := dd2, data := .seq items2 n2, slots := sl2 }) (h : I 0 s) :
    wpAny (model prog w) A.in1 (Builtin.«tuple.__ne__» ⟨[.ref l, .ref b], []⟩) (GQ.FinOf prog w A R) (fun e s' => R (.error e) s') s := by
  have f2 := AutoSeq1.sub_tuple_tuple
  have hZ : (items.toList.zip items2.toList).length = min items.size items2.size := by simp
  have h0 := h
  obtain ⟨hp, g, d, tk, os⟩ := s
  wp_walk using wpAny_loadPart' hl1, wpAny_loadPart' hb1, wpAny_forIn_list _ (fun rest b s' => b.1 = none ∧ ∃ i, rest = (items.toList.zip items2.toList).drop i ∧ i ≤ min items.size items2.size ∧ (∀ j, j < i → cs j = true) ∧ I i s') _
  case turn =>
    rintro ⟨y, x⟩ rest b s' ⟨hb', i, hz, hi, hall, hI⟩
    have hlt : i < (items.toList.zip items2.toList).length := by
      rcases Nat.lt_or_ge i (items.toList.zip items2.toList).length with h' | h'
      · exact h'
      · rw [List.drop_of_length_le h'] at hz; cases hz
    have h1 : i < items.size := Nat.lt_of_lt_of_le (hZ ▸ hlt) (Nat.min_le_left _ _)
    have h2 : i < items2.size := Nat.lt_of_lt_of_le (hZ ▸ hlt) (Nat.min_le_right _ _)
    rw [List.drop_eq_getElem_cons hlt] at hz
    injection hz with hyx hrest
    have hy : y = items[i] := by have := congrArg Prod.fst hyx; simpa using this
    have hx : x = items2[i] := by have := congrArg Prod.snd hyx; simpa using this
    subst hy hx
    refine wpAny_bind (wpAny_mono (turn i h1 h2 s' hI) (fun r s2 q2 => ?_) fun _ _ x => x)
    obtain ⟨hr, q2⟩ := q2
    subst hr
    cases hc : cs i with
    | true =>
      wp_walk
      exact ⟨rfl, i + 1, hrest, by omega, fun j hj => by
        rcases Nat.lt_or_eq_of_le (Nat.le_of_lt_succ hj) with e | e
        · exact hall j e
        · rw [e]; exact hc, q2⟩
    | false =>
      have hR : R (.ok (.ret (.bool (!ans)))) s2 := fin _ s2 q2
      rw [hA.no i h1 h2 hc] at hR
      wp_walk
      exact hR
  case fin =>
    rintro ⟨b1, b2⟩ s' ⟨hb', i, hz, hi, hall, hI⟩
    simp only at hb'
    subst hb'
    have hge : min items.size items2.size ≤ i := by
      rcases Nat.lt_or_ge i (items.toList.zip items2.toList).length with h' | h'
      · rw [List.drop_eq_getElem_cons h'] at hz; cases hz
      · exact hZ ▸ h'
    have hR : R (.ok (.ret (.bool (!ans)))) s' := fin _ s' hI
    rw [hA.yes (fun j h1 h2 => hall j (by omega))] at hR
    wp_walk
    simpa [Builtin.Tuple.tupleCompareSizes, bne] using hR
  case h =>
    exact ⟨rfl, 0, rfl, Nat.zero_le _, fun j hj => by omega, h0⟩
end
end MyE

set_option Elab.async false
set_option linter.all false
set_option maxRecDepth 100000
set_option maxHeartbeats 4000000
namespace My
open PySem PySem.Spec PyProof.Rows L2
/-! ### equality with its answer -/
abbrev EqvB := V → V → Bool → Hp → Prop
def MonB (D : EqvB) : Prop := ∀ x y b H H', Same H H' → D x y b H → D x y b H'
def EqB (X : Cx) (n : Nat) (D : EqvB) : Prop :=
  ∀ (A : Around) (pins : List (Addr × Obj)) (s : Shared) (σ : L2.St) (H : Hp) (x y : V) (u v : Value) (c : Bool), Sub X n A → Inv X pins σ H s → RelV x u → RelV y v → D x y c H →
    wpAny (model X.prog X.w) A (eqBool u v) (fun r s' => r = c ∧ ∃ H', Inv X pins σ H' s' ∧ Same H H') X.xe s
/-- op is == or != : g turns the answer -/
def RcB (X : Cx) (n : Nat) (op : CmpOp) (g : Bool → Bool) (D : EqvB) : Prop :=
  ∀ (A : Around) (pins : List (Addr × Obj)) (s : Shared) (σ : L2.St) (H : Hp) (x y : V) (u v : Value) (c : Bool), Sub X n A → Inv X pins σ H s → RelV x u → RelV y v → D x y c H →
    wpAny (model X.prog X.w) A (richCompare op u v) (fun r s' => r = .bool (g c) ∧ ∃ H', Inv X pins σ H' s' ∧ Same H H') X.xe s
section
variable {X : Cx} {n m : Nat} {D D' : EqvB}
theorem EqB.mono (h : EqB X n D) (hn : n ≤ m) : EqB X m D := fun A pins s σ H x y u v c sb => h A pins s σ H x y u v c (sb.mono hn)
theorem EqB.or (h : EqB X n D) (h' : EqB X n D') : EqB X n (fun x y c H => D x y c H ∨ D' x y c H) := fun A pins s σ H x y u v c sb I rx ry d => by
  rcases d with d | d
  · exact h A pins s σ H x y u v c sb I rx ry d
  · exact h' A pins s σ H x y u v c sb I rx ry d
theorem MonB.or (h : MonB D) (h' : MonB D') : MonB (fun x y c H => D x y c H ∨ D' x y c H) := fun x y c H H' e d => d.elim (fun d => .inl (h x y c H H' e d)) fun d => .inr (h' x y c H H' e d)
/-- flat values -/
def DFlatB : EqvB := fun x y c _ => flatV x = true ∧ flatV y = true ∧ c = eqV x y
theorem mon_flatB : MonB DFlatB := fun _ _ _ _ _ _ d => d
theorem eqB_flat : EqB X 0 DFlatB := by
  intro A pins s σ H x y u v c sb I rx ry d
  obtain ⟨fx, fy, rfl⟩ := d
  have q := eqAt_V (A := A) (s := s) rx ry fx fy
  exact q X.prog X.w X.xe _ ⟨rfl, H, I, fun _ _ h => h⟩
/-- one and the same object -/
def DSameB : EqvB := fun x y c _ => ∃ a, x = .ref a ∧ y = .ref a ∧ c = true
theorem mon_sameB : MonB DSameB := fun _ _ _ _ _ _ d => d
theorem eqB_same : EqB X 0 DSameB := by
  intro A pins s σ H x y u v c sb I rx ry d
  obtain ⟨a, rfl, rfl, rfl⟩ := d
  cases rx
  cases ry
  exact SeqAt.EqAt.same (A := A) (s := s) (.ref a) X.prog X.w X.xe _ ⟨rfl, H, I, fun _ _ h => h⟩
/-- item by item -/
def PrsB (D : EqvB) (xs ys : List V) (c : Bool) (H : Hp) : Prop := ∃ cs : Nat → Bool, MyE.Ans xs.length ys.length cs c ∧ ∀ (i : Nat) x y, xs[i]? = some x → ys[i]? = some y → D x y (cs i) H
theorem PrsB.mon (hD : MonB D) {xs ys : List V} {c : Bool} {H H' : Hp} (e : Same H H') (p : PrsB D xs ys c H) : PrsB D xs ys c H' := by
  obtain ⟨cs, a, f⟩ := p
  exact ⟨cs, a, fun i x y h1 h2 => hD x y _ H H' e (f i x y h1 h2)⟩
def LoopB (X : Cx) (pins : List (Addr × Obj)) (σ : L2.St) (H : Hp) (s' : Shared) : Prop := ∃ H', Inv X pins σ H' s' ∧ Same H H'
theorem turnB (hD : MonB D) (h : EqB X n D) {A : Around} (sb : Sub X (n + 1) A) {pins : List (Addr × Obj)} {σ : L2.St} {H : Hp} {xs ys : List V} {its its2 : List Value} {cs : Nat → Bool} (p : ∀ (i : Nat) x y, xs[i]? = some x → ys[i]? = some y → D x y (cs i) H) (r : Vals xs its) (r2 : Vals ys its2)
    (i : Nat) (h1 : i < its.toArray.size) (h2 : i < its2.toArray.size) (s' : Shared) (l : LoopB X pins σ H s') :
    wpAny (model X.prog X.w) A.in1 (eqBool its.toArray[i] its2.toArray[i]) (fun r s2 => r = cs i ∧ LoopB X pins σ H s2) X.xe s' := by
  obtain ⟨H1, I1, e1⟩ := l
  have g1 : its[i]? = some its.toArray[i] := by
    have h1' : i < its.length := by simpa using h1
    rw [List.getElem?_eq_getElem h1'] <;> simp
  have g2 : its2[i]? = some its2.toArray[i] := by
    have h2' : i < its2.length := by simpa using h2
    rw [List.getElem?_eq_getElem h2'] <;> simp
  have k1 : i < xs.length := by rw [r.length]; simpa using h1
  have k2 : i < ys.length := by rw [r2.length]; simpa using h2
  obtain ⟨u, hu, ru⟩ := r.get (List.getElem?_eq_getElem k1)
  obtain ⟨v, hv, rv⟩ := r2.get (List.getElem?_eq_getElem k2)
  rw [g1] at hu
  rw [g2] at hv
  rw [Option.some.inj hu, Option.some.inj hv]
  refine wpAny_mono (h A.in1 pins s' σ H1 _ _ u v _ sb.in1 I1 ru rv (hD _ _ _ _ _ e1 (p i _ _ (List.getElem?_eq_getElem k1) (List.getElem?_eq_getElem k2)))) (fun r s2 q => ?_) fun _ _ x => x
  obtain ⟨hr, H2, I2, e2⟩ := q
  exact ⟨hr, H2, I2, fun a o z => e2 a o (e1 a o z)⟩
def DTupB (K : PySem.W.Frag) (D : EqvB) : EqvB := fun x y c H => ∃ a b xs ys, x = .ref a ∧ y = .ref b ∧ SqT K H a xs ∧ SqT K H b ys ∧ PrsB D xs ys c H
theorem mon_tupB {K : PySem.W.Frag} (hD : MonB D) : MonB (DTupB K D) := fun x y c H H' e d => by
  obtain ⟨a, b, xs, ys, hx, hy, h1, h2, p⟩ := d
  exact ⟨a, b, xs, ys, hx, hy, h1.ext e, h2.ext e, p.mon hD e⟩
theorem rcB_tup_eq (hD : MonB D) (h : EqB X n D) : RcB X (n + 1) .Eq id (DTupB X.K D) := by
  intro A pins s σ H x y u v c sb I rx ry d
  obtain ⟨a, b, xs, ys, rfl, rfl, ha, hb, cs, hA, p⟩ := d
  cases rx
  cases ry
  obtain ⟨its, r, e, z⟩ := I.tuple ha
  obtain ⟨its2, r2, e2, z2⟩ := I.tuple hb
  obtain ⟨⟨cls, dd, data, sl⟩, ho, hc, k, hd⟩ := id e
  obtain ⟨⟨cls2, dd2, data2, sl2⟩, ho2, hc2, k2, hd2⟩ := id e2
  simp only at hc hd hc2 hd2
  subst hc hd hc2 hd2
  have hA' : MyE.Ans its.toArray.size its2.toArray.size cs c := by rw [List.size_toArray, List.size_toArray, ← r.length, ← r2.length]; exact hA
  refine wpAny_richCompare_same_room (op := .Eq) ⟨_, ho, rfl⟩ ⟨_, ho2, rfl⟩ F.slot_tuple_eq (GQ.call_here F.slot_tuple_eq ⟨_, ho, rfl⟩ F.entry_tuple_eq (F.args_tuple_eq_2 _ _) ?_) sb.room.units0
  exact MyE.tuple_eqB (R := wants (fun v s' => v ≠ .notImplemented ∧ v = .bool c ∧ LoopB X pins σ H s') X.xe) a b its.toArray its2.toArray k k2 dd dd2 sl sl2 cs c hA' (fun _ s' => LoopB X pins σ H s') (fun i h1 h2 s' q => turnB hD h sb p r r2 i h1 h2 s' q) (fun i s' q => ⟨(fun x => nomatch x), rfl, q⟩) ho ho2 ⟨H, I, fun _ _ h => h⟩
theorem rcB_tup_ne (hD : MonB D) (h : EqB X n D) : RcB X (n + 1) .NotEq not (DTupB X.K D) := by
  intro A pins s σ H x y u v c sb I rx ry d
  obtain ⟨a, b, xs, ys, rfl, rfl, ha, hb, cs, hA, p⟩ := d
  cases rx
  cases ry
  obtain ⟨its, r, e, z⟩ := I.tuple ha
  obtain ⟨its2, r2, e2, z2⟩ := I.tuple hb
  obtain ⟨⟨cls, dd, data, sl⟩, ho, hc, k, hd⟩ := id e
  obtain ⟨⟨cls2, dd2, data2, sl2⟩, ho2, hc2, k2, hd2⟩ := id e2
  simp only at hc hd hc2 hd2
  subst hc hd hc2 hd2
  have hA' : MyE.Ans its.toArray.size its2.toArray.size cs c := by rw [List.size_toArray, List.size_toArray, ← r.length, ← r2.length]; exact hA
  refine wpAny_richCompare_same_room (op := .NotEq) ⟨_, ho, rfl⟩ ⟨_, ho2, rfl⟩ F.slot_tuple_ne (GQ.call_here F.slot_tuple_ne ⟨_, ho, rfl⟩ F.entry_tuple_ne (F.args_tuple_ne_2 _ _) ?_) sb.room.units0
  exact MyE.tuple_neB (R := wants (fun v s' => v ≠ .notImplemented ∧ v = .bool (!c) ∧ LoopB X pins σ H s') X.xe) a b its.toArray its2.toArray k k2 dd dd2 sl sl2 cs c hA' (fun _ s' => LoopB X pins σ H s') (fun i h1 h2 s' q => turnB hD h sb p r r2 i h1 h2 s' q) (fun i s' q => ⟨(fun x => nomatch x), rfl, q⟩) ho ho2 ⟨H, I, fun _ _ h => h⟩
/-- from a rich comparison to == within; the same object is equal to itself -/
theorem RcB.eqB (h : RcB X n .Eq id D) (hr : ∀ x y c H, D x y c H → ∃ a b, x = .ref a ∧ y = .ref b ∧ (a = b → c = true)) : EqB X n D := by
  intro A pins s σ H x y u v c sb I rx ry d
  obtain ⟨a, b, rfl, rfl, hs⟩ := hr _ _ _ _ d
  cases rx
  cases ry
  by_cases hab : a = b
  · subst hab
    rw [hs rfl]
    exact SeqAt.EqAt.same (A := A) (s := s) (.ref a) X.prog X.w X.xe _ ⟨rfl, H, I, fun _ _ h => h⟩
  · refine GQ.eqBool_refG hab (wpAny_mono (h A pins s σ H (.ref a) (.ref b) _ _ c sb I rfl rfl d) (fun r s' q => ?_) fun _ _ x => x)
    obtain ⟨hr', q⟩ := q
    exact ⟨c, hr', rfl, q⟩
/-! #### own classes -/
theorem TyX.ext {K : PySem.W.Frag} {H H' : Hp} {x : V} {t : Value} (h : TyX K H x t) (e : Same H H') : TyX K H' x t := by
  cases h with
  | base b =>
    cases b with
    | non => exact .base .non
    | bl y => exact .base (.bl y)
    | int i => exact .base (.int i)
    | str y => exact .base (.str y)
    | flt y => exact .base (.flt y)
    | lst h => exact .base (.lst (e _ _ h))
    | frz h => exact .base (.frz (e _ _ h))
    | tup h => exact .base (.tup (e _ _ h))
    | dK h => exact .base (.dK (e _ _ h))
    | dT h => exact .base (.dT (e _ _ h))
    | ins h cl ha hn htk hm => exact .base (.ins (e _ _ h) cl ha hn htk hm)
  | byt b => exact .byt b
  | set h => exact .set (e _ _ h)
  | kList h c => exact .kList h c
  | kTuple h c => exact .kTuple h c
  | kDict h c => exact .kDict h c
  | fTuple h => exact .fTuple (e _ _ h)
  | fDict h => exact .fDict (e _ _ h)
theorem looks_ty {pins : List (Addr × Obj)} {σ : L2.St} {H : Hp} {s : Shared} {x : V} {u t : Value} (I : Inv X pins σ H s) (rx : RelV x u) (ty : TyX X.K H x t) : PySem.W.Looks (model X.prog X.w) s.heap (typeOf u) t := by
  obtain ⟨P, Z, p, _⟩ := kit_of I rx ty
  exact Z.ty _ _ I.kIn p
/-- what an own == says of an object and another value -/
abbrev OwnR := Addr → V → Bool → Hp → Prop
def MonO (R : OwnR) : Prop := ∀ a y c H H', Same H H' → R a y c H → R a y c H'
def spEqB (R : OwnR) : Sp := fun vs H Q _ => ∃ a y c, vs = [.ref a, y] ∧ R a y c H ∧ ∀ H', Same H H' → Q (.bl c) H'
def DInsB (K : PySem.W.Frag) (C : Addr) (R : OwnR) : EqvB := fun x y c H => ∃ a dx fs t, x = .ref a ∧ H a = some (.ins C dx fs) ∧ TyX K H y t ∧ PySem.W.notFirst K C t = true ∧ R a y c H
theorem mon_insB {K : PySem.W.Frag} {C : Addr} {R : OwnR} (hR : MonO R) : MonB (DInsB K C R) := fun x y c H H' e d => by
  obtain ⟨a, dx, fs, t, hx, h1, ty, nf, r⟩ := d
  exact ⟨a, dx, fs, t, hx, e _ _ h1, My.TyX.ext ty e, nf, hR a y c H H' e r⟩
theorem run_eq {CX : CXT} {f : Addr} {fd : FuncData} {ps : List Str} {R : OwnR} {E : XK} (F : FnOk X.prog X.w X.K X.mg X.base CX n f fd ps (spEqB R)) (hb : Binds X.K fd ps []) (hx : Passes CX X E)
    {A : Around} (sb : Sub X n A) {pins : List (Addr × Obj)} {σ : L2.St} {H : Hp} {s : Shared} {a : Addr} {y : V} {v : Value} {c : Bool} (I : Inv X pins σ H s) (ry : RelV y v) (hr : R a y c H) :
    wpAny (model X.prog X.w) A (call (.ref f) [.ref a, v]) (fun r s' => r = .bool c ∧ LoopB X pins σ H s') X.xe s := by
  have hsp : spEqB R [.ref a, y] H (fun v H' => v = .bl c ∧ Same H H') E := ⟨a, y, c, rfl, hr, fun H' e => ⟨rfl, e⟩⟩
  have e0 : Env0 X.prog X.w X.K X.mg X.base A X.stack s H := by
    have e := I.env0
    exact ⟨by rw [sb.fr]; exact e.frames, e.mod, e.bs, e.bsz, e.funs, e.frf, e.hok, e.bare⟩
  have hl := F.len _ _ _ _ hsp
  have r2 : Vals [V.ref a, y] [Value.ref a, v] := .cons rfl (.cons ry .nil)
  refine wpAny_call (codeAny_mono (F.run A X.stack s H ⟨[.ref a, v], []⟩ [.ref a, v] [.ref a, y] _ E sb.room e0 (by
    have := hb s [.ref a, v] I.kIn (by simpa using hl)
    simpa using this) r2 hsp) fun r s' hq => ?_)
  cases r with
  | error e => exact hx pins σ H s e s' I hq
  | ok fl =>
    cases fl with
    | ret w =>
      obtain ⟨z, H', I', rz, ez, ex⟩ := I.after hq
      subst ez
      cases rz
      exact ⟨rfl, H', I', ex⟩
    | next => exact False.elim hq
    | brk => exact False.elim hq
    | cont => exact False.elim hq
theorem rcB_ins_eq {CX : CXT} {C f : Addr} {fd : FuncData} {ps : List Str} {R : OwnR} {E : XK} (F : FnOk X.prog X.w X.K X.mg X.base CX n f fd ps (spEqB R))
    (hs : PySem.W.findIn X.K (.ref C) "__eq__" = some (some (.ref f))) (hf : PySem.W.isFn X.K (.ref f) = true) (hb : Binds X.K fd ps []) (hx : Passes CX X E) : RcB X n .Eq id (DInsB X.K C R) := by
  intro A pins s σ H x y u v c sb I rx ry d
  obtain ⟨a, dx, fs, t, rfl, ha, ty, nf, hr⟩ := d
  cases rx
  obtain ⟨mA, J, _⟩ := ins_get I.hok ha
  obtain ⟨od, J, _⟩ := J.look
  obtain ⟨m, hF⟩ := I.fr
  refine PySem.W.cmp_K (op := .Eq) (tb := t) sb.room.units0 hF I.ok.mod.kin J (looks_ty I ry ty) nf hs hf ?_
  refine wpAny_mono (run_eq F hb hx sb I ry hr) (fun r s' z => ?_) fun _ _ z => z
  obtain ⟨rfl, q⟩ := z
  exact ⟨rfl, q⟩
theorem rcB_ins_ne {CX : CXT} {C f : Addr} {fd : FuncData} {ps : List Str} {R : OwnR} {E : XK} (F : FnOk X.prog X.w X.K X.mg X.base CX n f fd ps (spEqB R))
    (hs : PySem.W.findIn X.K (.ref C) "__eq__" = some (some (.ref f))) (hf : PySem.W.isFn X.K (.ref f) = true) (hne : PySem.W.findIn X.K (.ref C) "__ne__" = some (some (.builtin "object.__ne__"))) (hobj : PySem.W.mroIn X.K C (.type "object") = some true)
    (hb : Binds X.K fd ps []) (hx : Passes CX X E) : RcB X (n + 1) .NotEq not (DInsB X.K C R) := by
  intro A pins s σ H x y u v c sb I rx ry d
  obtain ⟨a, dx, fs, t, rfl, ha, ty, nf, hr⟩ := d
  cases rx
  obtain ⟨mA, J, _⟩ := ins_get I.hok ha
  obtain ⟨od, J, _⟩ := J.look
  obtain ⟨m, hF⟩ := I.fr
  refine MyE.ne_KO (tb := t) sb.in1.room.units0 hF I.ok.mod.kin J (looks_ty I ry ty) nf hobj hne hs hf ?_
  refine wpAny_mono (run_eq F hb hx sb.in1 I ry hr) (fun r s' z => ?_) fun _ _ z => z
  obtain ⟨rfl, q⟩ := z
  exact ⟨c, rfl, rfl, q⟩
/-- x == y, x != y as expressions -/
def rCmpB (g : Bool → Bool) (D : EqvB) : R2 := fun x y H Q => ∃ c, D x y c H ∧ ∀ H', Same H H' → Q (.bl (g c)) H'
theorem op_cmpB {op : CmpOp} {g : Bool → Bool} (h : RcB X n op g D) (ho : compareOp op = richCompare op) (hr : Room n X.A) : OpR X (compareOp op) (rCmpB g D) := by
  intro pins s σ H x y v u Q I rx ry hq
  obtain ⟨c, d, q⟩ := hq
  rw [ho]
  refine wpAny_mono (h X.A pins s σ H x y v u c ⟨hr, rfl⟩ I rx ry d) (fun r s' z => ?_) fun _ _ x => x
  obtain ⟨hr', H', I', e⟩ := z
  subst hr'
  exact ⟨.bl (g c), H', I', rfl, q H' e⟩
end
end My

set_option Elab.async false
set_option linter.all false
set_option maxRecDepth 100000
set_option maxHeartbeats 4000000
namespace My
open PySem PySem.Spec PyProof.Rows L2 PySem
/-! ### min(xs, default=d), ints -/
def LeastOf (ns : List Int) (d M : Int) : Prop := (ns = [] → M = d) ∧ (ns ≠ [] → M ∈ ns ∧ ∀ a ∈ ns, M ≤ a)
theorem foldl_min_le : ∀ (ns : List Int) (a : Int), ns.foldl min a ≤ a ∧ (∀ b ∈ ns, ns.foldl min a ≤ b) ∧ (ns.foldl min a = a ∨ ns.foldl min a ∈ ns)
  | [], a => ⟨Int.le_refl _, (fun b hb => by cases hb), Or.inl rfl⟩
  | x :: ns, a => by
    obtain ⟨h1, h2, h3⟩ := foldl_min_le ns (min a x)
    rw [List.foldl_cons]
    refine ⟨by omega, fun b hb => ?_, ?_⟩
    · rcases List.mem_cons.mp hb with rfl | hb
      · omega
      · exact h2 b hb
    · rcases h3 with e | e
      · rcases Int.le_total a x with q | q
        · left; omega
        · right; rw [e]; rw [show min a x = x by omega]; exact List.mem_cons_self
      · right; exact List.mem_cons_of_mem _ e
theorem readsAll_ints {h : Heap} : ∀ {us : List Value} {ns : List Int}, Vals (ns.map V.int) us → ∃ as, ReadsAll h us (ns.map PyData.int) as
  | _, [], .nil => ⟨_, .nil⟩
  | _, n :: ns, .cons r t => by
    obtain ⟨k, rfl⟩ := r
    obtain ⟨as, q⟩ := readsAll_ints (h := h) t
    exact ⟨_, .cons (.int n k) q⟩
theorem alike_ints (ns : List Int) : PySem.W.AlikeAll (ns.map PyData.int) := by
  refine ⟨fun x hx y hy => ?_, fun x hx => ?_⟩
  · obtain ⟨a, _, rfl⟩ := List.mem_map.mp hx
    obtain ⟨b, _, rfl⟩ := List.mem_map.mp hy
    rfl
  · obtain ⟨a, _, rfl⟩ := List.mem_map.mp hx
    exact fun z => nomatch z
theorem depth_ints : ∀ ns : List Int, PyData.depthAll (ns.map PyData.int) ≤ 1
  | [] => by decide
  | n :: ns => by
    have := depth_ints ns
    show max (PyData.depth (.int n)) (PyData.depthAll (ns.map PyData.int)) ≤ 1
    have h1 : PyData.depth (.int n) ≤ 1 := by first | decide | (unfold PyData.depth; omega) | exact Nat.le_refl _
    omega
def rMinD (K : PySem.W.Frag) : List V → List V → Hp → VK → Prop := fun vs zs H Q => ∃ (a : Addr) (ns : List Int) (d : Int), vs = [V.ref a] ∧ zs = [V.int d] ∧ SqL K H a (ns.map V.int) ∧ ∀ M, LeastOf ns d M → Q (.int M) H
theorem cr_minD {X : Cx} (hc : X.calm = true) (hu : X.A.units + 64 < cLine) : CallRK X (.builtin "min") [Str.ofString "default"] (rMinD X.K) := by
  intro pins s σ H xs zs us ws Q I r1 r2 h
  obtain ⟨a, ns, d, rfl, rfl, hs, q⟩ := h
  obtain ⟨its, rv, hl, _⟩ := I.list hs
  rw [Vals.ref1 r1]
  cases r2 with
  | cons rd rr =>
    cases rr
    obtain ⟨kd, rfl⟩ := rd
    obtain ⟨as, ra⟩ := readsAll_ints (h := s.heap) rv
    refine PySem.W.min_list_default (I.ok.hd hc) hl.isList (by simpa using ra) (alike_ints ns) (by have := depth_ints ns; omega) (fun h0 h' tk hk => ?_) (fun y ys i v h' tk bs he hv hr hk => ?_)
    · have hn : ns = [] := by simpa using h0
      exact ⟨.int d, H, I.kept hk, ⟨_, rfl⟩, q d ⟨fun _ => rfl, fun z => absurd hn z⟩⟩
    · obtain ⟨n, ns', rfl, rfl, rfl⟩ : ∃ n ns', ns = n :: ns' ∧ y = .int n ∧ ys = ns'.map PyData.int := by
        cases ns with
        | nil => simp at he
        | cons n ns' =>
          simp at he
          exact ⟨n, ns', rfl, he.1.symm, he.2.symm⟩
      rw [PySem.W.minD_ints] at hr
      obtain ⟨t, rfl⟩ : ∃ t, v = .int (ns'.foldl min n) t := by
        cases hr
        exact ⟨_, rfl⟩
      obtain ⟨h1, h2, h3⟩ := foldl_min_le ns' n
      refine ⟨.int _, H, I.kept hk, ⟨_, rfl⟩, q _ ⟨(fun z => by cases z), fun _ => ⟨?_, fun b hb => ?_⟩⟩⟩
      · rcases h3 with e | e
        · rw [e]; exact List.mem_cons_self
        · exact List.mem_cons_of_mem _ e
      · rcases List.mem_cons.mp hb with rfl | hb
        · exact h1
        · exact h2 b hb
/-! ### xs[::s], s is 1 or -1 -/
def tRevS (K : PySem.W.Frag) (te : TE) (ts : TO) : TE := fun σ H Q => te σ H fun x H1 => ts σ H1 fun o H2 => ∃ a xs b, x = .ref a ∧ SqL K H2 a xs ∧ o = some (if b = true then -1 else 1) ∧ ∀ p, H2 p = none → Q (.ref p) (upd H2 p (.lst (if b = true then xs.reverse else xs)))
theorem pick_one (items : Array Value) : slicePick items none none (some 1) = items.toList.toArray := by
  unfold slicePick
  have e : sliceBounds none none (some 1) items.size = (0, (items.size : Int), 1) := by first | rfl | simp [sliceBounds]
  rw [e]
  have h := pick_run items 0 items.size
  simp only [sliceRange_one, pick_run]
  have h2 := PySem.W.kmk_pick_nat items (lo := none) (hi := none) (a := 0) (b := items.size) (by first | rfl | simp [sliceBounds])
  have : (sliceRange 0 (items.size : Int) 1).filterMap (items[·]?) = items.toList := by
    have e3 := sliceRange_one (0 : Nat) items.size
    rw [show ((0 : Nat) : Int) = 0 from rfl] at e3
    rw [e3]
    have := pick_run items 0 items.size
    rw [show items.size - 0 = items.size by omega]
    rw [this, List.drop_zero, List.take_of_length_le (by rw [Array.length_toList]; exact Nat.le_refl _)]
  rw [this]
theorem pe_revS {X : Cx} {K : PySem.W.Frag} {e st : Expr} {te : TE} {ts : TO} {p3 pos : Pos} (he : PE X e te) (hst : PO X (some st) ts) (hK : X.K = K := by rfl) : PE X (.Subscript e (.Slice none none (some st) p3) pos) (tRevS K te ts) := by
  subst hK
  refine ⟨fun pins s σ H Q I h => ?_⟩
  refine Subscript_ (thn (he.run pins s σ H _ I h) fun v s1 ⟨x, H1, I1, r1, q1⟩ => ?_)
  refine wpAny_Slice (thn (po_none.run pins s1 σ H1 (fun o H2 => o = none ∧ H2 = H1) I1 ⟨rfl, rfl⟩) fun vl s2 ⟨l, H2, I2, pl, el, e2⟩ => ?_)
  subst el e2
  refine thn (po_none.run pins s2 σ H2 (fun o H3 => o = none ∧ H3 = H2) I2 ⟨rfl, rfl⟩) fun vu s3 ⟨u, H3, I3, pu, eu, e3⟩ => ?_
  subst eu e3
  refine thn (hst.run pins s3 σ H3 _ I3 q1) fun vs s4 ⟨o, H4, I4, ps, q4⟩ => ?_
  obtain ⟨a, xs, b, ex, hx, eo, q⟩ := q4
  subst ex eo
  cases r1
  have I5 : Inv X pins σ H4 { s4 with heap := s4.heap.push { cls := .type "slice", data := .fields #[vl, vu, vs] } } := I4.kept (t' := s4.toks) fun b ob q => Heap.get?_push_of_some _ q
  obtain ⟨its, r, ht, hz⟩ := I5.list hx
  have hlen := r.length
  show wpAny (model X.prog X.w) X.A (subscriptTail e (.Slice none none (some st) p3) (.ref a) (.ref s4.heap.objs.size)) (EP X pins σ Q) X.xe { s4 with heap := s4.heap.push { cls := .type "slice", data := .fields #[vl, vu, vs] } }
  refine tail_any (ops := [.ref a, .ref s4.heap.objs.size]) ht.isList.typeIs (PySem.slot_list_getitem.lookup) ?_ (by with_unfolding_all rfl)
  refine wpAny_getItem_list_slice ht.isList (Heap.IsSliceOf.new _ vl vu vs) pl pu ps (by cases b <;> decide) ?_ (by rw [List.size_toArray]; omega)
  cases b with
  | true =>
    simp only [if_true] at q ⊢
    rw [PySem.W.krv_pick]
    refine ⟨.ref _, _, I5.laid (t' := s4.toks) (o := .lst xs.reverse) (fun b ob q => Heap.get?_push_of_some _ q) (Nat.le_refl _) ?_, rfl, q _ (I5.hok.fresh (Nat.le_refl _))⟩
    exact ⟨by rw [List.length_reverse]; exact hz, _, 0, r.reverse, Heap.get?_push_size _ rfl⟩
  | false =>
    simp only [Bool.false_eq_true, if_false] at q ⊢
    rw [pick_one]
    refine ⟨.ref _, _, I5.laid (t' := s4.toks) (o := .lst xs) (fun b ob q => Heap.get?_push_of_some _ q) (Nat.le_refl _) ?_, rfl, q _ (I5.hok.fresh (Nat.le_refl _))⟩
    exact ⟨hz, _, 0, r, Heap.get?_push_size _ rfl⟩
/-! ### xs[i] += e -/
theorem pget_list {X : Cx} : PGet X (rIxL X.K) := by
  intro pins s σ H x y v u Q I rx ry h
  obtain ⟨p, xs, i, z, rfl, rfl, hq, he, q⟩ := h
  cases rx
  obtain ⟨t, rfl⟩ := ry
  obtain ⟨its, r, pl, hz⟩ := I.list hq
  obtain ⟨j, h1, h2, h3, h4, h5⟩ := atI_get he
  obtain ⟨w, ew, rw'⟩ := r.get h2
  have hl := r.length
  have hn := line63
  have fin : EP X pins σ Q w s := ⟨z, H, I, rw', q⟩
  by_cases h0 : 0 ≤ i
  · have hj : i.toNat = j := by
      rw [seqIndex_of h0 h5] at h1
      exact Option.some.inj h1
    exact wpAny_getItem_list pl.isList h0 (by omega) (by rw [hj]; simpa using ew) fin
  · have hj : (i + (its.toArray.size : Int)).toNat = j := by
      rw [seqIndex_neg (by omega) h4] at h1
      rw [List.size_toArray, ← hl]
      exact Option.some.inj h1
    exact wpAny_getItem_list_neg pl.isList (by omega) (by rw [List.size_toArray] <;> omega) (by omega) (by rw [hj]; simpa using ew) fin
end My
namespace My
open PySem PySem.Spec PyProof.Rows L2
/-! ### zip of three lists -/
def Itz3 (K : PySem.W.Frag) (a b c : Addr) : It :=
  ⟨fun i H => ∃ (xs ys zs : List V) (x y z : V), SqL K H a xs ∧ SqL K H b ys ∧ SqL K H c zs ∧ xs[i]? = some x ∧ ys[i]? = some y ∧ zs[i]? = some z,
    fun i H v H' => ∃ T x y z, v = .ref T ∧ H T = none ∧ H' = upd H T (.tup [x, y, z]) ∧ (∀ xs, SqL K H a xs → xs[i]? = some x) ∧ (∀ ys, SqL K H b ys → ys[i]? = some y) ∧ ∀ zs, SqL K H c zs → zs[i]? = some z,
    fun i H => ∃ xs ys zs : List V, SqL K H a xs ∧ SqL K H b ys ∧ SqL K H c zs ∧ min (min xs.length ys.length) zs.length = i⟩
/-- the iterators' cells: n the heap's size when they were laid -/
def tn3 (n a b c : Addr) (i : Nat) (h : Heap) : Prop := (a < n ∧ b < n ∧ c < n) ∧ IsZip h (n + 5) (n + 3) (n + 4) .none ∧ IsTupOf3 h (n + 3) (.ref n) (.ref (n + 1)) (.ref (n + 2)) ∧ (∃ x y z, IsTupOf3 h (n + 4) x y z) ∧ h.IsListIter n a i ∧ h.IsListIter (n + 1) b i ∧ h.IsListIter (n + 2) c i
theorem sep3 {n a b c : Addr} (ha : a < n) (hb : b < n) (hc : c < n) : ZipSep3 (n + 5) (n + 3) (n + 4) n (n + 1) (n + 2) [n, a] [n + 1, b] [n + 2, c] :=
  zip_sep3 (N := n) (fp1 := [a]) (fp2 := [b]) (fp3 := [c]) (fun d hd => by rw [List.mem_singleton.mp hd]; exact ha) (fun d hd => by rw [List.mem_singleton.mp hd]; exact hb) (fun d hd => by rw [List.mem_singleton.mp hd]; exact hc)
theorem nlt {n a : Addr} (ha : a < n) (k : Nat) : a ≠ n + k := Nat.ne_of_lt (Nat.lt_of_lt_of_le ha (Nat.le_add_right n k))
theorem turn_zip3 {P : Program} {w : World} {K : PySem.W.Frag} {elts : List Expr} {kk : Nat} {tpos : Pos} {n a b c : Addr} :
    Turn P w K (.Tuple elts kk tpos) (Itz3 K a b c) [n + 5, n + 3, n + 4, n, n + 1, n + 2] (n + 5) (tn3 n a b c) where
  mem := by simp
  obj := fun i h st d hd => by
    obtain ⟨_, hz, hTI, ⟨x, y, z, hTO⟩, ⟨o1, e1, _, d1⟩, ⟨o2, e2, _, d2⟩, ⟨o3, e3, _, d3⟩⟩ := st
    simp only [List.mem_cons, List.not_mem_nil, or_false] at hd
    rcases hd with q | q | q | q | q | q
    · rw [q]; exact ⟨_, hz, fun v q => nomatch q⟩
    · rw [q]; exact ⟨_, hTI, fun v q => nomatch q⟩
    · rw [q]; exact ⟨_, hTO, fun v q => nomatch q⟩
    · rw [q]; exact ⟨o1, e1, fun v q => by rw [d1] at q; cases q⟩
    · rw [q]; exact ⟨o2, e2, fun v q => by rw [d2] at q; cases q⟩
    · rw [q]; exact ⟨o3, e3, fun v q => by rw [d3] at q; cases q⟩
  keep := fun i h h' st k => by
    obtain ⟨hlt, hz, hTI, ⟨x, y, z, hTO⟩, h1, h2, h3⟩ := st
    exact ⟨hlt, k _ (by simp) _ hz, k _ (by simp) _ hTI, ⟨x, y, z, k _ (by simp) _ hTO⟩, h1.at fun o q => k _ (by simp) o q, h2.at fun o q => k _ (by simp) o q, h3.at fun o q => k _ (by simp) o q⟩
  item := by
    intro X hP hw hK hc i pins s σ H E I hf st hg
    subst hP hw hK
    obtain ⟨⟨la, lb, lc⟩, hz, hTI, hTO, h1, h2, h3⟩ := st
    obtain ⟨xs, ys, zs, x, y, z, hqx, hqy, hqz, hx, hy, hzz⟩ := hg
    obtain ⟨its, rv, p, _⟩ := I.list hqx
    obtain ⟨its2, rv2, p2, _⟩ := I.list hqy
    obtain ⟨its3, rv3, p3, _⟩ := I.list hqz
    obtain ⟨u, hu, ru⟩ := rv.get hx
    obtain ⟨u2, hu2, ru2⟩ := rv2.get hy
    obtain ⟨u3, hu3, ru3⟩ := rv3.get hzz
    have W := WalksT.zipD3 (prog := X.prog) (w := X.w) (A := X.A) (sep3 la lb lc) (Draws.list (A := X.A.in1) (I.ok.hd hc) n a (by simpa using nlt la 0) its.toArray) (Draws.list (A := X.A.in1) (I.ok.hd hc) (n + 1) b (nlt lb 1) its2.toArray) (Draws.list (A := X.A.in1) (I.ok.hd hc) (n + 2) c (nlt lc 2) its3.toArray)
    have e1 : its.toArray[i]? = some u := by simpa using hu
    have e2 : its2.toArray[i]? = some u2 := by simpa using hu2
    have e3 : its3.toArray[i]? = some u3 := by simpa using hu3
    have b1 : i < its.toArray.size := (Array.getElem?_eq_some_iff.mp e1).1
    have b2 : i < its2.toArray.size := (Array.getElem?_eq_some_iff.mp e2).1
    have b3 : i < its3.toArray.size := (Array.getElem?_eq_some_iff.mp e3).1
    refine W.item i s _ _ (by omega) ⟨hz, hTI, hTO, ⟨h1, p.isList⟩, ⟨h2, p2.isList⟩, ⟨h3, p3.isList⟩⟩ fun T vals h' tk hP hT hTup hMid hk => ?_
    obtain ⟨x1, x2, x3, f1, f2, f3, rfl⟩ := hP
    have g1 : x1 = u := Option.some.inj (f1.symm.trans e1)
    have g2 : x2 = u2 := Option.some.inj (f2.symm.trans e2)
    have g3 : x3 = u3 := Option.some.inj (f3.symm.trans e3)
    subst g1 g2 g3
    refine ⟨_, rfl, W.go elts kk tpos i T { s with heap := h', toks := tk } _ _ hMid fun h'' st' hk' => ?_⟩
    have hTw := W.apart i T h' hMid
    have hT2 : h''.IsTuple T #[x1, x2, x3] := hTup.at fun o e => hk' T o hTw e
    obtain ⟨oT, eT, cT, nT, dT⟩ := id hT2
    have new : ObjOk X.prog X.w (upd H T (.tup [x, y, z])) h'' T (.tup [x, y, z]) :=
      ⟨by show 3 ≤ sizeLine; decide, [x1, x2, x3], .cons ru (.cons ru2 (.cons ru3 .nil)), ⟨oT, eT, cT, nT, dT⟩⟩
    have wr : ∀ d, d ∉ [n + 5, n + 3, n + 4, n, n + 1, n + 2] → d ∉ [n + 5, n + 4, n, n + 1, n + 2] := fun d h q => h (by
      simp only [List.mem_cons, List.not_mem_nil, or_false] at q ⊢
      rcases q with q | q | q | q | q <;> simp [q])
    have I1 : Inv X pins σ (upd H T (.tup [x, y, z])) { s with heap := h'', toks := tk } :=
      I.turnedNew (t' := tk) (ch := [n + 5, n + 3, n + 4, n, n + 1, n + 2]) (fun d o hb q => hk' d o (wr d hb) (hk d o (wr d hb) q)) hf hT new
    obtain ⟨z1, z2, z3, z4, z5, z6⟩ := st'
    refine ⟨.ref T, _, I1, rfl, ⟨_, x, y, z, rfl, I.hok.fresh hT, rfl, fun l hl => by rw [I.list_inj hl hqx]; exact hx, fun l hl => by rw [I.list_inj hl hqy]; exact hy, fun l hl => by rw [I.list_inj hl hqz]; exact hzz⟩, ⟨⟨la, lb, lc⟩, z1, z2, z3, z4.1, z5.1, z6.1⟩, fun d hd => ?_⟩
    have hdT : d ≠ T := by
      intro e
      subst e
      simp only [List.mem_cons, List.not_mem_nil, or_false] at hd
      have big : ∀ {o : Obj} {q : Addr}, s.heap.get? q = some o → d ≠ q := fun {o q} h e => absurd (Heap.lt_size h) (by rw [← e]; exact Nat.not_lt.mpr hT)
      obtain ⟨xx, yy, zz, hTO⟩ := hTO
      obtain ⟨o1, q1, _⟩ := h1
      obtain ⟨o2, q2, _⟩ := h2
      obtain ⟨o3, q3, _⟩ := h3
      rcases hd with q | q | q | q | q | q
      · exact big hz q
      · exact big hTI q
      · exact big hTO q
      · exact big q1 q
      · exact big q2 q
      · exact big q3 q
    rw [upd_ne hdT]
    exact (hf d hd).1
  done := by
    intro X hP hw hK hc i pins s σ H E I hf st hg
    subst hP hw hK
    obtain ⟨⟨la, lb, lc⟩, hz, hTI, hTO, h1, h2, h3⟩ := st
    obtain ⟨xs, ys, zs, hqx, hqy, hqz, l1⟩ := hg
    obtain ⟨its, rv, p, _⟩ := I.list hqx
    obtain ⟨its2, rv2, p2, _⟩ := I.list hqy
    obtain ⟨its3, rv3, p3, _⟩ := I.list hqz
    have W := WalksT.zipD3 (prog := X.prog) (w := X.w) (A := X.A) (sep3 la lb lc) (Draws.list (A := X.A.in1) (I.ok.hd hc) n a (by simpa using nlt la 0) its.toArray) (Draws.list (A := X.A.in1) (I.ok.hd hc) (n + 1) b (nlt lb 1) its2.toArray) (Draws.list (A := X.A.in1) (I.ok.hd hc) (n + 2) c (nlt lc 2) its3.toArray)
    have k1 := rv.length
    have k2 := rv2.length
    have k3 := rv3.length
    have hm : min (min its.toArray.size its2.toArray.size) its3.toArray.size = i := by simp only [List.size_toArray]; omega
    rw [hm] at W
    refine W.done s _ _ ⟨hz, hTI, hTO, ⟨h1, p.isList⟩, ⟨h2, p2.isList⟩, ⟨h3, p3.isList⟩⟩ fun h' tk hk => ⟨rfl, ?_⟩
    have wr : ∀ d, d ∉ [n + 5, n + 3, n + 4, n, n + 1, n + 2] → d ∉ [n + 5, n + 4, n, n + 1, n + 2] := fun d h q => h (by
      simp only [List.mem_cons, List.not_mem_nil, or_false] at q ⊢
      rcases q with q | q | q | q | q <;> simp [q])
    exact I.turnedL (t' := tk) (ch := [n + 5, n + 3, n + 4, n, n + 1, n + 2]) (fun d o hb q => hk d o (wr d hb) q) hf
  self := fun A i s Q E st h => wpAny_pyIter_zip st.2.1 h

def iZip3 (K : PySem.W.Frag) (ta : TA) : TI := fun σ H R => ta σ H fun vs H1 => ∃ a b c xs ys zs, vs = [.ref a, .ref b, .ref c] ∧ SqL K H1 a xs ∧ SqL K H1 b ys ∧ SqL K H1 c zs ∧ R (Itz3 K a b c) H1
theorem pi_zip3 {X : Cx} {K : PySem.W.Frag} {e e2 e3 : Expr} {ta : TA} {p pos tpos : Pos} {elts : List Expr} {kk : Nat} (hg : Gl X "zip") (hm : X.mg "zip" = none) (ha : PA X [e, e2, e3] ta)
    (hs : starEach [e, e2, e3] X.env = (false, eval e X.env) :: starEach [e2, e3] X.env := by rfl) (hpl : (backTo pos (starEach [e2, e3] X.env)).any (·.1) = false := by rfl) (hK : X.K = K := by rfl) :
    PI X (.Tuple elts kk tpos) (.Call (.Name "zip" p) [e, e2, e3] [] pos) (iZip3 K ta) := by
  subst hK
  refine ⟨fun pins s σ H R I h => ?_⟩
  refine Call_ (ld_blt I hg hm PyProof.Rows.boot_zip (PyProof.Rows.callWith_type1 (thn (ha.run pos pins s σ H _ I h) fun us s1 ⟨vs, H1, I1, r1, q1⟩ => ?_) hs hpl))
  obtain ⟨a, b, c, xs, ys, zs, ex, hqx, hqy, hqz, q⟩ := q1
  subst ex
  cases r1 with
  | cons r rr =>
    cases rr with
    | cons r' rr =>
      cases rr with
      | cons r'' rr =>
        cases rr
        cases r
        cases r'
        cases r''
        obtain ⟨its, rv, p1, _⟩ := I1.list hqx
        obtain ⟨its2, rv2, p2, _⟩ := I1.list hqy
        obtain ⟨its3, rv3, p3, _⟩ := I1.list hqz
        refine zip_begins3 (begins_list a its.toArray) (begins_list b its2.toArray) (begins_list c its3.toArray) p1.isList p2.isList p3.isList fun h' hz hTI hTO g1 g2 g3 hsz hk => wpAny_pyIter_zip hz ?_
        have I2 : Inv X pins σ H1 { s1 with heap := h' } := I1.kept (t' := s1.toks) hk
        refine ⟨s1.heap.objs.size + 5, [s1.heap.objs.size + 5, s1.heap.objs.size + 3, s1.heap.objs.size + 4, s1.heap.objs.size, s1.heap.objs.size + 1, s1.heap.objs.size + 2], _, _, H1, rfl, I2, turn_zip3 (n := s1.heap.objs.size) (a := a) (b := b) (c := c), ⟨⟨p1.lt, p2.lt, p3.lt⟩, hz, hTI, ⟨_, _, _, hTO⟩, ⟨_, g1, rfl, rfl⟩, ⟨_, g2, rfl, rfl⟩, ⟨_, g3, rfl, rfl⟩⟩, fun d hd => ?_, q⟩
        have hle : s1.heap.objs.size ≤ d := by
          simp only [List.mem_cons, List.not_mem_nil, or_false] at hd
          rcases hd with z | z | z | z | z | z
          · rw [z]; exact Nat.le_add_right _ _
          · rw [z]; exact Nat.le_add_right _ _
          · rw [z]; exact Nat.le_add_right _ _
          · rw [z]; exact Nat.le_refl _
          · rw [z]; exact Nat.le_add_right _ _
          · rw [z]; exact Nat.le_add_right _ _
        exact I1.fpOk hle (I1.hok.fresh hle)
end My

set_option Elab.async false
set_option linter.all false
set_option maxRecDepth 100000
set_option maxHeartbeats 4000000
namespace HT
open PySem PySem.Spec PyProof.Rows
section
variable {prog : Program} {w : World} {A : Around} {E : Value → Shared → Prop} {s : Shared}
/-- the whole slice of a tuple is the tuple itself -/
theorem getItem_tuple_whole {t sl : Addr} {items : Array Value} {vl vu : Value} {lo hi : Option Int} {Q : Value → Shared → Prop} (ht : IsTup s.heap t items) (hs : s.heap.IsSliceOf sl vl vu .none) (pl : IsPart vl lo) (pu : IsPart vu hi)
    (hw : sIx items.size 0 lo = 0 ∧ sIx items.size items.size hi = items.size) (h : Q (.ref t) s) : wpAny (model prog w) A (getItem (.ref t) (.ref sl)) Q E s := by
  obtain ⟨os, hos, hcs, hds⟩ := id hs
  have hTs : s.TypeIs (.ref sl) "slice" := ⟨os, hos, hcs⟩
  unfold getItem
  try with_reducible refine wpAny_holding ?_
  first | refine wpAny_bind (wpAny_pure ?_) | skip
  refine wpAny_bind (wpAny_sequenceKey ht.typeIs (by decide) ?_)
  refine wpAny_bind (wpAny_callSpecial?_slot (name := Str.ofString "__getitem__") ht.typeIs PyProof.Rows.slot_tuple_getitem
    (wpAny_call_entry PyProof.Rows.slot_tuple_getitem ht.typeIs entry_tuple_getitem ?_ (args_tuple_getitem _ _)))
  show wpAny _ _ (Builtin.Tuple.tupleItemsOf (.ref t) >>= _) _ _ s
  refine wpAny_bind (tupleItemsOf_ ht ?_)
  refine wpAny_bind (wpAny_typeOf hTs ?_)
  rw [if_pos (by decide)]
  refine wpAny_bind (sliceApplied_gen hs pl pu ?_)
  have hyes : ((((sIx items.size 0 lo : Nat) : Int) == 0 && (1 : Int) == 1 && (sIx items.size items.size hi - sIx items.size 0 lo) == items.size) = true) := by
    rw [hw.1, hw.2]
    simp
  show wpAny _ _ (if (((sIx items.size 0 lo : Nat) : Int) == 0 && (1 : Int) == 1 && (sIx items.size items.size hi - sIx items.size 0 lo) == items.size) = true then _ else _) _ _ s
  rw [if_pos hyes]
  unfold Builtin.Tuple.tupleIsExact
  refine wpAny_bind (wpAny_bind (wpAny_typeOf ht.typeIs (wpAny_pure ?_)))
  rw [if_pos (by decide)]
  refine wpAny_bind (wpAny_rule ?_)
  first
    | exact wpAny_pure ⟨_, rfl, wpAny_pure h⟩
    | exact wpAny_bind (wpAny_pure ⟨_, rfl, wpAny_pure h⟩)
    | exact wpAny_bind (wpAny_pure (wpAny_pure ⟨_, rfl, wpAny_pure h⟩))
end
end HT
namespace My
open PySem PySem.Spec PyProof.Rows L2
/-! ### x is True, x is False -/
def rIsB : R2 := fun x y H Q => ∃ b, y = .bl b ∧ (∀ n, x ≠ .ty n) ∧ Q (.bl (decide (x = .bl b))) H
theorem op_isXB {X : Cx} : OpR X (compareOp .Is) rIsB := by
  intro pins s σ H x y v u Q I rx ry h
  obtain ⟨b, rfl, hx, q⟩ := h
  cases (show u = Value.bool b from ry)
  cases x with
  | non => cases (show v = Value.none from rx); exact wpAny_is_other rfl (fun z => nomatch z) ⟨.bl false, H, I, rfl, by simpa using q⟩
  | bl a =>
    cases (show v = Value.bool a from rx)
    by_cases e : a = b
    · subst e
      exact wpAny_is_self rfl ⟨.bl true, H, I, rfl, by simpa using q⟩
    · exact wpAny_is_other rfl (fun z => e (Value.bool.inj z)) ⟨.bl false, H, I, rfl, by simpa [e] using q⟩
  | int i => obtain ⟨t, rfl⟩ := (show ∃ t, v = Value.int i t from rx); exact wpAny_is_other rfl (fun z => nomatch z) ⟨.bl false, H, I, rfl, by simpa using q⟩
  | str z => obtain ⟨t, rfl⟩ := (show ∃ t, v = Value.str z t from rx); exact wpAny_is_other rfl (fun z => nomatch z) ⟨.bl false, H, I, rfl, by simpa using q⟩
  | byt z => obtain ⟨t, rfl⟩ := (show ∃ t, v = Value.bytes z t from rx); exact wpAny_is_other rfl (fun z => nomatch z) ⟨.bl false, H, I, rfl, by simpa using q⟩
  | flt z => obtain ⟨t, rfl⟩ := (show ∃ t, v = Value.float z t from rx); exact wpAny_is_other rfl (fun z => nomatch z) ⟨.bl false, H, I, rfl, by simpa using q⟩
  | ref a => cases (show v = Value.ref a from rx); exact wpAny_is_other rfl (fun z => nomatch z) ⟨.bl false, H, I, rfl, by simpa using q⟩
  | ty n => exact absurd rfl (hx n)
/-! ### slices of lists and tuples, the whole one too -/
def rSlTA (K : PySem.W.Frag) : V → Option Int → Option Int → Hp → VK → Prop := fun x lo hi H Q => ∃ a xs, x = .ref a ∧ SqT K H a xs ∧
  ((HT.sIx xs.length 0 lo = 0 ∧ HT.sIx xs.length xs.length hi = xs.length) → Q (.ref a) H) ∧
  (¬ (HT.sIx xs.length 0 lo = 0 ∧ HT.sIx xs.length xs.length hi = xs.length) → ∀ p, H p = none → Q (.ref p) (upd H p (.tup (cutV xs lo hi))))
theorem sl_tupA {X : Cx} : SlR X (rSlTA X.K) := by
  intro pins s σ H x v vl vu lo hi sl Q I rx hs pl pu h
  obtain ⟨a, xs, rfl, hx, hw, hn⟩ := h
  by_cases c : HT.sIx xs.length 0 lo = 0 ∧ HT.sIx xs.length xs.length hi = xs.length
  · obtain rfl : v = Value.ref a := rx
    obtain ⟨its, r, ht, hz⟩ := I.tuple hx
    have hlen : its.toArray.size = xs.length := by rw [List.size_toArray]; exact r.length.symm
    exact ⟨"tuple", _, PyProof.Rows.slot_tuple_getitem.lookup, ht.typeIs, HT.getItem_tuple_whole ht hs pl pu (by rw [hlen]; exact c) ⟨.ref a, H, I, rfl, hw c⟩⟩
  · exact sl_tup pins s σ H (.ref a) v vl vu lo hi sl Q I rx hs pl pu ⟨a, xs, rfl, hx, c, hn c⟩
theorem slAK {X : Cx} {K : PySem.W.Frag} (h : X.K = K := by rfl) : SlR X (fun x lo hi H Q => rSlL K x lo hi H Q ∨ rSlTA K x lo hi H Q) := by
  subst h
  exact sl_list.or sl_tupA
/-! ### enumerate of a list or a tuple -/
/-- a list (b false) or a tuple (b true) -/
def Sq (K : PySem.W.Frag) (b : Bool) (H : Hp) (a : Addr) (xs : List V) : Prop := if b = true then SqT K H a xs else SqL K H a xs
theorem Sq.l {K : PySem.W.Frag} {H : Hp} {a : Addr} {xs : List V} (h : SqL K H a xs) : Sq K false H a xs := h
theorem Sq.t {K : PySem.W.Frag} {H : Hp} {a : Addr} {xs : List V} (h : SqT K H a xs) : Sq K true H a xs := h
theorem Sq.ext {K : PySem.W.Frag} {b : Bool} {H H' : Hp} {a : Addr} {xs : List V} (h : Sq K b H a xs) (e : Same H H') : Sq K b H' a xs := by
  cases b
  · exact SqL.ext (show SqL K H a xs from h) e
  · exact SqT.ext (show SqT K H a xs from h) e
def IteS (K : PySem.W.Frag) (b : Bool) (a : Addr) : It :=
  ⟨fun i H => ∃ (xs : List V) (x : V), Sq K b H a xs ∧ xs[i]? = some x,
    fun i H v H' => ∃ T x, v = .ref T ∧ H T = none ∧ H' = upd H T (.tup [.int (i : Nat), x]) ∧ ∀ xs, Sq K b H a xs → xs[i]? = some x,
    fun i H => ∃ xs : List V, Sq K b H a xs ∧ xs.length = i⟩
def tnE (b : Bool) (n a : Addr) (i : Nat) (h : Heap) : Prop := a < n ∧ (∃ old, IsEnum h (n + 1) n ((0 : Int) + (i : Int)) old) ∧ (if b = true then h.IsTupleIter n a i else h.IsListIter n a i)
set_option maxHeartbeats 1000000 in
theorem meets_enumerate_newB1 {v : Value} {o : Obj} {H : Heap → Prop} (B : Begins v o H) :
    Meets (Builtin.«enumerate.__new__» ⟨[.type "enumerate", v], []⟩) (fun _ R s => H s.heap ∧
      R (.ok (.ret (.ref (s.heap.push o).objs.size))) { s with heap := (s.heap.push o).push { cls := .type "enumerate", data := .fields #[.none, .bool false, .ref s.heap.objs.size, rawInt 0, .none, .none] } }) :=
  .of_wp fun prog w A R s h => by
    obtain ⟨hp, g, d, tk, os⟩ := s; obtain ⟨h1, h⟩ := h
    have hsub := sub_enumerate
    have q1 : ∀ {A' : Around} {E : Value → Shared → Prop} {Q : Value → Shared → Prop}, Q (.ref hp.objs.size) ⟨hp.push o, g, d, tk, os⟩ → wpAny (model prog w) A' (pyIter v) Q E ⟨hp, g, d, tk, os⟩ :=
      fun q => B.iter prog w _ _ ⟨hp, g, d, tk, os⟩ _ h1 q
    wp_walk using q1
    refine wpAny_stack_any fun st => wpAny_pure ?_
    split
    · rename_i c _ _ _ _ _
      cases (c == Value.type "enumerate")
      · wp_walk using q1
        exact ⟨_, rfl, h⟩
      · wp_walk using q1
        exact ⟨_, rfl, h⟩
    · wp_walk using q1
      exact ⟨_, rfl, h⟩
theorem enum_begins1 {prog : Program} {w : World} {A : Around} {E : Value → Shared → Prop} {s : Shared} {v : Value} {o : Obj} {H : Heap → Prop} {Q : Value → Shared → Prop} (B : Begins v o H) (h1 : H s.heap)
    (h : ∀ h', IsEnum h' (s.heap.objs.size + 1) s.heap.objs.size 0 .none → h'.get? s.heap.objs.size = some o → h'.objs.size = s.heap.objs.size + 2 →
      (∀ b o, s.heap.get? b = some o → h'.get? b = some o) → Q (.ref (s.heap.objs.size + 1)) { s with heap := h' }) :
    wpAny (model prog w) A (call (.type "enumerate") [v]) Q E s := by
  refine callType_new F.called_enumerate (by decide) (F.typeCall_enumerate_1 _) (F.newCall_enumerate_1 _) (fun obj => F.args_object_init_2 obj _) F.entry_enumerate_new
    (meets_enumerate_newB1 B) ⟨h1, ?_⟩
  have hz : (s.heap.push o).objs.size = s.heap.objs.size + 1 := Heap.size_push ..
  show _ ∧ _
  rw [hz]
  have he : IsEnum ((s.heap.push o).push { cls := .type "enumerate", data := .fields #[.none, .bool false, .ref s.heap.objs.size, rawInt 0, .none, .none] }) (s.heap.objs.size + 1) s.heap.objs.size 0 .none := by
    have := Heap.get?_push_size (s.heap.push o) (o := { cls := .type "enumerate", data := .fields #[.none, .bool false, .ref s.heap.objs.size, rawInt 0, .none, .none] }) rfl
    rw [hz] at this; exact this
  exact ⟨⟨_, he, rfl⟩, h _ he (Heap.get?_push_of_some _ (Heap.get?_push_size _ B.free)) (by rw [Heap.size_push, hz]) fun b o x => Heap.get?_push_of_some _ (Heap.get?_push_of_some _ x)⟩
/-- one step of enumerate, whatever draws -/
theorem turnE_item {X : Cx} {pins : List (Addr × Obj)} {σ : L2.St} {H : Hp} {s : Shared} {n a : Addr} {i : Nat} {x : V} {u : Value} {elts : List Expr} {kk : Nat} {tpos : Pos} {E : Value → Shared → Prop} {P : Nat → Value → Prop} {St : Nat → Heap → Prop} {R : Heap → Prop}
    (I : Inv X pins σ H s) (hf : ∀ b ∈ [n + 1, n], FpOk X pins H b) (la : a < n) {N : Nat} (D : Draws X.prog X.w X.A.in1 n [n, a] N P St) (hi : i < N) (he : ∃ old, IsEnum s.heap (n + 1) n ((0 : Int) + (i : Int)) old) (hs : St i s.heap) (hP : ∀ y, P i y → y = u) (ru : RelV x u)
    (hR : ∀ h, St (i + 1) h → R h) (Y : V → Hp → Prop) (hY : ∀ T, H T = none → Y (.ref T) (upd H T (.tup [.int (i : Nat), x]))) :
    wpAny (model X.prog X.w) X.A (pyNext (.ref (n + 1))) (fun r s1 => ∃ u, r = some u ∧
      wpAny (model X.prog X.w) X.A (letOwnedTupleGo (.Tuple elts kk tpos) (.ref (n + 1)) u) (fun _ s2 => ∃ x H', Inv X pins σ H' s2 ∧ RelV x u ∧ Y x H' ∧ ((∃ old, IsEnum s2.heap (n + 1) n ((0 : Int) + ((i + 1 : Nat) : Int)) old) ∧ R s2.heap) ∧ ∀ b ∈ [n + 1, n], H' b = none) E s1) E s := by
  have W := WalksT.enumFrom (prog := X.prog) (w := X.w) (A := X.A) 0 D (n + 1) (Nat.succ_ne_self _) (fun q => by
    rcases List.mem_cons.mp q with z | z
    · exact Nat.succ_ne_self _ z
    · exact absurd (List.mem_singleton.mp z) (Ne.symm (nlt la 1))) (by simp)
  obtain ⟨old, he⟩ := he
  refine W.item i s _ _ hi ⟨⟨old, he⟩, hs⟩ fun T vals h' tk hPt hT hTup hMid hk => ?_
  obtain ⟨t, y, hy, rfl⟩ := hPt
  have hy' := hP y hy
  subst hy'
  refine ⟨_, rfl, W.go elts kk tpos i T { s with heap := h', toks := tk } _ _ hMid fun h'' st' hk' => ?_⟩
  have hTw := W.apart i T h' hMid
  have hT2 : h''.IsTuple T #[.int ((0 : Int) + (i : Int)) t, y] := hTup.at fun o e => hk' T o hTw e
  obtain ⟨oT, eT, cT, nT, dT⟩ := id hT2
  have new : ObjOk X.prog X.w (upd H T (.tup [.int (i : Nat), x])) h'' T (.tup [.int (i : Nat), x]) :=
    ⟨by show 2 ≤ sizeLine; decide, [.int ((0 : Int) + (i : Int)) t, y], .cons ⟨t, by rw [Int.zero_add]⟩ (.cons ru .nil), ⟨oT, eT, cT, nT, dT⟩⟩
  have I1 : Inv X pins σ (upd H T (.tup [.int (i : Nat), x])) { s with heap := h'', toks := tk } :=
    I.turnedNew (t' := tk) (ch := [n + 1, n]) (fun d o hb q => hk' d o hb (hk d o hb q)) hf hT new
  obtain ⟨z1, z2⟩ := st'
  refine ⟨.ref T, _, I1, rfl, hY T (I.hok.fresh hT), ⟨z1, hR _ z2⟩, fun d hd => ?_⟩
  have hdT : d ≠ T := by
    intro e
    subst e
    exact hTw hd
  rw [upd_ne hdT]
  exact (hf d hd).1
theorem turn_enumS {P : Program} {w : World} {K : PySem.W.Frag} {elts : List Expr} {kk : Nat} {tpos : Pos} {n a : Addr} {b : Bool} :
    Turn P w K (.Tuple elts kk tpos) (IteS K b a) [n + 1, n] (n + 1) (tnE b n a) where
  mem := by simp
  obj := fun i h st c hc => by
    obtain ⟨_, ⟨old, he⟩, hi⟩ := st
    have e' : c = n + 1 ∨ c = n := by simpa using hc
    rcases e' with z | z
    · rw [z]; exact ⟨_, he, fun v q => nomatch q⟩
    · rw [z]
      cases b
      · obtain ⟨o, ho, hc, hd⟩ := (show h.IsListIter n a i from hi)
        exact ⟨o, ho, fun v q => by rw [hd] at q; cases q⟩
      · obtain ⟨o, ho, hc, hd⟩ := (show h.IsTupleIter n a i from hi)
        exact ⟨o, ho, fun v q => by rw [hd] at q; cases q⟩
  keep := fun i h h' st k => by
    obtain ⟨la, ⟨old, he⟩, hi⟩ := st
    refine ⟨la, ⟨old, k _ (by simp) _ he⟩, ?_⟩
    cases b
    · exact (show h.IsListIter n a i from hi).at fun o q => k _ (by simp) o q
    · exact (show h.IsTupleIter n a i from hi).at fun o q => k _ (by simp) o q
  item := by
    intro X hP hw hK hc i pins s σ H E I hf st hg
    subst hP hw hK
    obtain ⟨la, he, hit⟩ := st
    obtain ⟨xs, x, hq, hx⟩ := hg
    cases b with
    | false =>
      have hq : SqL X.K H a xs := hq
      have hit : s.heap.IsListIter n a i := hit
      obtain ⟨its, rv, p, _⟩ := I.list hq
      obtain ⟨u, hu, ru⟩ := rv.get hx
      have e1 : its.toArray[i]? = some u := by simpa using hu
      refine wpAny_mono (turnE_item (elts := elts) (kk := kk) (tpos := tpos) (R := fun h => h.IsListIter n a (i + 1)) I hf la (Draws.list (A := X.A.in1) (I.ok.hd hc) n a (by simpa using nlt la 0) its.toArray) (Array.getElem?_eq_some_iff.mp e1).1 he ⟨hit, p.isList⟩ (fun y hy => Option.some.inj (hy.symm.trans e1)) ru (fun h z => z.1) (fun v H' => (IteS X.K false a).yld i H v H') fun T hT => ⟨T, x, rfl, hT, rfl, fun ys hy => by rw [I.list_inj hy hq]; exact hx⟩) (fun r s1 z => ?_) fun _ _ z => z
      obtain ⟨u', hr, z⟩ := z
      refine ⟨u', hr, wpAny_mono z (fun _ s2 z => ?_) fun _ _ z => z⟩
      obtain ⟨x', H', z1, z2, z3, z4, z5⟩ := z
      exact ⟨x', H', z1, z2, z3, ⟨la, z4.1, z4.2⟩, z5⟩
    | true =>
      have hq : SqT X.K H a xs := hq
      have hit : s.heap.IsTupleIter n a i := hit
      obtain ⟨its, rv, p, _⟩ := I.tuple hq
      obtain ⟨u, hu, ru⟩ := rv.get hx
      have e1 : its.toArray[i]? = some u := by simpa using hu
      refine wpAny_mono (turnE_item (elts := elts) (kk := kk) (tpos := tpos) (R := fun h => h.IsTupleIter n a (i + 1)) I hf la (Draws.tuple (A := X.A.in1) (I.ok.hd hc) n a (by simpa using nlt la 0) its.toArray) (Array.getElem?_eq_some_iff.mp e1).1 he ⟨hit, p⟩ (fun y hy => Option.some.inj (hy.symm.trans e1)) ru (fun h z => z.1) (fun v H' => (IteS X.K true a).yld i H v H') fun T hT => ⟨T, x, rfl, hT, rfl, fun ys hy => by rw [I.tuple_inj hy hq]; exact hx⟩) (fun r s1 z => ?_) fun _ _ z => z
      obtain ⟨u', hr, z⟩ := z
      refine ⟨u', hr, wpAny_mono z (fun _ s2 z => ?_) fun _ _ z => z⟩
      obtain ⟨x', H', z1, z2, z3, z4, z5⟩ := z
      exact ⟨x', H', z1, z2, z3, ⟨la, z4.1, z4.2⟩, z5⟩
  done := by
    intro X hP hw hK hc i pins s σ H E I hf st hg
    subst hP hw hK
    obtain ⟨la, ⟨old, he⟩, hit⟩ := st
    obtain ⟨xs, hq, hx⟩ := hg
    have nm : n + 1 ∉ [n, a] := fun q => by
      rcases List.mem_cons.mp q with z | z
      · exact Nat.succ_ne_self _ z
      · exact absurd (List.mem_singleton.mp z) (Ne.symm (nlt la 1))
    cases b with
    | false =>
      have hq : SqL X.K H a xs := hq
      have hit : s.heap.IsListIter n a i := hit
      obtain ⟨its, rv, p, _⟩ := I.list hq
      have hn : its.toArray.size = i := by rw [List.size_toArray, ← rv.length]; exact hx
      have W := WalksT.enumFrom (prog := X.prog) (w := X.w) (A := X.A) 0 (Draws.list (A := X.A.in1) (I.ok.hd hc) n a (by simpa using nlt la 0) its.toArray) (n + 1) (Nat.succ_ne_self _) nm (by simp)
      rw [hn] at W
      exact W.done s _ _ ⟨⟨old, he⟩, hit, p.isList⟩ fun h' tk hk => ⟨rfl, I.turnedL (t' := tk) (ch := [n + 1, n]) (fun d o hb q => hk d o hb q) hf⟩
    | true =>
      have hq : SqT X.K H a xs := hq
      have hit : s.heap.IsTupleIter n a i := hit
      obtain ⟨its, rv, p, _⟩ := I.tuple hq
      have hn : its.toArray.size = i := by rw [List.size_toArray, ← rv.length]; exact hx
      have W := WalksT.enumFrom (prog := X.prog) (w := X.w) (A := X.A) 0 (Draws.tuple (A := X.A.in1) (I.ok.hd hc) n a (by simpa using nlt la 0) its.toArray) (n + 1) (Nat.succ_ne_self _) nm (by simp)
      rw [hn] at W
      exact W.done s _ _ ⟨⟨old, he⟩, hit, p⟩ fun h' tk hk => ⟨rfl, I.turnedL (t' := tk) (ch := [n + 1, n]) (fun d o hb q => hk d o hb q) hf⟩
  self := fun A i s Q E st h => let ⟨_, ⟨_, he⟩, _⟩ := st; wpAny_pyIter_enum he h
def iEnumS (K : PySem.W.Frag) (ta : TA) : TI := fun σ H R => ta σ H fun vs H1 => ∃ a b xs, vs = [.ref a] ∧ Sq K b H1 a xs ∧ R (IteS K b a) H1
theorem pi_enumS {X : Cx} {K : PySem.W.Frag} {e : Expr} {ta : TA} {p pos tpos : Pos} {elts : List Expr} {kk : Nat} (hg : Gl X "enumerate") (hm : X.mg "enumerate" = none) (ha : PA X [e] ta) (hs : starEach [e] X.env = [(false, eval e X.env)] := by rfl) (hK : X.K = K := by rfl) :
    PI X (.Tuple elts kk tpos) (.Call (.Name "enumerate" p) [e] [] pos) (iEnumS K ta) := by
  subst hK
  refine ⟨fun pins s σ H R I h => ?_⟩
  refine Call_ (ld_blt I hg hm boot_enumerate (PyProof.Rows.callWith_type1 (thn (ha.run pos pins s σ H _ I h) fun us s1 ⟨vs, H1, I1, r1, q1⟩ => ?_) hs rfl))
  obtain ⟨a, b, xs, ex, hq, q⟩ := q1
  subst ex
  cases r1 with
  | cons r rr =>
    cases rr
    cases r
    have fp : ∀ c ∈ [s1.heap.objs.size + 1, s1.heap.objs.size], FpOk X pins H1 c := fun c hc => by
      have e' : c = s1.heap.objs.size + 1 ∨ c = s1.heap.objs.size := by simpa using hc
      have hle : s1.heap.objs.size ≤ c := by
        rcases e' with z | z
        · rw [z]; exact Nat.le_add_right _ _
        · rw [z]; exact Nat.le_refl _
      exact I1.fpOk hle (I1.hok.fresh hle)
    cases b with
    | false =>
      obtain ⟨its, rv, p', hz⟩ := I1.list (show SqL X.K H1 a xs from hq)
      refine enum_begins1 (begins_list a its.toArray) p'.isList fun h' he hit hsz hk => wpAny_pyIter_enum he ?_
      have I2 : Inv X pins σ H1 { s1 with heap := h' } := I1.kept (t' := s1.toks) hk
      exact ⟨s1.heap.objs.size + 1, [s1.heap.objs.size + 1, s1.heap.objs.size], _, _, H1, rfl, I2, turn_enumS (n := s1.heap.objs.size) (a := a) (b := false), ⟨p'.lt, ⟨.none, he⟩, ⟨_, hit, rfl, rfl⟩⟩, fp, q⟩
    | true =>
      obtain ⟨its, rv, p', hz⟩ := I1.tuple (show SqT X.K H1 a xs from hq)
      obtain ⟨o, eo, _⟩ := id p'
      refine enum_begins1 (begins_tuple a its.toArray) p' fun h' he hit hsz hk => wpAny_pyIter_enum he ?_
      have I2 : Inv X pins σ H1 { s1 with heap := h' } := I1.kept (t' := s1.toks) hk
      exact ⟨s1.heap.objs.size + 1, [s1.heap.objs.size + 1, s1.heap.objs.size], _, _, H1, rfl, I2, turn_enumS (n := s1.heap.objs.size) (a := a) (b := true), ⟨Heap.lt_size eo, ⟨.none, he⟩, ⟨_, hit, rfl, rfl⟩⟩, fp, q⟩
theorem walk_enumS {K : PySem.W.Frag} {b : Bool} {a : Addr} {xs : List V} : Walk (IteS K b a) xs.length (fun H => Sq K b H a xs) (YPair (fun i => some (.int (i : Nat))) (fun i => xs[i]?)) := by
  refine ⟨fun i _ hi q => ⟨xs, xs[i], q, by simp [hi]⟩, fun _ q => ⟨xs, q, rfl⟩, fun i H v H' _ q y => ?_⟩
  obtain ⟨T, x, h1, h2, h3, h4⟩ := y
  exact ⟨T, .int (i : Nat), x, h1, h2, h3, rfl, h4 xs q⟩
/-! ### a comprehension over three lists, elements made by a call -/
theorem comp_relZ3 {α : Type} {K : PySem.W.Frag} {σ : L2.St} {H : Hp} {ta : TA} {te : TE} {j1 j2 j3 : Nat} {vs : List Nat} {a b c : Addr} {xs ys zs : List V} (rs : List α) (R : Hp → α → V → Prop) (hR : ∀ H1 H2 r v, VP H1 H2 → R H1 r v → R H2 r v) (hn : rs.length ≤ 40000)
    (h : Evl.EvA ta σ H [.ref a, .ref b, .ref c]) (hx : SqL K H a xs) (hy : SqL K H b ys) (hz : SqL K H c zs) (l1 : xs.length = rs.length) (l2 : ys.length = rs.length) (l3 : rs.length ≤ zs.length)
    (hw : ∀ x y z, wipe ((((wipe σ vs).set j1 (some x)).set j2 (some y)).set j3 (some z)) vs = wipe σ vs)
    (he : ∀ (i : Nat) x y z r H1, Evl.Ex H H1 → rs[i]? = some r → xs[i]? = some x → ys[i]? = some y → zs[i]? = some z → ∀ Q : VK, (∀ H2 v, Same H1 H2 → R H2 r v → Q v H2) → te ((((wipe σ vs).set j1 (some x)).set j2 (some y)).set j3 (some z)) H1 Q) {Q : VK}
    (hq : ∀ p H2 ws, H p = none → Same H H2 → H2 p = some (.lst ws) → Each (R H2) rs ws → Q (.ref p) H2) : tLc (iZip3 K ta) (gTup K 3 (gCons (gName j1) (gCons (gName j2) (gCons (gName j3) gNil)))) tYes te vs σ H Q := by
  refine h H (Evl.Ex.refl H) _ fun H2 e2 => ?_
  refine ⟨a, b, c, xs, ys, zs, rfl, Evl.ex_l e2 hx, Evl.ex_l e2 hy, Evl.ex_l e2 hz, ?_⟩
  intro D hD
  have w : Walk (Itz3 K a b c) rs.length (fun H => SqL K H a xs ∧ SqL K H b ys ∧ SqL K H c zs) (fun i H v H' => ∃ T x y z, v = .ref T ∧ H T = none ∧ H' = upd H T (.tup [x, y, z]) ∧ xs[i]? = some x ∧ ys[i]? = some y ∧ zs[i]? = some z) := by
    refine ⟨fun i H hi q => ⟨xs, ys, zs, xs[i], ys[i], zs[i], q.1, q.2.1, q.2.2, List.getElem?_eq_getElem (by omega), List.getElem?_eq_getElem (by omega), List.getElem?_eq_getElem (by omega)⟩, fun H q => ⟨xs, ys, zs, q.1, q.2.1, q.2.2, by omega⟩, fun i H v H' _ q y => ?_⟩
    obtain ⟨T, x, y', z, h1, h2, h3, h4, h5, h6⟩ := y
    exact ⟨T, x, y', z, h1, h2, h3, h4 xs q.1, h5 ys q.2.1, h6 zs q.2.2⟩
  refine lc_it w (fun i H' => Same H2 H' ∧ ∃ ws, H' D = some (.lst ws) ∧ Each (R H') (rs.take i) ws) ⟨same_new hD, [], upd_same, Each.nil⟩ (fun i H' _ p => ⟨Evl.ex_l (Evl.Ex.trans e2 p.1) hx, Evl.ex_l (Evl.Ex.trans e2 p.1) hy, Evl.ex_l (Evl.Ex.trans e2 p.1) hz⟩) (fun i v H' H'' hi p y => ?_) (fun H' p => ?_)
  · obtain ⟨T, x1, x2, x3, rfl, nT, rfl, e3, e4, e5⟩ := y
    obtain ⟨k1, ws, hD', hE⟩ := p
    obtain ⟨r, hr⟩ : ∃ r, rs[i]? = some r := ⟨rs[i], List.getElem?_eq_getElem hi⟩
    have kT : Same H' (upd H' T (.tup [x1, x2, x3])) := same_new nT
    refine ⟨_, _, rfl, SqT.of upd_same, rfl, _, _, rfl, _, _, rfl, _, _, rfl, rfl, hw x1 x2 x3, ?_⟩
    show te _ _ _
    refine he i x1 x2 x3 r _ ((e2.trans k1).trans kT) hr e3 e4 e5 _ fun H3 v k3 rv => ?_
    have hlen : ws.length ≤ 40000 := by rw [hE.1, List.length_take]; omega
    refine ⟨ws, k3 _ _ (kT _ _ hD'), Evl.sz_lt (by omega), Same.chg (k1.trans (kT.trans k3)) hD, ws ++ [v], upd_same, ?_⟩
    rw [take_snoc hr]
    have kD : VP H3 (upd H3 D (.lst (ws ++ [v]))) := VP.upd (k3 _ _ (kT _ _ hD'))
    exact (hE.mono fun m u _ z => hR _ _ _ _ ((VP.same (kT.trans k3)).trans kD) z).snoc (hR _ _ _ _ kD rv)
  · obtain ⟨k1, ws, hD', hE⟩ := p
    rw [List.take_length] at hE
    exact hq D H' ws (Evl.fresh_back e2 hD) (Evl.Ex.trans e2 k1) hD' hE
end My

set_option Elab.async false
set_option linter.all false
set_option maxRecDepth 100000
set_option maxHeartbeats 4000000
namespace My
open PySem PySem.Spec PyProof.Rows L2
/-! ### what gaps are closed -/
/-- the gaps between times -/
def gapsL (ts : List Int) : List Int := (List.range (ts.length - 1)).map fun i => ts.getD (i + 1) 0 - ts.getD i 0
theorem gapsL_len (ts : List Int) : (gapsL ts).length = ts.length - 1 := by unfold gapsL; simp
theorem gapsL_get {ts : List Int} {i : Nat} (h : i + 1 < ts.length) : (gapsL ts).getD i 0 = ts.getD (i + 1) 0 - ts.getD i 0 := by
  unfold gapsL
  exact getD_map_range (by omega)
/-- the i-th event is kept -/
def keepF (m : Mb) (bt : List Int) (i : Nat) : Bool := (letF m bt).getD i false
/-- the i-th gap is closed -/
def clo (m : Mb) (bt : List Int) (i : Nat) : Bool := decide (i + 1 < bt.length) && !keepF m bt (if m.1 = .last then i else i + 1)
def plc (n : Nat) (c : Nat → Bool) : List Nat := (List.range n).filter c
/-- those of xs whose places are told by p -/
def sel (xs : List Int) (p : Nat → Bool) : List Int := (plc xs.length p).map fun i => xs.getD i 0
theorem plc_mem {n : Nat} {c : Nat → Bool} {i : Nat} : i ∈ plc n c ↔ i < n ∧ c i = true := by
  unfold plc
  rw [List.mem_filter, List.mem_range]
theorem plc_succ (n : Nat) (c : Nat → Bool) : plc (n + 1) c = if c n = true then plc n c ++ [n] else plc n c := by
  unfold plc
  rw [List.range_succ, List.filter_append]
  split
  · rename_i hc
    rw [List.filter_cons, if_pos hc]
    rfl
  · rename_i hc
    rw [List.filter_cons, if_neg hc]
    exact List.append_nil _
theorem plc_len (n : Nat) (c : Nat → Bool) : (plc n c).length ≤ n := by
  unfold plc
  exact Nat.le_trans (List.length_filter_le _ _) (by simp)
theorem plc_congr {n : Nat} {c d : Nat → Bool} (h : ∀ i, i < n → c i = d i) : plc n c = plc n d := by
  unfold plc
  apply List.filter_congr
  intro i hi
  exact h i (List.mem_range.mp hi)
theorem plc_zero (n : Nat) (c : Nat → Bool) : plc (n + 1) (fun i => decide (i = 0) || c (i - 1)) = 0 :: (plc n c).map (· + 1) := by
  unfold plc
  rw [List.range_succ_eq_map, List.filter_cons]
  simp only [decide_true, Bool.true_or, if_true]
  congr 1
  rw [List.filter_map]
  congr 1
theorem plc_lt {n : Nat} {c : Nat → Bool} {a b : Nat} (hb : b < (plc n c).length) (hab : a < b) : (plc n c).getD a 0 < (plc n c).getD b 0 := by
  have h : (plc n c).Pairwise (· < ·) := List.Pairwise.filter _ List.pairwise_lt_range
  have := List.pairwise_iff_getElem.mp h a b (by omega) hb hab
  simpa [hb, show a < (plc n c).length by omega] using this
theorem plc_at {n : Nat} {c : Nat → Bool} {a : Nat} (h : a < (plc n c).length) : (plc n c).getD a 0 < n ∧ c ((plc n c).getD a 0) = true := by
  have := List.getElem_mem h
  have g : (plc n c).getD a 0 = (plc n c)[a] := by simp [h]
  rw [g]
  exact plc_mem.mp this
theorem plc_ix {n : Nat} {c : Nat → Bool} {i : Nat} (h1 : i < n) (h2 : c i = true) : ∃ a, a < (plc n c).length ∧ (plc n c).getD a 0 = i := by
  obtain ⟨a, ha, e⟩ := List.getElem_of_mem (plc_mem.mpr ⟨h1, h2⟩)
  exact ⟨a, ha, by simp [ha, e]⟩
/-- between neighbours there is none -/
theorem plc_gap {n : Nat} {c : Nat → Bool} {a i : Nat} (h : a < (plc n c).length) (h1 : a = 0 ∨ (plc n c).getD (a - 1) 0 < i) (h2 : i < (plc n c).getD a 0) : c i = false := by
  cases e : c i with
  | false => rfl
  | true =>
    have hn := (plc_at h).1
    obtain ⟨b, hb, eb⟩ := plc_ix (n := n) (c := c) (i := i) (by omega) e
    have k1 : b < a := by
      apply Nat.not_le.mp
      intro q
      rcases Nat.lt_or_eq_of_le q with q | q
      · have := plc_lt hb q
        omega
      · subst q; omega
    rcases h1 with z | z
    · omega
    · by_cases q : b = a - 1
      · subst q; omega
      · have := plc_lt (n := n) (c := c) (a := b) (b := a - 1) (by omega) (by omega)
        omega
section
variable {m : Mb} {bt : List Int}
theorem clo_lt {i : Nat} (h : clo m bt i = true) : i + 1 < bt.length := by
  unfold clo at h
  rw [Bool.and_eq_true] at h
  exact of_decide_eq_true h.1
theorem clo_end {i : Nat} (h : bt.length ≤ i + 1) : clo m bt i = false := by
  unfold clo
  rw [decide_eq_false (by omega)]
  rfl
theorem keep_last (h : Asc 1 bt) (hm : m.1 = .last) {i : Nat} (hi : i < bt.length) : keepF m bt i = !clo m bt i := by
  unfold clo
  rw [if_pos hm]
  by_cases e : i + 1 < bt.length
  · rw [decide_eq_true e]
    simp
  · rw [decide_eq_false e]
    have hl := mark_last h hm (by omega)
    rw [show bt.length - 1 = i by omega] at hl
    unfold keepF
    rw [List.getD_eq_getElem?_getD, hl]
    rfl
theorem keep_first (h : Asc 1 bt) (hm : ¬ m.1 = .last) {i : Nat} (hi : i < bt.length) : keepF m bt i = (decide (i = 0) || !clo m bt (i - 1)) := by
  cases i with
  | zero =>
    have hl := mark_first h hm hi
    unfold keepF
    rw [List.getD_eq_getElem?_getD, hl]
    rfl
  | succ i =>
    unfold clo
    rw [if_neg hm]
    simp [hi]
theorem ks_plc : ksOf (letF m bt) = plc bt.length (keepF m bt) := by
  unfold ksOf plc keepF
  rw [letF_len]
/-- the kept events by the closed gaps -/
theorem ks_last (h : Asc 1 bt) (hm : m.1 = .last) : ksOf (letF m bt) = plc bt.length (fun i => !clo m bt i) := by
  rw [ks_plc]
  exact plc_congr fun i hi => keep_last h hm hi
theorem ks_first (h : Asc 1 bt) (hm : ¬ m.1 = .last) : ksOf (letF m bt) = plc bt.length (fun i => decide (i = 0) || !clo m bt (i - 1)) := by
  rw [ks_plc]
  exact plc_congr fun i hi => keep_first h hm hi
/-- the first events of the stretches, by the closed gaps, whatever the kind -/
theorem lo_plc (h : Asc 1 bt) : (List.range (ksOf (letF m bt)).length).map (loOf m (ksOf (letF m bt))) = plc bt.length (fun i => decide (i = 0) || !clo m bt (i - 1)) := by
  by_cases hm : m.1 = .last
  · rw [ks_last h hm]
    cases hn : bt.length with
    | zero => rfl
    | succ n =>
      rw [plc_zero n (fun i => !clo m bt i), plc_succ]
      rw [if_pos (by rw [clo_end (by omega)]; rfl)]
      generalize hU : plc n (fun i => !clo m bt i) = U
      apply List.ext_getElem?
      intro j
      rw [List.getElem?_map]
      by_cases hj : j < U.length + 1
      · rw [List.getElem?_range (by simp; omega)]
        unfold loOf
        simp only [if_pos hm, Option.map_some]
        cases j with
        | zero => simp
        | succ j =>
          have hj' : j < U.length := by omega
          simp [hj', List.getElem?_append_left]
      · rw [List.getElem?_eq_none (by simp; omega), List.getElem?_eq_none (by simp; omega)]
        rfl
  · rw [← ks_first h hm]
    have e : ∀ j, loOf m (ksOf (letF m bt)) j = (ksOf (letF m bt)).getD j 0 := fun j => by unfold loOf; rw [if_neg hm]
    generalize ksOf (letF m bt) = ks at e ⊢
    apply List.ext_getElem
    · simp
    · intro i h1 h2
      rw [List.getElem_map, List.getElem_range, e]
      simp [h2]
end
/-! #### one step, by the gaps -/
section
variable {m : Mb} {ts : List Int} {es : List Tl}
theorem getD_map_int {α : Type} (f : α → Int) {l : List α} {d : α} {i : Nat} (h : i < l.length) : (l.map f).getD i 0 = f (l.getD i d) := by simp [h]
theorem step_nums (h : Asc 1 ts) (P : Part ts.length es) : (stepE m ts es).map (fun e => (e.num : Int)) = (plc es.length (keepF m (baseT ts es))).map fun i => (es.map fun e => (e.num : Int)).getD i 0 := by
  unfold stepE
  rw [ks_plc, baseT_len, List.map_map]
  generalize hk : plc es.length (keepF m (baseT ts es)) = ks
  apply List.ext_getElem
  · simp
  · intro j h1 h2
    have hj : j < ks.length := by simpa using h2
    have hb : ks.getD j 0 < es.length := by subst hk; exact (plc_at hj).1
    have g : ks.getD j 0 = ks[j] := by simp [hj]
    rw [g] at hb
    simp [newE, hj, hb]
theorem step_fsts (h : Asc 1 ts) (P : Part ts.length es) : (stepE m ts es).map (fun e => (e.fst : Int)) = (plc es.length (fun i => decide (i = 0) || !clo m (baseT ts es) (i - 1))).map fun i => (es.map fun e => (e.fst : Int)).getD i 0 := by
  have hb := baseT_asc h P
  have W := ks_of (m := m) hb
  have e := lo_plc (m := m) hb
  rw [baseT_len] at e
  rw [← e]
  unfold stepE
  rw [List.map_map, List.map_map]
  apply List.map_congr_left
  intro j hj
  have hj := List.mem_range.mp hj
  have hlo := lo_bound m (baseT ts es) hj
  rw [baseT_len] at hlo
  simp only [Function.comp, newE]
  rw [getD_map_int (fun e : Tl => (e.fst : Int)) (d := Tl.zero) hlo]
/-- no gap closed: nothing changes -/
theorem step_none (h : Asc 1 ts) (P : Part ts.length es) (hc : ∀ i, clo m (baseT ts es) i = false) : stepE m ts es = es := by
  have hb := baseT_asc h P
  have hk : ksOf (letF m (baseT ts es)) = List.range es.length := by
    rw [ks_plc, baseT_len]
    unfold plc
    apply List.filter_eq_self.mpr
    intro i hi
    have hi := List.mem_range.mp hi
    by_cases hm : m.1 = .last
    · rw [keep_last hb hm (by rw [baseT_len]; exact hi), hc]; rfl
    · rw [keep_first hb hm (by rw [baseT_len]; exact hi), hc]; simp
  unfold stepE
  rw [hk]
  apply List.ext_getElem
  · simp
  · intro j h1 h2
    rw [List.getElem_map, List.getElem_range]
    have gr : ∀ {i : Nat}, i < es.length → (List.range es.length).getD i 0 = i := fun {i} hi => by simp [hi]
    have ge : es.getD j .zero = es[j] := by simp [h2]
    have lo : loOf m (List.range es.length) j = j := by
      unfold loOf
      split
      · split
        · omega
        · rw [gr (by omega)]; omega
      · exact gr h2
    have hi : hiOf m (List.range es.length) es.length j = j := by
      unfold hiOf
      split
      · exact gr h2
      · rw [List.length_range]
        split
        · rename_i hj; rw [gr hj]; omega
        · omega
    unfold newE
    rw [lo, hi, gr h2, ge]
theorem baseT_nums (ts : List Int) (es : List Tl) : baseT ts es = (es.map fun e => (e.num : Int)).map fun z => ts.getD z.toNat 0 := by
  unfold baseT
  rw [List.map_map]
  apply List.map_congr_left
  intro e _
  simp
/-- the times that are kept -/
theorem step_times (h : Asc 1 ts) (P : Part ts.length es) : baseT ts (stepE m ts es) = (plc es.length (keepF m (baseT ts es))).map fun i => (baseT ts es).getD i 0 := by
  rw [baseT_nums, step_nums h P, List.map_map]
  apply List.map_congr_left
  intro i hi
  have hi := (plc_mem.mp hi).1
  have gb : (baseT ts es).getD i 0 = ts.getD (es.getD i .zero).num 0 := by
    unfold baseT
    exact getD_map_int (fun e : Tl => ts.getD e.num 0) hi
  rw [gb]
  simp only [Function.comp]
  rw [getD_map_int (fun e : Tl => (e.num : Int)) (d := Tl.zero) hi]
  simp
end
/-! #### widened gaps -/
/-- the last kept event up to i, where gap i closed means that event i + 1 is dropped -/
def pvK (c : Nat → Bool) : Nat → Nat
  | 0 => 0
  | i + 1 => if c i = true then pvK c i else i + 1
theorem pvK_le (c : Nat → Bool) : ∀ i, pvK c i ≤ i
  | 0 => Nat.le_refl _
  | i + 1 => by
    unfold pvK
    have := pvK_le c i
    split <;> omega
theorem pvK_of {c : Nat → Bool} {k : Nat} (h0 : k = 0 ∨ c (k - 1) = false) : ∀ i, k ≤ i → (∀ t, k ≤ t → t < i → c t = true) → pvK c i = k
  | 0, hk, _ => by unfold pvK; omega
  | i + 1, hk, hall => by
    unfold pvK
    by_cases e : k = i + 1
    · subst e
      rcases h0 with z | z
      · omega
      · rw [show i + 1 - 1 = i by omega] at z
        rw [if_neg (by rw [z]; decide)]
    · rw [if_pos (hall i (by omega) (by omega))]
      exact pvK_of h0 i (by omega) fun t h1 h2 => hall t h1 (by omega)
/-- the first kept event behind i, among n + 1, where gap i closed means that event i is dropped -/
def nx (c : Nat → Bool) (n : Nat) : Nat → Nat → Nat
  | 0, i => n
  | f + 1, i => if i + 1 < n ∧ c (i + 1) = true then nx c n f (i + 1) else i + 1
theorem nx_of {c : Nat → Bool} {n k : Nat} (hk : k = n ∨ (k < n ∧ c k = false)) : ∀ f i, n ≤ i + f → i < k → (∀ t, i < t → t < k → c t = true) → nx c n f i = k
  | 0, i, hf, hi, _ => by unfold nx; omega
  | f + 1, i, hf, hi, hall => by
    unfold nx
    by_cases e : k = i + 1
    · subst e
      rw [if_neg]
      rintro ⟨h1, h2⟩
      rcases hk with z | z
      · omega
      · rw [z.2] at h2; cases h2
    · have : k ≤ n := by omega
      rw [if_pos ⟨by omega, hall (i + 1) (by omega) (by omega)⟩]
      exact nx_of hk f (i + 1) (by omega) (by omega) fun t h1 h2 => hall t (by omega) h2
/-- the widened gap i: forward -/
def wF (c : Nat → Bool) (bt : List Int) (i : Nat) : Int := bt.getD (i + 1) 0 - bt.getD (pvK c i) 0
/-- backward -/
def wB (c : Nat → Bool) (bt : List Int) (i : Nat) : Int := bt.getD (nx c (bt.length - 1) bt.length i) 0 - bt.getD i 0
theorem widenF {c : Nat → Bool} {bt : List Int} {n : Nat} (hn : bt.length = n + 1) : (plc n (fun i => !c i)).map (wF c bt) = gapsL ((plc bt.length (fun i => decide (i = 0) || !c (i - 1))).map fun i => bt.getD i 0) := by
  rw [hn, plc_zero n (fun i => !c i)]
  generalize hU : plc n (fun i => !c i) = U
  unfold gapsL
  apply List.ext_getElem
  · simp
  · intro j h1 h2
    have hj : j < U.length := by simpa using h1
    have g : U.getD j 0 = U[j] := by simp [hj]
    have hat := plc_at (n := n) (c := fun i => !c i) (a := j) (by rw [hU]; exact hj)
    rw [hU] at hat
    simp only [List.getElem_map, List.getElem_range, List.length_map, List.length_cons]
    have k1 : ((0 :: U.map (· + 1)).map fun i => bt.getD i 0).getD (j + 1) 0 = bt.getD (U[j] + 1) 0 := by simp [hj]
    rw [k1]
    unfold wF
    congr 1
    have e : pvK c U[j] = (0 :: U.map (· + 1)).getD j 0 := by
      cases j with
      | zero =>
        refine pvK_of (.inl rfl) _ (Nat.zero_le _) fun t _ h2 => ?_
        have := plc_gap (n := n) (c := fun i => !c i) (a := 0) (i := t) (by rw [hU]; exact hj) (.inl rfl) (by rw [hU, g]; exact h2)
        simpa using this
      | succ j =>
        have hj1 : j < U.length := by omega
        have g1 : U.getD j 0 = U[j] := by simp [hj1]
        have hlt := plc_lt (n := n) (c := fun i => !c i) (a := j) (b := j + 1) (by rw [hU]; exact hj) (by omega)
        rw [hU, g, g1] at hlt
        have hat1 := plc_at (n := n) (c := fun i => !c i) (a := j) (by rw [hU]; exact hj1)
        rw [hU, g1] at hat1
        have eg : (0 :: U.map (· + 1)).getD (j + 1) 0 = U[j] + 1 := by simp [hj1]
        rw [eg]
        refine pvK_of (.inr (by simpa using hat1.2)) _ (by omega) fun t h3 h4 => ?_
        have := plc_gap (n := n) (c := fun i => !c i) (a := j + 1) (i := t) (by rw [hU]; exact hj) (.inr (by rw [Nat.add_sub_cancel, hU, g1]; omega)) (by rw [hU, g]; exact h4)
        simpa using this
    rw [e]
    have hjc : j < (0 :: U.map (· + 1)).length := by simp; omega
    rw [List.getD_eq_getElem?_getD, List.getD_eq_getElem?_getD, List.getD_eq_getElem?_getD, List.getElem?_map, List.getElem?_eq_getElem hjc]
    simp
theorem widenB {c : Nat → Bool} {bt : List Int} {n : Nat} (hn : bt.length = n + 1) (hc : c n = false) : (plc n (fun i => !c i)).map (wB c bt) = gapsL ((plc bt.length (fun i => !c i)).map fun i => bt.getD i 0) := by
  rw [hn, plc_succ, if_pos (by rw [hc]; rfl)]
  generalize hU : plc n (fun i => !c i) = U
  unfold gapsL
  apply List.ext_getElem
  · simp
  · intro j h1 h2
    have hj : j < U.length := by simpa using h1
    have g : U.getD j 0 = U[j] := by simp [hj]
    have hat := plc_at (n := n) (c := fun i => !c i) (a := j) (by rw [hU]; exact hj)
    rw [hU, g] at hat
    simp only [List.getElem_map, List.getElem_range]
    have k1 : ((U ++ [n]).map fun i => bt.getD i 0).getD j 0 = bt.getD U[j] 0 := by
      rw [List.getD_eq_getElem?_getD, List.getElem?_map, List.getElem?_append_left hj, List.getElem?_eq_getElem hj]
      rfl
    rw [k1]
    unfold wB
    congr 1
    have e : nx c (bt.length - 1) bt.length U[j] = (U ++ [n]).getD (j + 1) 0 := by
      rw [hn, Nat.add_sub_cancel]
      by_cases hl : j + 1 < U.length
      · have g1 : U.getD (j + 1) 0 = U[j + 1] := by simp [hl]
        have hlt := plc_lt (n := n) (c := fun i => !c i) (a := j) (b := j + 1) (by rw [hU]; exact hl) (by omega)
        rw [hU, g, g1] at hlt
        have hat1 := plc_at (n := n) (c := fun i => !c i) (a := j + 1) (by rw [hU]; exact hl)
        rw [hU, g1] at hat1
        have eg : (U ++ [n]).getD (j + 1) 0 = U[j + 1] := by
          rw [List.getD_eq_getElem?_getD, List.getElem?_append_left hl, List.getElem?_eq_getElem hl]
          rfl
        rw [eg]
        refine nx_of (.inr ⟨hat1.1, by simpa using hat1.2⟩) _ _ (by omega) hlt fun t h3 h4 => ?_
        have := plc_gap (n := n) (c := fun i => !c i) (a := j + 1) (i := t) (by rw [hU]; exact hl) (.inr (by rw [Nat.add_sub_cancel, hU, g]; exact h3)) (by rw [hU, g1]; exact h4)
        simpa using this
      · have el : j + 1 = U.length := by omega
        have eg : (U ++ [n]).getD (j + 1) 0 = n := by
          rw [el, List.getD_eq_getElem?_getD, List.getElem?_append_right (Nat.le_refl _), Nat.sub_self]
          rfl
        rw [eg]
        refine nx_of (.inl rfl) _ _ (by omega) (by omega) fun t h3 h4 => ?_
        cases et : c t with
        | true => rfl
        | false =>
          obtain ⟨b, hb, eb⟩ := plc_ix (n := n) (c := fun i => !c i) (i := t) h4 (by rw [et]; rfl)
          rw [hU] at hb eb
          have : b ≤ j := by omega
          rcases Nat.lt_or_eq_of_le this with q | q
          · have := plc_lt (n := n) (c := fun i => !c i) (a := b) (b := j) (by rw [hU]; exact hj) q
            rw [hU, eb, g] at this
            omega
          · subst q; omega
    rw [e]
    have hjc : j + 1 < (U ++ [n]).length := by simp; omega
    rw [List.getD_eq_getElem?_getD, List.getD_eq_getElem?_getD, List.getD_eq_getElem?_getD, List.getElem?_map, List.getElem?_eq_getElem hjc]
    simp

/-! #### which gaps a member closes -/
theorem clo_narrow {kd : Kd} {q : Int} {bt : List Int} (h : Asc 1 bt) (hk : kd = .last ∨ kd = .first) {i : Nat} (hi : i + 1 < bt.length) : clo (kd, q) bt i = decide ((gapsL bt).getD i 0 < q) := by
  unfold clo
  rw [decide_eq_true hi, Bool.true_and, gapsL_get hi]
  rcases hk with rfl | rfl
  · simp only [if_true]
    unfold keepF
    rw [mark_last_at h (by omega)]
    rw [← decide_not]
    exact decide_eq_decide.mpr (by omega)
  · rw [if_neg (by intro z; cases z)]
    unfold keepF
    rw [mark_first_at h (by omega)]
    rw [← decide_not, Nat.add_sub_cancel]
    exact decide_eq_decide.mpr (by omega)
theorem clo_delay {q : Int} {bt : List Int} (i : Nat) : clo (.delay, q) bt i = false := by
  unfold clo
  by_cases hi : i + 1 < bt.length
  · rw [if_neg (by intro z; cases z)]
    unfold keepF
    rw [mark_delay_at (by omega)]
    simp
  · rw [decide_eq_false hi]
    rfl
theorem lim_pv {m : Mb} {bt : List Int} (h : Asc 1 bt) (hm : ¬ m.1 = .last) : ∀ i, i < bt.length → ksTo m bt (i + 1) ≠ [] ∧ (ksTo m bt (i + 1)).getD ((ksTo m bt (i + 1)).length - 1) 0 = pvK (clo m bt) i
  | 0, hi => by
    have hk : (letF m bt).getD 0 false = true := by
      have := mark_first h hm hi
      rw [List.getD_eq_getElem?_getD, this]
      rfl
    rw [ksTo_succ, if_pos hk]
    exact ⟨by simp, by unfold ksTo pvK; simp⟩
  | i + 1, hi => by
    obtain ⟨ih1, ih2⟩ := lim_pv h hm i (by omega)
    have hc : clo m bt i = !(letF m bt).getD (i + 1) false := by
      unfold clo keepF
      rw [if_neg hm, decide_eq_true hi, Bool.true_and]
    rw [ksTo_succ]
    unfold pvK
    cases e : (letF m bt).getD (i + 1) false with
    | true =>
      rw [if_pos rfl, hc, e]
      exact ⟨by simp, by simp⟩
    | false =>
      rw [if_neg (by decide), hc, e]
      exact ⟨ih1, ih2⟩
theorem clo_limit {q : Int} {bt : List Int} (h : Asc 1 bt) {i : Nat} (hi : i + 1 < bt.length) : clo (.limit, q) bt i = decide (bt.getD (i + 1) 0 - bt.getD (pvK (clo (.limit, q) bt) i) 0 < q) := by
  obtain ⟨h1, h2⟩ := lim_pv (m := (.limit, q)) h (by intro z; cases z) i (by omega)
  have e : clo (.limit, q) bt i = !(letF (.limit, q) bt).getD (i + 1) false := by
    unfold clo keepF
    rw [if_neg (by intro z; cases z), decide_eq_true hi, Bool.true_and]
  conv => lhs; rw [e, mark_limit_at h hi, h2]
  rw [← decide_not]
  apply decide_eq_decide.mpr
  constructor
  · intro z
    have := not_or.mp z
    omega
  · intro z w
    rcases w with w | w
    · exact h1 w
    · omega
/-- a gap that is closed is less than the quiet -/
theorem clo_less {m : Mb} {bt : List Int} (h : Asc 1 bt) {i : Nat} (hc : clo m bt i = true) : m.1 ≠ .delay ∧ (gapsL bt).getD i 0 < m.2 := by
  have hi := clo_lt hc
  obtain ⟨kd, q⟩ := m
  cases kd with
  | last => rw [clo_narrow h (.inl rfl) hi] at hc; exact ⟨(fun z => by cases z), of_decide_eq_true hc⟩
  | first => rw [clo_narrow h (.inr rfl) hi] at hc; exact ⟨(fun z => by cases z), of_decide_eq_true hc⟩
  | delay => rw [clo_delay] at hc; cases hc
  | limit =>
    rw [clo_limit h hi] at hc
    have h1 := of_decide_eq_true hc
    refine ⟨(fun z => by cases z), ?_⟩
    rw [gapsL_get hi]
    have h2 := pvK_le (clo (.limit, q) bt) i
    have h3 := (asc_le_iff h (i := pvK (clo (.limit, q) bt) i) (j := i) (by omega) (by omega)).mpr h2
    have g1 : bt.getD i 0 = bt[i] := by simp [show i < bt.length by omega]
    have g2 : bt.getD (pvK (clo (.limit, q) bt) i) 0 = bt[pvK (clo (.limit, q) bt) i]'(by omega) := by simp [show pvK (clo (.limit, q) bt) i < bt.length by omega]
    show bt.getD (i + 1) 0 - bt.getD i 0 < q
    omega
/-! #### the widening in place -/
/-- gap i before anything is widened, 0 behind all -/
def wide0 (bt : List Int) : List Int := gapsL bt ++ [0]
theorem wide0_len {bt : List Int} (h : 0 < bt.length) : (wide0 bt).length = bt.length := by unfold wide0; rw [List.length_append, gapsL_len]; simp; omega
theorem wide0_get {bt : List Int} {i : Nat} (h : i + 1 < bt.length) : (wide0 bt).getD i 0 = bt.getD (i + 1) 0 - bt.getD i 0 := by
  unfold wide0
  rw [List.getD_eq_getElem?_getD, List.getElem?_append_left (by rw [gapsL_len]; omega), ← List.getD_eq_getElem?_getD]
  exact gapsL_get h
theorem pvK_self {c : Nat → Bool} {i : Nat} (h : i = 0 ∨ c (i - 1) = false) : pvK c i = i := pvK_of h i (Nat.le_refl _) fun t h1 h2 => by omega
/-- forward: so many closed places are done -/
structure FInv (c : Nat → Bool) (bt : List Int) (t : Nat) (ws : List Int) : Prop where
  len : ws.length = bt.length
  done : ∀ i, i + 1 < bt.length → (t < (plc (bt.length - 1) c).length → i ≤ (plc (bt.length - 1) c).getD t 0) → ws.getD i 0 = wF c bt i
  rest : ∀ i, i + 1 < bt.length → t < (plc (bt.length - 1) c).length → (plc (bt.length - 1) c).getD t 0 < i → ws.getD i 0 = bt.getD (i + 1) 0 - bt.getD i 0
theorem FInv.init {c : Nat → Bool} {bt : List Int} (h : 0 < bt.length) : FInv c bt 0 (wide0 bt) := by
  refine ⟨wide0_len h, fun i hi hd => ?_, fun i hi _ _ => wide0_get hi⟩
  rw [wide0_get hi]
  unfold wF
  have : pvK c i = i := by
    refine pvK_self ?_
    by_cases e : i = 0
    · exact .inl e
    · right
      by_cases q : 0 < (plc (bt.length - 1) c).length
      · exact plc_gap q (.inl rfl) (by have := hd q; omega)
      · cases ec : c (i - 1) with
        | false => rfl
        | true =>
          obtain ⟨a, ha, _⟩ := plc_ix (n := bt.length - 1) (c := c) (i := i - 1) (by omega) ec
          omega
  rw [this]
theorem FInv.step {c : Nat → Bool} {bt ws : List Int} {t : Nat} (I : FInv c bt t ws) (ht : t < (plc (bt.length - 1) c).length) {p : Nat} (hp : p = (plc (bt.length - 1) c).getD t 0) : p + 1 < bt.length ∧ FInv c bt (t + 1) (ws.set (p + 1) (ws.getD (p + 1) 0 + ws.getD p 0)) := by
  obtain ⟨hb, hcp⟩ := plc_at ht
  rw [← hp] at hb hcp
  have hb' : p + 1 < bt.length := by omega
  have hl := I.len
  have g : ∀ i, (ws.set (p + 1) (ws.getD (p + 1) 0 + ws.getD p 0)).getD i 0 = if i = p + 1 then ws.getD (p + 1) 0 + ws.getD p 0 else ws.getD i 0 := fun i => by
    rw [List.getD_eq_getElem?_getD, List.getElem?_set]
    by_cases e : p + 1 = i
    · subst e
      rw [if_pos rfl, if_pos (by omega), if_pos rfl]
      rfl
    · rw [if_neg e, if_neg (fun z => e z.symm), List.getD_eq_getElem?_getD]
  refine ⟨hb', by rw [List.length_set]; exact hl, fun i hi hd => ?_, fun i hi h1 h2 => ?_⟩
  · rw [g]
    have dp := I.done p hb' (fun _ => by omega)
    by_cases e : i = p + 1
    · subst e
      rw [if_pos rfl, dp, I.rest (p + 1) hi ht (by omega)]
      unfold wF
      have : pvK c (p + 1) = pvK c p := by
        show (if c p = true then pvK c p else p + 1) = pvK c p
        rw [if_pos hcp]
      rw [this]
      omega
    · rw [if_neg e]
      by_cases q : i ≤ p
      · exact I.done i hi (fun _ => by omega)
      · rw [I.rest i hi ht (by omega)]
        unfold wF
        have : pvK c i = i := by
          refine pvK_self (.inr ?_)
          cases ec : c (i - 1) with
          | false => rfl
          | true =>
            obtain ⟨a, ha, ea⟩ := plc_ix (n := bt.length - 1) (c := c) (i := i - 1) (by omega) ec
            have : t < a := by
              apply Nat.not_le.mp
              intro z
              rcases Nat.lt_or_eq_of_le z with z | z
              · have := plc_lt ht z; omega
              · subst z; omega
            have h3 := hd (by omega)
            rcases Nat.lt_or_eq_of_le (show t + 1 ≤ a by omega) with z | z
            · have := plc_lt ha z; omega
            · rw [z] at h3; omega
        rw [this]
  · rw [g]
    have := plc_lt h1 (show t < t + 1 by omega)
    rw [if_neg (by omega)]
    exact I.rest i hi ht (by omega)
theorem FInv.all {c : Nat → Bool} {bt ws : List Int} (I : FInv c bt (plc (bt.length - 1) c).length ws) {i : Nat} (hi : i + 1 < bt.length) : ws.getD i 0 = wF c bt i := I.done i hi fun z => by omega
/-- backward: so many closed places are done, from the last one on -/
structure BInv (c : Nat → Bool) (bt : List Int) (t : Nat) (ws : List Int) : Prop where
  len : ws.length = bt.length
  done : ∀ i, i + 1 < bt.length → (t < (plc (bt.length - 1) c).length → (plc (bt.length - 1) c).getD ((plc (bt.length - 1) c).length - 1 - t) 0 ≤ i) → ws.getD i 0 = wB c bt i
  rest : ∀ i, i + 1 < bt.length → t < (plc (bt.length - 1) c).length → i < (plc (bt.length - 1) c).getD ((plc (bt.length - 1) c).length - 1 - t) 0 → ws.getD i 0 = bt.getD (i + 1) 0 - bt.getD i 0
theorem nx_self {c : Nat → Bool} {n f i : Nat} (hf : n ≤ i + f) (hi : i < n) (h : i + 1 = n ∨ c (i + 1) = false) : nx c n f i = i + 1 := by
  refine nx_of ?_ f i hf (by omega) fun t h1 h2 => by omega
  rcases h with z | z
  · exact .inl z
  · by_cases e : i + 1 = n
    · exact .inl e
    · exact .inr ⟨by omega, z⟩
theorem nx_step {c : Nat → Bool} {n i : Nat} (h1 : i + 1 < n) (h2 : c (i + 1) = true) : ∀ f f', n ≤ i + f → n ≤ i + 1 + f' → nx c n f i = nx c n f' (i + 1) := by
  -- both find the same
  have key : ∀ d i, d = n - i → i < n → ∃ k, i < k ∧ (k = n ∨ (k < n ∧ c k = false)) ∧ ∀ t, i < t → t < k → c t = true := by
    intro d
    induction d with
    | zero => intro i hd hi; omega
    | succ d ih =>
      intro i hd hi
      by_cases e : i + 1 = n
      · exact ⟨n, hi, .inl rfl, fun t a b => by omega⟩
      · cases ec : c (i + 1) with
        | false => exact ⟨i + 1, by omega, .inr ⟨by omega, ec⟩, fun t a b => by omega⟩
        | true =>
          obtain ⟨k, k1, k2, k3⟩ := ih (i + 1) (by omega) (by omega)
          refine ⟨k, by omega, k2, fun t a b => ?_⟩
          by_cases q : t = i + 1
          · rw [q]; exact ec
          · exact k3 t (by omega) b
  intro f f' hf hf'
  obtain ⟨k, k1, k2, k3⟩ := key _ (i + 1) rfl h1
  rw [nx_of k2 f' (i + 1) hf' k1 k3]
  refine nx_of k2 f i hf (by omega) fun t a b => ?_
  by_cases q : t = i + 1
  · rw [q]; exact h2
  · exact k3 t (by omega) b
theorem BInv.init {c : Nat → Bool} {bt : List Int} (h : 0 < bt.length) : BInv c bt 0 (wide0 bt) := by
  refine ⟨wide0_len h, fun i hi hd => ?_, fun i hi _ _ => wide0_get hi⟩
  rw [wide0_get hi]
  unfold wB
  have : nx c (bt.length - 1) bt.length i = i + 1 := by
    refine nx_self (by omega) (by omega) ?_
    by_cases e : i + 1 = bt.length - 1
    · exact .inl e
    · right
      cases ec : c (i + 1) with
      | false => rfl
      | true =>
        obtain ⟨a, ha, ea⟩ := plc_ix (n := bt.length - 1) (c := c) (i := i + 1) (by omega) ec
        have h2 := hd (by omega)
        rcases Nat.lt_or_eq_of_le (show a ≤ (plc (bt.length - 1) c).length - 1 - 0 by omega) with z | z
        · have := plc_lt (n := bt.length - 1) (c := c) (a := a) (b := (plc (bt.length - 1) c).length - 1 - 0) (by omega) z
          omega
        · rw [← z] at h2; omega
  rw [this]
theorem BInv.step {c : Nat → Bool} {bt ws : List Int} {t : Nat} (I : BInv c bt t ws) (ht : t < (plc (bt.length - 1) c).length) {p : Nat} (hp : p = (plc (bt.length - 1) c).getD ((plc (bt.length - 1) c).length - 1 - t) 0) :
    p + 1 < bt.length ∧ (∀ j, (j = p - 1 ∧ 0 < p) ∨ (j = bt.length - 1 ∧ p = 0) → BInv c bt (t + 1) (ws.set j (ws.getD j 0 + ws.getD p 0))) := by
  generalize hL : (plc (bt.length - 1) c).length = L at *
  obtain ⟨hb, hcp⟩ := plc_at (n := bt.length - 1) (c := c) (a := L - 1 - t) (by omega)
  rw [← hp] at hb hcp
  have hb' : p + 1 < bt.length := by omega
  have hl := I.len
  refine ⟨hb', fun j hj => ?_⟩
  have hjl : j < ws.length := by omega
  have g : ∀ i, (ws.set j (ws.getD j 0 + ws.getD p 0)).getD i 0 = if i = j then ws.getD j 0 + ws.getD p 0 else ws.getD i 0 := fun i => by
    rw [List.getD_eq_getElem?_getD, List.getElem?_set]
    by_cases e : j = i
    · subst e
      rw [if_pos rfl, if_pos hjl, if_pos rfl]
      rfl
    · rw [if_neg e, if_neg (fun z => e z.symm), List.getD_eq_getElem?_getD]
  refine ⟨by rw [List.length_set]; exact hl, fun i hi hd => ?_, fun i hi h1 h2 => ?_⟩
  · rw [g]
    rw [hL] at hd
    have dp := I.done p hb' (fun _ => by rw [hL]; omega)
    by_cases e : i = j
    · subst e
      have h0 : i = p - 1 ∧ 0 < p := by
        rcases hj with z | z
        · exact z
        · omega
      rw [if_pos rfl, dp, I.rest i hi (by rw [hL]; exact ht) (by rw [hL]; omega)]
      unfold wB
      have : nx c (bt.length - 1) bt.length i = nx c (bt.length - 1) bt.length p := by
        have := nx_step (c := c) (n := bt.length - 1) (i := i) (by omega) (by rw [show i + 1 = p by omega]; exact hcp) bt.length bt.length (by omega) (by omega)
        rw [show i + 1 = p by omega] at this
        exact this
      rw [this]
      rw [show i + 1 = p by omega]
      omega
    · rw [if_neg e]
      by_cases q : p ≤ i
      · exact I.done i hi (fun _ => by rw [hL]; omega)
      · rw [I.rest i hi (by rw [hL]; exact ht) (by rw [hL]; omega)]
        unfold wB
        have : nx c (bt.length - 1) bt.length i = i + 1 := by
          refine nx_self (by omega) (by omega) (.inr ?_)
          cases ec : c (i + 1) with
          | false => rfl
          | true =>
            obtain ⟨a, ha, ea⟩ := plc_ix (n := bt.length - 1) (c := c) (i := i + 1) (by omega) ec
            rw [hL] at ha
            have : a < L - 1 - t := by
              apply Nat.not_le.mp
              intro z
              rcases Nat.lt_or_eq_of_le z with z | z
              · have := plc_lt (n := bt.length - 1) (c := c) (a := L - 1 - t) (b := a) (by omega) z
                omega
              · rw [z] at hp; omega
            have h3 := hd (by omega)
            rcases Nat.lt_or_eq_of_le (show a ≤ L - 1 - (t + 1) by omega) with z | z
            · have := plc_lt (n := bt.length - 1) (c := c) (a := a) (b := L - 1 - (t + 1)) (by omega) z
              omega
            · rw [← z] at h3; omega
        rw [this]
  · rw [g]
    rw [hL] at h1 h2
    have := plc_lt (n := bt.length - 1) (c := c) (a := L - 1 - (t + 1)) (b := L - 1 - t) (by omega) (by omega)
    rw [if_neg (by omega)]
    exact I.rest i hi (by rw [hL]; exact ht) (by rw [hL]; omega)
theorem BInv.all {c : Nat → Bool} {bt ws : List Int} (I : BInv c bt (plc (bt.length - 1) c).length ws) {i : Nat} (hi : i + 1 < bt.length) : ws.getD i 0 = wB c bt i := I.done i hi fun z => by omega
end My

set_option Elab.async false
set_option linter.all false
set_option maxRecDepth 100000
set_option maxHeartbeats 4000000
namespace My
open PySem PySem.Spec PyProof.Rows L2
/-! ### the promises of rows' functions -/
def natV (ks : List Nat) : List V := (ks.map fun (i : Nat) => (i : Int)).map V.int
theorem natV_len (ks : List Nat) : (natV ks).length = ks.length := by unfold natV; simp
theorem natV_at {ks : List Nat} {i : Nat} {x : V} (h : (natV ks)[i]? = some x) : i < ks.length ∧ x = V.int ((ks.getD i 0 : Nat) : Int) := by
  unfold natV at h
  rw [List.map_map, List.getElem?_map] at h
  cases e : ks[i]? with
  | none => rw [e] at h; cases h
  | some k =>
    rw [e] at h
    have hi := (List.getElem?_eq_some_iff.mp e).1
    refine ⟨hi, ?_⟩
    cases Option.some.inj h
    simp [e]
theorem natV_snoc (ks : List Nat) (k : Nat) : natV (ks ++ [k]) = natV ks ++ [V.int (k : Int)] := by unfold natV; simp
def intV (ns : List Int) : List V := ns.map V.int
def spQuiet (C : Addr) (f : Str) : Sp := spLag C f
def spKind (C : Addr) (z : Str) : Sp := fun vs H Q _ => ∃ (a dx : Addr) (fs : List (Str × V)), vs = [.ref a] ∧ H a = some (.ins C dx fs) ∧ Q (.str z) H
def spNarrow (K : PySem.W.Frag) : Sp := fun vs H Q _ => ∃ (g : Addr) (gs : List Int) (q : Int), vs = [.ref g, .int q] ∧ H g = some (.lst (gs.map V.int)) ∧ gs.length ≤ 30000 ∧
  ∀ H' p, Same H H' → H p = none → H' p = some (.lst (natV (plc gs.length fun i => decide (gs.getD i 0 < q)))) → Q (.ref p) H'
def spClosed (K : PySem.W.Frag) (kd : Kd) : Sp := fun vs H Q _ => ∃ (a g dx : Addr) (n : Int) (bt : List Int), vs = [.ref a, .ref g] ∧ H a = some (.ins (kd.cls K) dx [(kd.fld, .int n)]) ∧ H g = some (.lst ((gapsL bt).map V.int)) ∧ (Asc 1 bt ∧ bt.length ≤ 30000) ∧
  ∀ H' p, Same H H' → H p = none → H' p = some (.lst (natV (plc (bt.length - 1) (clo (kd, n) bt)))) → Q (.ref p) H'
def spGaps (K : PySem.W.Frag) : Sp := fun vs H Q _ => ∃ (l : Addr) (b : Bool) (ts : List Int), vs = [.ref l] ∧ Sq K b H l (ts.map V.int) ∧ ts.length ≤ 30000 ∧
  ∀ H' p, Same H H' → H p = none → H' p = some (.lst ((gapsL ts).map V.int)) → Q (.ref p) H'
def spWithout (K : PySem.W.Frag) : Sp := fun vs H Q _ => ∃ (l g : Addr) (xs : List Int) (c : Nat → Bool), vs = [.ref l, .ref g] ∧ H l = some (.lst (xs.map V.int)) ∧ H g = some (.lst (natV (plc xs.length c))) ∧ xs.length ≤ 30000 ∧
  ∀ H' p, Same H H' → H p = none → H' p = some (.lst ((sel xs fun i => !c i).map V.int)) → Q (.ref p) H'
def spBehind (K : PySem.W.Frag) : Sp := fun vs H Q _ => ∃ (l g : Addr) (xs : List Int) (c : Nat → Bool), vs = [.ref l, .ref g] ∧ H l = some (.lst (xs.map V.int)) ∧ H g = some (.lst (natV (plc (xs.length - 1) c))) ∧ xs.length ≤ 30000 ∧
  ∀ H' p, Same H H' → H p = none → H' p = some (.lst ((sel xs fun i => decide (i = 0) || !c (i - 1)).map V.int)) → Q (.ref p) H'
/-- the kept times: tw is toward -1 -/
def keptT (tw : Bool) (c : Nat → Bool) (bt : List Int) : List Int := if tw = true then (plc bt.length fun i => !c i).map (fun i => bt.getD i 0) else (plc bt.length fun i => decide (i = 0) || !c (i - 1)).map fun i => bt.getD i 0
def spWiden (K : PySem.W.Frag) : Sp := fun vs H Q _ => ∃ (g p : Addr) (bt : List Int) (c : Nat → Bool) (tw : Bool), vs = [.ref g, .ref p, .int (if tw = true then -1 else 1)] ∧ H g = some (.lst ((gapsL bt).map V.int)) ∧ H p = some (.lst (natV (plc (bt.length - 1) c))) ∧ (0 < bt.length ∧ bt.length ≤ 30000 ∧ c (bt.length - 1) = false) ∧
  ∀ H' r, Same H H' → H r = none → H' r = some (.lst ((gapsL (keptT tw c bt)).map V.int)) → Q (.ref r) H'
/-! #### what was closed, member by member -/
abbrev Cl := Nat × (Nat → Bool)
def PlcV (H : Hp) (c : Cl) (v : V) : Prop := ∃ p, v = .ref p ∧ H p = some (.lst (natV (plc c.1 c.2)))
theorem PlcV.same {H H' : Hp} (k : Same H H') {c : Cl} {v : V} (h : PlcV H c v) : PlcV H' c v := by
  obtain ⟨p, e, q⟩ := h
  exact ⟨p, e, k _ _ q⟩
def fstep (fs : List Int) (c : Nat → Bool) : List Int := sel fs fun i => decide (i = 0) || !c (i - 1)
def fstsOf (n : Nat) (cs : List Cl) : List Int := cs.foldl (fun fs c => fstep fs c.2) ((List.range n).map fun (i : Nat) => (i : Int))
/-- each look fits the first events that were left -/
def Fits (n : Nat) (cs : List Cl) : Prop := ∀ k c, cs[k]? = some c → c.1 = (fstsOf n (cs.take k)).length - 1
theorem fstsOf_snoc (n : Nat) (cs : List Cl) (c : Cl) : fstsOf n (cs ++ [c]) = fstep (fstsOf n cs) c.2 := by unfold fstsOf; rw [List.foldl_append]; rfl
theorem Fits.nil {n : Nat} : Fits n [] := fun k c h => by simp at h
theorem Fits.snoc {n : Nat} {cs : List Cl} {c : Cl} (h : Fits n cs) (e : c.1 = (fstsOf n cs).length - 1) : Fits n (cs ++ [c]) := by
  intro k d hd
  by_cases q : k < cs.length
  · rw [List.getElem?_append_left q] at hd
    rw [h k d hd, List.take_append_of_le_length (by omega)]
  · have hk := (List.getElem?_eq_some_iff.mp hd).1
    simp only [List.length_append, List.length_singleton] at hk
    have ek : k = cs.length := by omega
    subst ek
    simp at hd
    subst hd
    rw [List.take_left']
    · exact e
    · rfl
/-- what the member at a place closes -/
def clAt (ms : List Mb) (ts : List Int) (j : Nat) : Cl := ((baseT ts (tellE (ms.take j) ts)).length - 1, clo (ms.getD j (.delay, 0)) (baseT ts (tellE (ms.take j) ts)))
theorem clAt_eq {ms : List Mb} {ts : List Int} {j : Nat} {m : Mb} (h : ms[j]? = some m) : clAt ms ts j = ((baseT ts (tellE (ms.take j) ts)).length - 1, clo m (baseT ts (tellE (ms.take j) ts))) := by
  unfold clAt
  rw [List.getD_eq_getElem?_getD, h]
  rfl
theorem plc_none {n : Nat} {c : Nat → Bool} (h : ∀ i, c i = false) : natV (plc n c) = [] := by
  have : plc n c = [] := by
    unfold plc
    apply List.filter_eq_nil_iff.mpr
    intro a _
    rw [h a]
    decide
  rw [this]
  rfl
def spTAC (K : PySem.W.Frag) : Sp := fun vs H Q _ => ∃ (m l : Addr) (b : Bool) (ms : List Mb) (xs : List V) (ts : List Int), vs = [.ref m, .ref l] ∧ H m = some (.tup xs) ∧ Each (MemV K H) ms xs ∧ Sq K b H l (ts.map V.int) ∧ (Asc 1 ts ∧ ts.length ≤ 30000 ∧ ms.length ≤ 1000) ∧
  ∀ H' t n c ys (cs : List Cl), Same H H' → H t = none → H' t = some (.tup [.ref n, .ref c]) → H n = none → H' n = some (.lst (((tellE ms ts).map fun e => (e.num : Int)).map V.int)) → H c = none → H' c = some (.lst ys) → Each (PlcV H') cs ys →
    Fits ts.length cs → fstsOf ts.length cs = (tellE ms ts).map (fun e => (e.fst : Int)) → cs.length ≤ 1000 → (∀ j m, ms[j]? = some m → cs[j]? = some (clAt ms ts j)) → cs.length = ms.length → Q (.ref t) H'
def spTimesB (K : PySem.W.Frag) : Sp := fun vs H Q _ => ∃ (m l : Addr) (b : Bool) (ms : List Mb) (xs : List V) (ts : List Int), vs = [.ref m, .ref l] ∧ H m = some (.tup xs) ∧ Each (MemV K H) ms xs ∧ Sq K b H l (ts.map V.int) ∧ (Asc 1 ts ∧ ts.length ≤ 30000 ∧ ms.length ≤ 1000) ∧
  ∀ H' p, Same H H' → H p = none → H' p = some (.lst (((rowsOf ms ts).map fun r => r.2.1).map V.int)) → Q (.ref p) H'
def spLagOf (K : PySem.W.Frag) : Sp := fun vs H Q _ => ∃ (m : Addr) (b : Bool) (ms : List Mb) (xs : List V), vs = [.ref m] ∧ Sq K b H m xs ∧ Each (MemV K H) ms xs ∧ ms.length ≤ 10000 ∧ ∀ H', Same H H' → Q (.int (lateOf ms)) H'
def spCheckS (K : PySem.W.Frag) : Sp := fun vs H Q _ => ∃ (l : Addr) (b : Bool) (ts : List Int), vs = [.ref l] ∧ Sq K b H l (ts.map V.int) ∧ (Asc 1 ts ∧ ts.length ≤ 30000) ∧ ∀ H', Same H H' → Q .non H'
def spToldE (K : PySem.W.Frag) : Sp := fun vs H Q _ => ∃ (r l : Addr) (b : Bool) (ms : List Mb) (ts : List Int), vs = [.ref r, .ref l] ∧ RowO K H ms r ∧ Sq K b H l (ts.map V.int) ∧ (Asc 1 ts ∧ ts.length ≤ 30000 ∧ ms.length ≤ 1000) ∧
  ∀ H' p ys, Same H H' → H p = none → H' p = some (.lst ys) → Each (ToldV K H') (rowsOf ms ts) ys → Q (.ref p) H'
def spToldT (K : PySem.W.Frag) : Sp := fun vs H Q _ => ∃ (r l : Addr) (b : Bool) (ms : List Mb) (ts : List Int), vs = [.ref r, .ref l] ∧ RowO K H ms r ∧ Sq K b H l (ts.map V.int) ∧ (Asc 1 ts ∧ ts.length ≤ 30000 ∧ ms.length ≤ 1000) ∧
  ∀ H' p, Same H H' → H p = none → H' p = some (.lst (((rowsOf ms ts).map fun r => r.2.1).map V.int)) → Q (.ref p) H'
/-! #### readings -/
theorem sq_isI {K : PySem.W.Frag} {b : Bool} {H : Hp} {a : Addr} {xs : List V} (h : Sq K b H a xs) : SqL K H a xs ∨ SqT K H a xs := by
  cases b
  · exact .inl h
  · exact .inr h
/-- an item of a list or a tuple -/
theorem ix_sq {K : PySem.W.Frag} {b : Bool} {H : Hp} {a : Addr} {xs : List V} {i : Int} {v : V} {Q : VK} (h : Sq K b H a xs) (e : atI xs i = some v) (q : Q v H) : rIx K (.ref a) (.int i) H Q := by
  cases b
  · exact .inl ⟨a, xs, i, v, rfl, rfl, h, e, q⟩
  · exact .inr (.inl ⟨a, xs, i, v, rfl, rfl, h, e, q⟩)
theorem len_sq {K : PySem.W.Frag} {b : Bool} {H : Hp} {a : Addr} {xs : List V} (h : Sq K b H a xs) : SqL K H a xs ∨ SqT K H a xs := sq_isI h
theorem extK {X : Cx} {K : PySem.W.Frag} {o e : Expr} {to : TE} {t : TA} {apos cpos : Pos} (ho : PE X o to) (ha : PA X [e] t) (h : X.K = K := by rfl)
    (hbase : attributeBase o "extend" X.env (eval o X.env) = eval o X.env := by rfl)
    (hfew : ((backTo cpos (starEach [e] X.env)).all (fun x => !x.1) && (backToKw cpos (keywordEach [] X.env)).all (fun x => x.1.isSome)
      && decide ([e].length + ([] : List Keyword).length + (if ([] : List Keyword).isEmpty then 0 else 1) < 30)) = true := by rfl)
    (hline : (apos.endLine == cpos.line) = true := by rfl) (hs : starEach [e] X.env = (false, eval e X.env) :: starEach [] X.env := by rfl) (hplain : (backTo cpos (starEach [] X.env)).any (·.1) = false := by rfl) :
    PE X (.Call (.Attribute o "extend" apos) [e] [] cpos) (tBM K "list" rExtend to t) := by
  subst h
  exact pe_bm PySem.F.plainAttrs_list PySem.F.slot_list_extend PySem.F.type_list_extend mt_extend ho ha hbase hfew hline hs hplain
theorem minDK {X : Cx} {K : PySem.W.Frag} (hc : X.calm = true) (hu : X.A.units + 64 < cLine) (h : X.K = K := by rfl) : CallRK X (.builtin "min") [Str.ofString "default"] (rMinD K) := by subst h; exact cr_minD hc hu
theorem pgetK {X : Cx} {K : PySem.W.Frag} (h : X.K = K := by rfl) : PGet X (rIxL K) := by subst h; exact pget_list
theorem piZAK {X : Cx} {K : PySem.W.Frag} {e e2 : Expr} {ta : TA} {p pos tpos : Pos} {elts : List Expr} {kk : Nat} (hg : Gl X "zip") (hm : X.mg "zip" = none) (ha : PA X [e, e2] ta)
    (hs : starEach [e, e2] X.env = (false, eval e X.env) :: starEach [e2] X.env := by rfl) (hpl : (backTo pos (starEach [e2] X.env)).any (·.1) = false := by rfl) (h : X.K = K := by rfl) :
    PI X (.Tuple elts kk tpos) (.Call (.Name "zip" p) [e, e2] [] pos) (RZ.iZipA K ta) := by subst h; exact RZ.pi_zipA hg hm ha hs hpl
theorem walk_zipT {K : PySem.W.Frag} {a b : Addr} {xs ys : List V} {n : Nat} (hn : n = min xs.length ys.length) : Walk (RZ.ItzT K a b) n (fun H => SqT K H a xs ∧ SqT K H b ys) (YPair (fun i => xs[i]?) (fun i => ys[i]?)) := by
  subst hn
  refine ⟨fun i _ hi q => ?_, fun _ q => ⟨xs, ys, q.1, q.2, by omega⟩, fun i H v H' _ q y => ?_⟩
  · have h1 : i < xs.length := by omega
    have h2 : i < ys.length := by omega
    exact ⟨xs, ys, xs[i], ys[i], q.1, q.2, by simp [h1], by simp [h2]⟩
  · obtain ⟨T, x, z, h1, h2, h3, h4, h5⟩ := y
    exact ⟨T, x, z, h1, h2, h3, h4 xs q.1, h5 ys q.2⟩

theorem plc_run {d : Nat → Bool} {n : Nat} : ∀ p, n ≤ p → (∀ j, n ≤ j → j < p → d j = true) → plc p d = plc n d ++ (List.range (p - n)).map (· + n)
  | 0, h, _ => by
    have : n = 0 := by omega
    subst this
    simp
  | p + 1, h, hall => by
    by_cases e : n = p + 1
    · subst e; simp
    · rw [plc_succ, if_pos (hall p (by omega) (by omega)), plc_run p (by omega) fun j h1 h2 => hall j h1 (by omega)]
      rw [show p + 1 - n = (p - n) + 1 by omega, List.range_succ, List.map_append, List.append_assoc]
      congr 2
      simp
      omega
theorem take_drop_get {xs : List Int} {n p : Nat} (h : p ≤ xs.length) : (xs.drop n).take (p - n) = ((List.range (p - n)).map (· + n)).map fun j => xs.getD j 0 := by
  apply List.ext_getElem
  · simp; omega
  · intro i h1 h2
    have h3 : i < p - n := by simpa using h2
    simp only [List.getElem_take, List.getElem_drop, List.getElem_map, List.getElem_range]
    rw [List.getD_eq_getElem?_getD, List.getElem?_eq_getElem (by omega)]
    simp [Nat.add_comm]
theorem cut_mid {xs : List V} {n p : Nat} (h1 : n ≤ p) (h2 : p ≤ xs.length) : cutV xs (some (n : Int)) (some (p : Int)) = (xs.drop n).take (p - n) := by
  unfold cutV
  have e1 : HT.sIx xs.length 0 (some (n : Int)) = n := by
    show (if (n : Int) < 0 then ((n : Int) + (xs.length : Int)).toNat else min (n : Int).toNat xs.length) = n
    rw [if_neg (by omega), Int.toNat_natCast]
    omega
  have e2 : HT.sIx xs.length xs.length (some (p : Int)) = p := by
    show (if (p : Int) < 0 then ((p : Int) + (xs.length : Int)).toNat else min (p : Int).toNat xs.length) = p
    rw [if_neg (by omega), Int.toNat_natCast]
    omega
  rw [e1, e2]
theorem cut_from {xs : List V} {n : Nat} (h : n ≤ xs.length) : cutV xs (some (n : Int)) none = xs.drop n := by
  unfold cutV
  have e1 : HT.sIx xs.length 0 (some (n : Int)) = n := by
    show (if (n : Int) < 0 then ((n : Int) + (xs.length : Int)).toNat else min (n : Int).toNat xs.length) = n
    rw [if_neg (by omega), Int.toNat_natCast]
    omega
  have e2 : HT.sIx xs.length xs.length none = xs.length := rfl
  rw [e1, e2]
  exact List.take_of_length_le (by simp)
theorem cut_one (xs : List V) : cutV xs none (some 1) = xs.take 1 := by
  unfold cutV
  have e1 : HT.sIx xs.length 0 none = 0 := rfl
  have e2 : HT.sIx xs.length xs.length (some 1) = min 1 xs.length := by
    show (if (1 : Int) < 0 then ((1 : Int) + (xs.length : Int)).toNat else min (1 : Int).toNat xs.length) = min 1 xs.length
    rw [if_neg (by omega)]
    rfl
  rw [e1, e2, List.drop_zero, Nat.sub_zero]
  by_cases h : xs.length = 0
  · have := List.length_eq_zero_iff.mp h
    subst this
    rfl
  · rw [Nat.min_eq_left (by omega)]
theorem plc_shift {n : Nat} {c : Nat → Bool} {xs : List Int} (hn : xs.length = n) : (sel xs fun i => decide (i = 0) || !c (i - 1)) = xs.take 1 ++ sel (xs.drop 1) fun i => !c i := by
  cases n with
  | zero =>
    have := List.length_eq_zero_iff.mp hn
    subst this
    rfl
  | succ n =>
    unfold sel
    rw [hn, plc_zero n (fun i => !c i), List.length_drop, hn, Nat.add_sub_cancel, List.map_cons, List.map_map]
    cases xs with
    | nil => simp at hn
    | cons x xs =>
      simp only [List.getD_cons_zero, List.take_succ_cons, List.take_zero, List.drop_succ_cons, List.drop_zero, List.singleton_append]
      congr 1
theorem sel_len (xs : List Int) (p : Nat → Bool) : (sel xs p).length ≤ xs.length := by
  unfold sel
  rw [List.length_map]
  exact plc_len _ _

/-! #### walking a list or a tuple -/
def ItSq (K : PySem.W.Frag) (b : Bool) (a : Addr) : It := if b = true then Itt K a else Itl K a
def iSq (K : PySem.W.Frag) (tl : TE) : TI := fun σ H R => tl σ H fun x H1 => ∃ a b, x = .ref a ∧ (∃ xs, Sq K b H1 a xs) ∧ R (ItSq K b a) H1
theorem pi_sq {X : Cx} {K : PySem.W.Frag} {tg l : Expr} {tl : TE} (hl : PE X l tl) (hK : X.K = K := by rfl) : PI X tg l (iSq K tl) := by
  subst hK
  refine ⟨fun pins s σ H R I h => ?_⟩
  refine thn (hl.run pins s σ H _ I h) fun v s1 ⟨x, H1, I1, r1, q1⟩ => ?_
  obtain ⟨a, b, e, ⟨xs, hq⟩, q⟩ := q1
  subst e
  cases r1
  cases b with
  | false =>
    obtain ⟨its, rv, p, hz⟩ := I1.list (show SqL X.K H1 a xs from hq)
    refine wpAny_pyIter_list p.isList ?_
    refine ⟨s1.heap.objs.size, [s1.heap.objs.size], _, _, H1, rfl, I1.kept (t' := s1.toks) fun b o e => Heap.get?_push_of_some _ e, turn_list a _, ⟨_, Heap.get?_push_size _ rfl, rfl, rfl⟩, fun b hb => ?_, q⟩
    have e : b = s1.heap.objs.size := by simpa using hb
    subst e
    exact I1.fpOk (Nat.le_refl _) (I1.hok.fresh (Nat.le_refl _))
  | true =>
    obtain ⟨its, rv, p, hz⟩ := I1.tuple (show SqT X.K H1 a xs from hq)
    refine wpAny_pyIter_tuple (show s1.heap.IsTuple a its.toArray from p) ?_
    refine ⟨s1.heap.objs.size, [s1.heap.objs.size], _, _, H1, rfl, I1.kept (t' := s1.toks) fun b o e => Heap.get?_push_of_some _ e, turn_tuple a _, ⟨_, Heap.get?_push_size _ rfl, rfl, rfl⟩, fun b hb => ?_, q⟩
    have e : b = s1.heap.objs.size := by simpa using hb
    subst e
    exact I1.fpOk (Nat.le_refl _) (I1.hok.fresh (Nat.le_refl _))
theorem walk_sq {K : PySem.W.Frag} {b : Bool} {a : Addr} {xs : List V} : Walk (ItSq K b a) xs.length (fun H => Sq K b H a xs) (YAt xs) := by
  cases b
  · exact walk_list
  · exact walk_tup
theorem wi_sq {K : PySem.W.Frag} {σ : L2.St} {H : Hp} {tl : TE} {a : Addr} {b : Bool} {xs : List V} (h : Evl.Ev tl σ H (.ref a)) (hx : Sq K b H a xs) :
    ∀ H1, Evl.Ex H H1 → ∀ R : It → Hp → Prop, (∀ (J : It) (H2 : Hp) (G : Hp → Prop), Evl.Ex H1 H2 → Walk J xs.length G (YAt xs) → (∀ H3, Evl.Ex H2 H3 → G H3) → R J H2) → iSq K tl σ H1 R :=
  fun H1 e R q => h H1 e _ fun H2 e2 => ⟨a, b, rfl, ⟨xs, hx.ext (Evl.Ex.trans e e2)⟩, q _ H2 _ e2 walk_sq fun H3 e3 => hx.ext (Evl.Ex.trans (Evl.Ex.trans e e2) e3)⟩
theorem late_sum (ms : List Mb) : (ms.map lagOf).sum = lateOf ms := by
  have key : ∀ (ms : List Mb) (a : Int), ms.foldl (fun l m => l + lagOf m) a = a + (ms.map lagOf).sum := by
    intro ms
    induction ms with
    | nil => intro a; simp
    | cons m ms ih =>
      intro a
      rw [List.foldl_cons, ih, List.map_cons, List.sum_cons]
      omega
  unfold lateOf
  rw [key, Int.zero_add]
theorem each_int_map {α : Type} {f : α → Int} {rs : List α} {ws : List V} (h : Each (fun (r : α) v => v = V.int (f r)) rs ws) : ws = (rs.map f).map V.int := by
  apply List.ext_getElem?
  intro i
  rcases Nat.lt_or_ge i rs.length with hi | hi
  · have hw : i < ws.length := by rw [h.1]; exact hi
    rw [List.getElem?_eq_getElem hw, List.getElem?_map, List.getElem?_map, List.getElem?_eq_getElem hi]
    have := h.2 i rs[i] ws[i] (List.getElem?_eq_getElem hi) (List.getElem?_eq_getElem hw)
    rw [this]
    rfl
  · rw [List.getElem?_eq_none (by rw [h.1]; exact hi), List.getElem?_eq_none (by simp; omega)]

theorem sq_lt {K : PySem.W.Frag} {b : Bool} {H : Hp} {a : Addr} {xs : List V} (h : Sq K b H a xs) : (b = false ∧ SqL K H a xs) ∨ (b = true ∧ SqT K H a xs) := by
  cases b
  · exact .inl ⟨rfl, h⟩
  · exact .inr ⟨rfl, h⟩

def tyOf (b : Bool) : String := if b = true then "tuple" else "list"
theorem Sq.ty {K : PySem.W.Frag} {b : Bool} {H : Hp} {a : Addr} {xs : List V} (h : Sq K b H a xs) : TyX K H (.ref a) (.type (tyOf b)) := by
  cases b
  · rcases (show SqL K H a xs from h) with h | ⟨o, its, n, h, c, _⟩
    · rcases h with h | ⟨o, h⟩
      · exact .base (.lst h)
      · exact .base (.frz h)
    · exact .kList h c
  · rcases (show SqT K H a xs from h) with h | ⟨o, its, n, h, c, _⟩
    · rcases h with h | ⟨o, h⟩
      · exact .base (.tup h)
      · exact .fTuple h
    · exact .kTuple h c
/-- is_listing of anything -/
def spIsL (K : PySem.W.Frag) : Sp := fun vs H Q _ => ∃ (x : V) (t : Value) (b : Bool), vs = [x] ∧ TyX K H x t ∧ PySem.W.kitAny K t [.type "list", .type "tuple"] = some b ∧ ∀ H', Same H H' → Q (.bl b) H'
theorem kit_lt (K : PySem.W.Frag) (b : Bool) : PySem.W.kitAny K (.type (tyOf b)) [.type "list", .type "tuple"] = some true := by
  cases b
  · exact kitAny_cons (b := true) (kit_ty (by decide +kernel)) (fun z => nomatch z) (fun _ => rfl)
  · exact kitAny_cons (b := false) (kit_ty (by decide +kernel)) (fun _ => kitAny_cons (b := true) (kit_ty (by decide +kernel)) (fun z => nomatch z) (fun _ => rfl)) (fun z => nomatch z)
end My

set_option Elab.async false
set_option linter.all false
set_option maxRecDepth 100000
set_option maxHeartbeats 4000000
namespace My
open PySem PySem.Spec PyProof.Rows L2
/-! ### one member after the other -/
section
variable {m : Mb} {ts bt : List Int} {es : List Tl} {M : Int}
theorem gap_mem {i : Nat} (hi : i + 1 < bt.length) : (gapsL bt).getD i 0 ∈ gapsL bt := by
  have h : i < (gapsL bt).length := by rw [gapsL_len]; omega
  rw [List.getD_eq_getElem?_getD, List.getElem?_eq_getElem h]
  exact List.getElem_mem h
/-- no gap is closed where the member's quiet is not above the least gap -/
theorem clo_none (h : Asc 1 bt) (hM : LeastOf (gapsL bt) 0 M) (hq : m.1 = .delay ∨ bt.length ≤ 1 ∨ m.2 ≤ M) (i : Nat) : clo m bt i = false := by
  cases e : clo m bt i with
  | false => rfl
  | true =>
    have hi := clo_lt e
    obtain ⟨h1, h2⟩ := clo_less h e
    have h3 := gap_mem hi
    have hne : gapsL bt ≠ [] := fun z => by rw [z] at h3; cases h3
    have h4 := (hM.2 hne).2 _ h3
    rcases hq with q | q | q
    · exact absurd q h1
    · omega
    · omega
theorem least_pos (h : Asc 1 bt) (hM : LeastOf (gapsL bt) 0 M) (hn : 0 < (gapsL bt).length) : 1 ≤ M := by
  have hne : gapsL bt ≠ [] := fun z => by rw [z] at hn; cases hn
  have h3 := (hM.2 hne).1
  obtain ⟨i, hi, e⟩ := List.getElem_of_mem h3
  rw [gapsL_len] at hi
  have g : (gapsL bt).getD i 0 = M := by
    rw [List.getD_eq_getElem?_getD, List.getElem?_eq_getElem (by rw [gapsL_len]; exact hi)]
    exact e
  rw [gapsL_get (by omega)] at g
  have := asc_lt h (i + 1) i (by omega) (by omega) (by omega)
  have g1 : bt.getD i 0 = bt[i] := by simp [show i < bt.length by omega]
  have g2 : bt.getD (i + 1) 0 = bt[i + 1] := by simp [show i + 1 < bt.length by omega]
  omega
theorem nums_len (es : List Tl) : (es.map fun e => (e.num : Int)).length = es.length := List.length_map ..
theorem plc_end {n : Nat} {c : Nat → Bool} (h : c (n - 1) = false) : plc n c = plc (n - 1) c := by
  cases n with
  | zero => rfl
  | succ n =>
    rw [plc_succ, if_neg (by rw [Nat.add_sub_cancel] at h; rw [h]; decide)]
    rfl
theorem sel_last (h : Asc 1 ts) (P : Part ts.length es) (hm : m.1 = .last) : (sel (es.map fun e => (e.num : Int)) fun i => !clo m (baseT ts es) i) = (stepE m ts es).map fun e => (e.num : Int) := by
  rw [step_nums h P]
  unfold sel
  rw [nums_len]
  rw [plc_congr (d := keepF m (baseT ts es)) fun i hi => (keep_last (baseT_asc h P) hm (by rw [baseT_len]; exact hi)).symm]
theorem sel_first (h : Asc 1 ts) (P : Part ts.length es) (hm : ¬ m.1 = .last) : (sel (es.map fun e => (e.num : Int)) fun i => decide (i = 0) || !clo m (baseT ts es) (i - 1)) = (stepE m ts es).map fun e => (e.num : Int) := by
  rw [step_nums h P]
  unfold sel
  rw [nums_len]
  rw [plc_congr (d := keepF m (baseT ts es)) fun i hi => (keep_first (baseT_asc h P) hm (by rw [baseT_len]; exact hi)).symm]
theorem kept_last (h : Asc 1 ts) (P : Part ts.length es) (hm : m.1 = .last) : keptT true (clo m (baseT ts es)) (baseT ts es) = baseT ts (stepE m ts es) := by
  rw [step_times h P]
  unfold keptT
  rw [if_pos rfl, baseT_len]
  rw [plc_congr (d := keepF m (baseT ts es)) fun i hi => (keep_last (baseT_asc h P) hm (by rw [baseT_len]; exact hi)).symm]
theorem kept_first (h : Asc 1 ts) (P : Part ts.length es) (hm : ¬ m.1 = .last) : keptT false (clo m (baseT ts es)) (baseT ts es) = baseT ts (stepE m ts es) := by
  rw [step_times h P]
  unfold keptT
  rw [if_neg (by decide), baseT_len]
  rw [plc_congr (d := keepF m (baseT ts es)) fun i hi => (keep_first (baseT_asc h P) hm (by rw [baseT_len]; exact hi)).symm]
theorem fst_step (h : Asc 1 ts) (P : Part ts.length es) : fstep (es.map fun e => (e.fst : Int)) (clo m (baseT ts es)) = (stepE m ts es).map fun e => (e.fst : Int) := by
  rw [step_fsts h P]
  unfold fstep sel
  rw [List.length_map]
theorem num_bound (P : Part ts.length es) {z : Int} (hz : z ∈ es.map fun e => (e.num : Int)) : 0 ≤ z ∧ z.toNat < ts.length := by
  obtain ⟨e, he, rfl⟩ := List.mem_map.mp hz
  obtain ⟨k, hk, rfl⟩ := List.getElem_of_mem he
  have h1 := (P.mid k hk).2
  have h2 := P.bound hk
  have g : es.getD k .zero = es[k] := by simp [hk]
  rw [g] at h1 h2
  show 0 ≤ ((es[k].num : Nat) : Int) ∧ ((es[k].num : Nat) : Int).toNat < ts.length
  omega
end
/-- what the walk keeps: numbers at nA, closed places at c, gaps at gA -/
structure TacI (c : Addr) (H : Hp) (ts : List Int) (es : List Tl) (nA gA : Addr) (M : Int) (cs : List Cl) (ys : List V) : Prop where
  nc : nA ≠ c
  gc : gA ≠ c
  nums : H nA = some (.lst ((es.map fun e => (e.num : Int)).map V.int))
  gaps : H gA = some (.lst ((gapsL (baseT ts es)).map V.int))
  least : LeastOf (gapsL (baseT ts es)) 0 M
  list : H c = some (.lst ys)
  each : Each (fun cl v => ∃ p, v = .ref p ∧ p ≠ c ∧ H p = some (.lst (natV (plc cl.1 cl.2)))) cs ys
  fits : Fits ts.length cs
  fsts : fstsOf ts.length cs = es.map fun e => (e.fst : Int)
theorem TacI.init {c : Addr} {H : Hp} {ts : List Int} {a g : Addr} {M : Int} (h1 : a ≠ c) (h2 : H a = some (.lst (((List.range ts.length).map fun (i : Nat) => (i : Int)).map V.int))) (h3 : H c = some (.lst [])) (h4 : g ≠ c)
    (h5 : H g = some (.lst ((gapsL ts).map V.int))) (h6 : LeastOf (gapsL ts) 0 M) : TacI c H ts (tellE [] ts) a g M [] [] := by
  have e : baseT ts (tellE [] ts) = ts := by
    unfold baseT tellE initE
    rw [List.foldl_nil, List.map_map]
    apply List.ext_getElem
    · simp
    · intro i h1 h2
      have : i < ts.length := by simpa using h1
      simp [this]
  refine ⟨h1, h4, ?_, by rw [e]; exact h5, by rw [e]; exact h6, h3, Each.nil, Fits.nil, ?_⟩
  · rw [h2]
    unfold tellE initE
    rw [List.foldl_nil, List.map_map, List.map_map, List.map_map]
    rfl
  · unfold fstsOf tellE initE
    rw [List.foldl_nil, List.foldl_nil, List.map_map]
    rfl
theorem TacI.step {c : Addr} {H H3 : Hp} {m : Mb} {ts : List Int} {es : List Tl} {nA gA n3 g4 f : Addr} {M M' : Int} {cs : List Cl} {ys : List V} (hA : Asc 1 ts) (P : Part ts.length es) (I : TacI c H ts es nA gA M cs ys) (k : Same H H3) (fc : c ≠ f)
    (hf : H3 f = some (.lst (natV (plc ((baseT ts es).length - 1) (clo m (baseT ts es)))))) (nc : c ≠ n3) (hn : H3 n3 = some (.lst (((stepE m ts es).map fun e => (e.num : Int)).map V.int))) (gc : c ≠ g4)
    (hg : H3 g4 = some (.lst ((gapsL (baseT ts (stepE m ts es))).map V.int))) (hM : LeastOf (gapsL (baseT ts (stepE m ts es))) 0 M') :
    TacI c (upd H3 c (.lst (ys ++ [.ref f]))) ts (stepE m ts es) n3 g4 M' (cs ++ [((baseT ts es).length - 1, clo m (baseT ts es))]) (ys ++ [.ref f]) := by
  refine ⟨nc.symm, gc.symm, by rw [upd_ne nc.symm]; exact hn, by rw [upd_ne gc.symm]; exact hg, hM, upd_same, ?_, I.fits.snoc ?_, ?_⟩
  · refine (I.each.mono fun cl v _ r => ?_).snoc ⟨f, rfl, fc.symm, by rw [upd_ne fc.symm]; exact hf⟩
    obtain ⟨p, e, pc, hp⟩ := r
    exact ⟨p, e, pc, by rw [upd_ne pc]; exact k _ _ hp⟩
  · rw [I.fsts, List.length_map, baseT_len]
  · rw [fstsOf_snoc, I.fsts]
    exact fst_step hA P

theorem TacI.same {c : Addr} {H H' : Hp} {ts : List Int} {es : List Tl} {nA gA : Addr} {M : Int} {cs : List Cl} {ys : List V} (I : TacI c H ts es nA gA M cs ys) (k : Same H H') : TacI c H' ts es nA gA M cs ys :=
  ⟨I.nc, I.gc, k _ _ I.nums, k _ _ I.gaps, I.least, k _ _ I.list, I.each.mono fun _ _ _ r => by obtain ⟨p, e, pc, hp⟩ := r; exact ⟨p, e, pc, k _ _ hp⟩, I.fits, I.fsts⟩
theorem fstep_none {fs : List Int} {c : Nat → Bool} (h : plc (fs.length - 1) c = []) : fstep fs c = fs := by
  have hc : ∀ i, i < fs.length - 1 → c i = false := fun i hi => by
    cases e : c i with
    | false => rfl
    | true =>
      have : i ∈ plc (fs.length - 1) c := plc_mem.mpr ⟨hi, e⟩
      rw [h] at this
      cases this
  unfold fstep sel
  rw [plc_run fs.length (Nat.zero_le _) (fun j _ hj => by
    cases j with
    | zero => rfl
    | succ j => simp [hc j (by omega)])]
  simp only [plc, List.range_zero, List.filter_nil, List.nil_append, Nat.sub_zero, Nat.add_zero]
  apply List.ext_getElem
  · simp
  · intro i h1 h2
    simp [h2]
theorem fstep_len (fs : List Int) (c : Nat → Bool) : (fstep fs c).length ≤ fs.length := sel_len _ _
theorem fstsOf_len (n : Nat) (cs : List Cl) : (fstsOf n cs).length ≤ n := by
  have key : ∀ (cs : List Cl) (fs : List Int), (cs.foldl (fun fs c => fstep fs c.2) fs).length ≤ fs.length := by
    intro cs
    induction cs with
    | nil => intro fs; exact Nat.le_refl _
    | cons c cs ih =>
      intro fs
      rw [List.foldl_cons]
      exact Nat.le_trans (ih _) (fstep_len _ _)
  have := key cs ((List.range n).map fun (i : Nat) => (i : Int))
  simpa [fstsOf] using this
def lastsL (n : Nat) (es : List Tl) : List Int := ((es.map fun e => (e.fst : Int)).drop 1).map (fun z => z - 1) ++ [(n : Int) - 1]
theorem lastsL_len (n : Nat) (es : List Tl) : es.length ≤ (lastsL n es).length := by
  unfold lastsL
  simp
  omega
theorem lastsL_at {n : Nat} {es : List Tl} (P : Part n es) {i : Nat} {e : Tl} (hi : es[i]? = some e) : (lastsL n es)[i]? = some (e.lst : Int) := by
  obtain ⟨h, rfl⟩ := List.getElem?_eq_some_iff.mp hi
  have g : ∀ {k : Nat} (hk : k < es.length), es.getD k .zero = es[k] := fun hk => by simp [hk]
  unfold lastsL
  by_cases q : i + 1 < es.length
  · rw [List.getElem?_append_left (by simp; omega), List.getElem?_map, List.getElem?_drop, List.getElem?_map, Nat.add_comm 1 i, List.getElem?_eq_getElem q]
    have := P.nxt i q
    rw [g q, g h] at this
    simp only [Option.map_some]
    congr 1
    omega
  · have e1 : i = es.length - 1 := by omega
    have h2 := P.fin (by omega)
    rw [← e1, g h] at h2
    have hl : ((((es.map fun e => (e.fst : Int)).drop 1)).map (fun z => z - 1)).length = i := by simp; omega
    rw [List.getElem?_append_right (by omega), hl, Nat.sub_self]
    simp
    omega

/-- the ends of the stretches, written from the beginnings -/
theorem el_lasts {K : PySem.W.Frag} {σ : L2.St} {H : Hp} {p l : Addr} {bb : Bool} {fs ts : List Int} {tl t2 : TE} {j : Nat} {vs : List Nat} (h : Evl.Ev tl σ H (.ref p)) (h2 : Evl.Ev t2 σ H (.ref l)) (hp : H p = some (.lst (fs.map V.int))) (hl : Sq K bb H l (ts.map V.int)) (hz : fs.length ≤ 40000)
    (hw : ∀ x, wipe ((wipe σ vs).set j (some x)) vs = wipe σ vs) (hv : ∀ x, ((wipe σ vs).set j (some x))[j]? = some (some x)) :
    Evl.EvL (tOp (rCatS K) (tLc (iList K (tSl (rSlL K) tl (tPart (tC (V.int 1))) tNoPart)) (gName j) tYes (tOp (rI0 fun i j => V.int (i - j)) (tVar j) (tC (V.int 1))) vs)
      (tLst (tCons (tOp (rI0 fun i j => V.int (i - j)) (tCB (fun xs H Q => ∃ p ys, xs = [V.ref p] ∧ (SqL K H p ys ∨ SqT K H p ys) ∧ Q (V.int ↑ys.length) H) (tCons t2 tNil)) (tC (V.int 1))) tNil))) σ H (((fs.drop 1).map (fun z => z - 1) ++ [(ts.length : Int) - 1]).map V.int) := by
  have e1 : Evl.EvL (tSl (rSlL K) tl (tPart (tC (V.int 1))) tNoPart) σ H ((fs.drop 1).map V.int) := by
    have := Evl.el_sl (K := K) h (Evl.eo_some (te := tC (V.int 1)) (i := 1) Evl.ev_c) Evl.eo_none (SqL.of hp)
    rw [cut1, ← List.map_drop] at this
    exact this
  have e2 := Evl.el_lcNL (K := K) (te := tOp (rI0 fun i j => V.int (i - j)) (tVar j) (tC (V.int 1))) (t := tYes) (j := j) (vs := vs) (fun _ => true) (fun i => V.int ((fs.drop 1).getD i 0 - 1)) e1 (by simp; omega) hw (fun _ _ _ _ _ => et_yes) (fun i x H1 _ hi _ => by
    obtain ⟨rfl, _⟩ := map_at hi
    exact Evl.ev_op (Evl.ev_var (hv _)) Evl.ev_c Evl.rv_I0)
  rw [given_all] at e2
  have e : ((fs.drop 1).map (fun z => z - 1)).map V.int = (List.range ((fs.drop 1).map V.int).length).map fun i => V.int ((fs.drop 1).getD i 0 - 1) := by
    apply List.ext_getElem
    · simp
    · intro i h1 h2
      have h3 : i < (fs.drop 1).length := by simpa using h1
      simp only [List.getElem_map, List.getElem_range]
      congr 2
      rw [List.getD_eq_getElem?_getD, List.getElem?_eq_getElem h3]
      rfl
  rw [← e] at e2
  have e3 : Evl.EvL (tLst (tCons (tOp (rI0 fun i j => V.int (i - j)) (tCB (fun xs H Q => ∃ p ys, xs = [V.ref p] ∧ (SqL K H p ys ∨ SqT K H p ys) ∧ Q (V.int ↑ys.length) H) (tCons t2 tNil)) (tC (V.int 1))) tNil)) σ H [V.int ((ts.length : Int) - 1)] := by
    refine Evl.el_lst (vs := [V.int ((ts.length : Int) - 1)]) (Evl.ea_cons (Evl.ev_op (x := V.int ((ts.map V.int).length : Int)) (y := V.int 1) ?_ Evl.ev_c ?_) Evl.ea_nil) (by simp)
    · intro H1 e Q q
      refine h2 H1 e _ fun H2 e2 => ?_
      exact ⟨l, _, rfl, sq_isI (hl.ext (Evl.Ex.trans e e2)), q H2 e2⟩
    · have := Evl.rv_I0 (g := fun i j => V.int (i - j)) (i := ((ts.map V.int).length : Int)) (j := 1) (H := H)
      rw [List.length_map] at *
      exact this
  have := el_catS (K := K) e2 e3 (by simp; omega)
  rw [List.map_append]
  exact this

theorem pick_at {ns : List Int} {d : Int} (h0 : 0 ≤ d) (h1 : d < (ns.length : Int)) (hall : ∀ n ∈ ns, 1 ≤ n) : ∃ b : Int, atI (ns.map V.int) d = some (V.int b) ∧ 1 ≤ b := by
  have hd : d.toNat < ns.length := by omega
  refine ⟨ns[d.toNat], ?_, hall _ (List.getElem_mem hd)⟩
  rw [ix_nat hd (by omega)]
  congr 2
  simp [hd]
/-- a for over a list that an expression makes -/
theorem q_forR {K : PySem.W.Frag} {te : TE} {g : TG} {tu : TS} {D : Ends} {σ : L2.St} {H : Hp} {E : Hp → List V → Prop} (h : ∀ Q : VK, (∀ p H2 ws, Same H H2 → H2 p = some (.lst ws) → E H2 ws → Q (.ref p) H2) → te σ H Q)
    (k : ∀ p H2 ws, Same H H2 → H2 p = some (.lst ws) → E H2 ws → ∃ W : Nat → Nat → L2.St → Hp → Prop, (∃ m, W 0 m σ H2) ∧ ∀ i m σ H, W i m σ H →
      ((Itl K p).stop i H ∧ D.nx σ H) ∨ ((Itl K p).go i H ∧ ∃ N : L2.St → Hp → Prop, (∀ σ' H', N σ' H' → ∃ m', m' < m ∧ W (i + 1) m' σ' H') ∧ ∀ x H', (Itl K p).yld i H x H' → g x σ H' fun σ2 H2 => tu { D with nx := N, ct := N, bk := D.nx } σ2 H2)) :
    tFor (iList K te) g tu D σ H := h _ fun p H2 ws e hp hE => ⟨p, rfl, ⟨ws, SqL.of hp⟩, k p H2 ws e hp hE⟩

theorem kinds_each : Each (fun (kd : Kd) v => v = V.str kd.str) [Kd.last, Kd.first, Kd.limit] [.str "last", .str "first", .str "limit"] := by
  refine ⟨rfl, fun i m v h1 h2 => ?_⟩
  match i, h1, h2 with
  | 0, h1, h2 => cases Option.some.inj h1; exact (Option.some.inj h2).symm
  | 1, h1, h2 => cases Option.some.inj h1; exact (Option.some.inj h2).symm
  | 2, h1, h2 => cases Option.some.inj h1; exact (Option.some.inj h2).symm
  | _ + 3, h1, _ => cases h1

theorem ev_isiL {K : PySem.W.Frag} {σ : L2.St} {H : Hp} {te : TE} {p : Addr} {xs : List V} (h : Evl.Ev te σ H (.ref p)) (hp : SqL K H p xs) : Evl.Ev (tCB (rIsi K) (tCons te (tCons (tC (V.ty "list")) tNil))) σ H (.bl true) :=
  Evl.ev_cb (vs := [.ref p, .ty "list"]) (Evl.ea_cons h (Evl.ea_cons Evl.ev_c Evl.ea_nil)) fun H1 e Q q => ⟨_, _, _, _, true, rfl, .ty _, Sq.ty (K := K) (b := false) (Evl.ex_l e hp), kit_ty (by decide +kernel), q H1 (Evl.Ex.refl H1)⟩
end My

set_option Elab.async false
set_option linter.all false
set_option maxRecDepth 100000
set_option maxHeartbeats 4000000
namespace My
open PySem PySem.Spec PyProof.Rows L2
/-! ### times and quiets in another measure, from another beginning -/
def scT (b c x : Int) : Int := b + c * x
def scM (c : Int) (m : Mb) : Mb := (m.1, c * m.2)
theorem filter_sc (b c : Int) (p : Int → Bool) (l : List Int) : (l.map (scT b c)).filter p = (l.filter (fun x => p (scT b c x))).map (scT b c) := by
  rw [List.filter_map]
  rfl
theorem lt_sc {c : Int} (hc : 0 < c) (x y : Int) : c * x < c * y ↔ x < y := Int.mul_lt_mul_left hc
theorem markOf_sc {b c : Int} (hc : 0 < c) (m : Mb) (ts before : List Int) (t : Int) : markOf (scM c m) (ts.map (scT b c)) (before.map (scT b c)) (scT b c t) = markOf m ts before t := by
  obtain ⟨kd, q⟩ := m
  unfold markOf scM
  have h2 := Int.mul_add c t q
  have h3 := Int.mul_sub c t q
  cases kd
  · simp only [filter_sc, List.map_eq_nil_iff]
    congr 2
    apply List.filter_congr
    intro x _
    have a1 := lt_sc hc t x
    have a2 := lt_sc hc x (t + q)
    congr 1 <;> (refine decide_eq_decide.mpr ?_; unfold scT; omega)
  · simp only [filter_sc, List.map_eq_nil_iff]
    congr 2
    apply List.filter_congr
    intro x _
    have a1 := lt_sc hc x t
    have a2 := lt_sc hc (t - q) x
    congr 1 <;> (refine decide_eq_decide.mpr ?_; unfold scT; omega)
  · simp only [filter_sc, List.map_eq_nil_iff]
    congr 2
    apply List.filter_congr
    intro x _
    have a2 := lt_sc hc (t - q) x
    refine decide_eq_decide.mpr ?_
    unfold scT
    omega
  · rfl
theorem letSt_sc {b c : Int} (hc : 0 < c) (m : Mb) (ts : List Int) : ∀ (us : List Int) (st : List Bool × List Int), ((us.map (scT b c)).foldl (letStep (scM c m) (ts.map (scT b c))) (st.1, st.2.map (scT b c))) = ((us.foldl (letStep m ts) st).1, (us.foldl (letStep m ts) st).2.map (scT b c))
  | [], st => rfl
  | t :: us, st => by
    rw [List.map_cons, List.foldl_cons, List.foldl_cons, ← letSt_sc hc m ts us (letStep m ts st t)]
    congr 1
    unfold letStep
    simp only [markOf_sc hc]
    congr 1
    split
    · simp
    · rfl
theorem letF_sc {b c : Int} (hc : 0 < c) (m : Mb) (ts : List Int) : letF (scM c m) (ts.map (scT b c)) = letF m ts := by
  have h := letSt_sc (b := b) hc m ts ts ([], [])
  have h2 := congrArg (fun z : List Bool × List Int => z.1) h
  exact h2
theorem asc_sc {b c : Int} (hc : 0 < c) {ts : List Int} (h : Asc 1 ts) : Asc 1 (ts.map (scT b c)) := by
  intro i x y h1 h2
  rw [List.getElem?_map] at h1 h2
  cases e1 : ts[i]? with
  | none => rw [e1] at h1; cases h1
  | some u =>
    cases e2 : ts[i + 1]? with
    | none => rw [e2] at h2; cases h2
    | some v =>
      rw [e1] at h1
      rw [e2] at h2
      have h1 : b + c * u = x := Option.some.inj h1
      have h2 : b + c * v = y := Option.some.inj h2
      have h3 := h i u v e1 e2
      have h4 := (lt_sc hc u v).mpr (by omega)
      omega
theorem baseT_sc {b c : Int} {ts : List Int} {es : List Tl} (P : Part ts.length es) : baseT (ts.map (scT b c)) es = (baseT ts es).map (scT b c) := by
  unfold baseT
  rw [List.map_map]
  apply List.map_congr_left
  intro e he
  obtain ⟨k, hk, rfl⟩ := List.getElem_of_mem he
  have h1 := (P.mid k hk).2
  have h2 := P.bound hk
  have g : es.getD k .zero = es[k] := by simp [hk]
  rw [g] at h1 h2
  simp [show es[k].num < ts.length by omega]
theorem stepE_sc {b c : Int} (hc : 0 < c) {m : Mb} {ts : List Int} {es : List Tl} (P : Part ts.length es) : stepE (scM c m) (ts.map (scT b c)) es = stepE m ts es := by
  unfold stepE
  rw [baseT_sc P, letF_sc hc]
  rfl
theorem tellE_sc {b c : Int} (hc : 0 < c) {ts : List Int} (h : Asc 1 ts) (ms : List Mb) : tellE (ms.map (scM c)) (ts.map (scT b c)) = tellE ms ts := by
  have key : ∀ (ms : List Mb) (es : List Tl), Part ts.length es → (ms.map (scM c)).foldl (fun es m => stepE m (ts.map (scT b c)) es) es = ms.foldl (fun es m => stepE m ts es) es := by
    intro ms
    induction ms with
    | nil => intro es _; rfl
    | cons m ms ih =>
      intro es P
      rw [List.map_cons, List.foldl_cons, List.foldl_cons, stepE_sc hc P]
      exact ih _ (stepE_part h P)
  have hi : initE (ts.map (scT b c)) = initE ts := by unfold initE; rw [List.length_map]
  unfold tellE
  rw [hi]
  exact key ms _ (initE_part ts)
theorem lateOf_sc (c : Int) (ms : List Mb) : lateOf (ms.map (scM c)) = c * lateOf ms := by
  rw [← late_sum, ← late_sum, List.map_map]
  have e : ∀ m, lagOf (scM c m) = c * lagOf m := fun m => by
    unfold lagOf scM
    split <;> simp
  induction ms with
  | nil => simp
  | cons m ms ih =>
    rw [List.map_cons, List.map_cons, List.sum_cons, List.sum_cons, ih, Int.mul_add]
    simp only [Function.comp, e]
end My

set_option Elab.async false
set_option linter.all false
set_option maxRecDepth 100000
set_option maxHeartbeats 4000000
namespace My
open PySem PySem.Spec PyProof.Rows L2
/-! ### rows written down by hand -/
theorem Each.cons {α : Type} {R : α → V → Prop} {m : α} {v : V} {ms : List α} {xs : List V} (r : R m v) (h : Each R ms xs) : Each R (m :: ms) (v :: xs) := by
  refine ⟨by simp [h.1], fun i a u h1 h2 => ?_⟩
  cases i with
  | zero => cases Option.some.inj h1; cases Option.some.inj h2; exact r
  | succ i => exact h.2 i a u (by simpa using h1) (by simpa using h2)
theorem Each.append {α : Type} {R : α → V → Prop} {ms ms' : List α} {xs xs' : List V} (h : Each R ms xs) (h' : Each R ms' xs') : Each R (ms ++ ms') (xs ++ xs') := by
  induction ms generalizing xs with
  | nil =>
    have : xs = [] := List.eq_nil_of_length_eq_zero (by rw [h.1]; rfl)
    subst this
    exact h'
  | cons m ms ih =>
    cases xs with
    | nil => have := h.1; simp at this
    | cons x xs =>
      refine Each.cons (h.2 0 m x rfl rfl) (ih ⟨by have := h.1; simpa using this, fun i a u h1 h2 => h.2 (i + 1) a u (by simpa using h1) (by simpa using h2)⟩)
structure RD where
  ms : List Mb
  ps : List Int
  ns : List Int
  late : Int
def RDV (K : PySem.W.Frag) (H : Hp) (c : Int) (d : RD) (v : V) : Prop := ∃ T lm lp ln ys, v = .ref T ∧ H T = some (.tup [.ref lm, .ref lp, .ref ln, .int d.late]) ∧ H lm = some (.lst ys) ∧ Each (MemV K H) (d.ms.map (scM c)) ys ∧ H lp = some (.lst (d.ps.map V.int)) ∧ H ln = some (.lst (d.ns.map V.int))
theorem RDV.same {K : PySem.W.Frag} {H H' : Hp} {c : Int} {d : RD} {v : V} (k : Same H H') (h : RDV K H c d v) : RDV K H' c d v := by
  obtain ⟨T, lm, lp, ln, ys, e, h1, h2, h3, h4, h5⟩ := h
  exact ⟨T, lm, lp, ln, ys, e, k _ _ h1, k _ _ h2, h3.mono fun _ _ _ z => z.vp (VP.same k), k _ _ h4, k _ _ h5⟩
section
variable {K : PySem.W.Frag} {c : Int} {σ : L2.St}
def EvMs (K : PySem.W.Frag) (c : Int) (t : TA) (σ : L2.St) (ms : List Mb) : Prop := ∀ (H : Hp) (Q : List V → Hp → Prop), (∀ H2 ys, Same H H2 → Each (MemV K H2) (ms.map (scM c)) ys → Q ys H2) → t σ H Q
theorem ms_nil : EvMs K c tNil σ [] := fun H Q q => q H [] (Same.refl H) Each.nil
theorem ms_cons {kd : Kd} {q n least : Int} {te : TE} {rest : TA} {ms : List Mb} (he : ∀ H, Evl.Ev te σ H (.int n)) (hn : n = c * q) (hok : least ≤ n) (h : EvMs K c rest σ ms) : EvMs K c (tCons (tMake (kd.cls K) (spInit1 (kd.cls K) kd.fld least) [] E0 (tCons te tNil)) rest) σ ((kd, q) :: ms) := by
  intro H Q q0
  refine he H H (Evl.Ex.refl H) _ fun H1 e1 => ?_
  intro x dx nx nd nxd
  refine ⟨x, dx, n, rfl, upd_same, hok, fun H2 e2 => ⟨rfl, ?_⟩⟩
  subst e2
  refine h _ _ fun H3 ys k3 hE => ?_
  refine q0 H3 (.ref x :: ys) (Same.trans e1 (Same.trans (Same.made2 nx nd) k3)) (Each.cons ⟨x, dx, rfl, ?_⟩ hE)
  rw [k3 _ _ upd_same, hn]
  rfl
def EvIs (t : TA) (σ : L2.St) (ns : List Int) : Prop := ∀ H, Evl.EvA t σ H (ns.map V.int)
theorem is_nil : EvIs tNil σ [] := fun H => Evl.ea_nil
theorem is_cons {n : Int} {t : TA} {ns : List Int} (h : EvIs t σ ns) : EvIs (tCons (tC (.int n)) t) σ (n :: ns) := fun H => Evl.ea_cons Evl.ev_c (h H)
def EvR (K : PySem.W.Frag) (c : Int) (t : TA) (σ : L2.St) (ds : List RD) : Prop := ∀ (H : Hp) (Q : List V → Hp → Prop), (∀ H2 vs, Same H H2 → Each (RDV K H2 c) ds vs → Q vs H2) → t σ H Q
theorem sz100 {n : Nat} (h : n ≤ 100) : n ≤ sizeLine := by rw [sizeLine_eq]; omega
theorem row_ev {tM tP tN : TA} {ms : List Mb} {ps ns : List Int} {late : Int} (hM : EvMs K c tM σ ms) (hP : EvIs tP σ ps) (hN : EvIs tN σ ns) (l1 : ms.length ≤ 100) (l2 : ps.length ≤ 100) (l3 : ns.length ≤ 100) :
    ∀ (H : Hp) (Q : VK), (∀ H2 v, Same H H2 → RDV K H2 c ⟨ms, ps, ns, late⟩ v → Q v H2) → tTup (tCons (tLst tM) (tCons (tLst tP) (tCons (tLst tN) (tCons (tC (V.int late)) tNil)))) σ H Q := by
  intro H Q q
  refine hM H _ fun H1 ys k1 hE => ⟨sz100 (by rw [hE.1, List.length_map]; exact l1), fun lm nlm => ?_⟩
  have k2 := same_new (o := .lst ys) nlm
  have h2 : (upd H1 lm (.lst ys)) lm = some (.lst ys) := upd_same
  generalize upd H1 lm (.lst ys) = H2 at k2 h2 ⊢
  refine hP H2 H2 (Evl.Ex.refl H2) _ fun H3 k3 => ⟨sz100 (by rw [List.length_map]; exact l2), fun lp nlp => ?_⟩
  have k4 := same_new (o := .lst (ps.map V.int)) nlp
  have h4 : (upd H3 lp (.lst (ps.map V.int))) lp = some (.lst (ps.map V.int)) := upd_same
  generalize upd H3 lp (.lst (ps.map V.int)) = H4 at k4 h4 ⊢
  refine hN H4 H4 (Evl.Ex.refl H4) _ fun H5 k5 => ⟨sz100 (by rw [List.length_map]; exact l3), fun ln nln => ?_⟩
  have k6 := same_new (o := .lst (ns.map V.int)) nln
  have h6 : (upd H5 ln (.lst (ns.map V.int))) ln = some (.lst (ns.map V.int)) := upd_same
  generalize upd H5 ln (.lst (ns.map V.int)) = H6 at k6 h6 ⊢
  refine ⟨sz100 (by simp), fun T nT => ?_⟩
  have k7 := same_new (o := .tup [.ref lm, .ref lp, .ref ln, .int late]) nT
  have h7 : (upd H6 T (.tup [.ref lm, .ref lp, .ref ln, .int late])) T = some (.tup [.ref lm, .ref lp, .ref ln, .int late]) := upd_same
  generalize upd H6 T (.tup [.ref lm, .ref lp, .ref ln, .int late]) = H7 at k7 h7 ⊢
  have k47 := Same.trans k5 (Same.trans k6 k7)
  have k27 := Same.trans k3 (Same.trans k4 k47)
  exact q H7 _ (Same.trans k1 (Same.trans k2 k27)) ⟨T, lm, lp, ln, ys, rfl, h7, k27 _ _ h2, hE.mono fun _ _ _ z => z.vp (VP.same (Same.trans k2 k27)), k47 _ _ h4, k7 _ _ h6⟩
theorem rs_nil : EvR K c tNil σ [] := fun H Q q => q H [] (Same.refl H) Each.nil
theorem rs_cons {te : TE} {t : TA} {d : RD} {ds : List RD} (h : ∀ (H : Hp) (Q : VK), (∀ H2 v, Same H H2 → RDV K H2 c d v → Q v H2) → te σ H Q) (ht : EvR K c t σ ds) : EvR K c (tCons te t) σ (d :: ds) := by
  intro H Q q
  refine h H _ fun H1 v k1 hv => ?_
  refine ht H1 _ fun H2 vs k2 hE => ?_
  exact q H2 (v :: vs) (Same.trans k1 k2) (Each.cons (hv.same k2) hE)
theorem q_rows0 {t : TA} {i : Nat} {rest : TS} {D : Ends} {H : Hp} {ds : List RD} (hR : EvR K c t σ ds) (hl : ds.length ≤ 100) (k : ∀ L H2 vs, Same H H2 → H2 L = some (.lst vs) → Each (RDV K H2 c) ds vs → rest D (σ.set i (some (.ref L))) H2) : tSeq (tAsg (tLst t) (gName i)) rest D σ H := by
  refine hR H _ fun H1 vs k1 hE => ⟨sz100 (by rw [hE.1]; exact hl), fun L nL => ?_⟩
  have k2 := same_new (o := .lst vs) nL
  exact k L _ vs (Same.trans k1 k2) upd_same (hE.mono fun _ _ _ z => z.same k2)
theorem q_rows1 {t : TA} {i : Nat} {rest : TS} {D : Ends} {H : Hp} {L : Addr} {vs : List V} {ds ds' : List RD} (hσ : σ[i]? = some (some (.ref L))) (hL : H L = some (.lst vs)) (hE0 : Each (RDV K H c) ds vs) (hR : EvR K c t σ ds') (hl : ds.length + ds'.length ≤ 100)
    (k : ∀ L' H2 vs', Same H H2 → H2 L' = some (.lst vs') → Each (RDV K H2 c) (ds ++ ds') vs' → rest D (σ.set i (some (.ref L'))) H2) : tSeq (tAsg (tOp (rCatS K) (tVar i) (tLst t)) (gName i)) rest D σ H := by
  refine ⟨.ref L, hσ, ?_⟩
  refine hR H _ fun H1 vs1 k1 hE => ⟨sz100 (by rw [hE.1]; omega), fun L1 nL1 => ?_⟩
  have k2 := same_new (o := .lst vs1) nL1
  have h2 : (upd H1 L1 (.lst vs1)) L1 = some (.lst vs1) := upd_same
  generalize upd H1 L1 (.lst vs1) = H2 at k2 h2 ⊢
  have k12 := Same.trans k1 k2
  refine ⟨L, L1, vs, vs1, rfl, rfl, SqL.of (k12 _ _ hL), SqL.of h2, Nat.le_of_lt (Evl.sz_lt (by rw [hE.1, hE0.1]; omega)), fun L2 nL2 => ?_⟩
  have k3 := same_new (o := .lst (vs ++ vs1)) nL2
  exact k L2 _ _ (Same.trans k12 k3) upd_same ((hE0.mono fun _ _ _ z => z.same (Same.trans k12 k3)).append (hE.mono fun _ _ _ z => z.same (Same.trans k2 k3)))
end
/-! #### what is due, decided at the beginning 0 and the step 1 -/
def Due (d : RD) : Prop := (tellE d.ms d.ps).map (fun e => (e.num : Int)) = d.ns ∧ lateOf d.ms = d.late
instance (d : RD) : Decidable (Due d) := by unfold Due; infer_instance

def ascD : List Int → Bool
  | x :: y :: r => decide (x + 1 ≤ y) && ascD (y :: r)
  | _ => true
theorem asc_of : ∀ {ts : List Int}, ascD ts = true → Asc 1 ts
  | [], _ => Asc.nil
  | [_], _ => Asc.one
  | x :: y :: r, h => by
    unfold ascD at h
    rw [Bool.and_eq_true] at h
    have ih := asc_of h.2
    have h1 := of_decide_eq_true h.1
    intro i u v e1 e2
    cases i with
    | zero =>
      cases Option.some.inj e1
      cases Option.some.inj e2
      exact h1
    | succ i => exact ih i u v (by simpa using e1) (by simpa using e2)
def okRD (d : RD) : Bool := ascD d.ps && decide (Due d) && decide (d.ms.length ≤ 100) && decide (d.ps.length ≤ 100)
theorem okRD_of {d : RD} (h : okRD d = true) : Asc 1 d.ps ∧ Due d ∧ d.ms.length ≤ 100 ∧ d.ps.length ≤ 100 := by
  unfold okRD at h
  simp only [Bool.and_eq_true, decide_eq_true_eq] at h
  exact ⟨asc_of h.1.1.1, h.1.1.2, h.1.2, h.2⟩
section
variable {K : PySem.W.Frag} {c : Int} {σ : L2.St}
/-- a row made of members that are made there -/
theorem row_make {tM : TA} {ms : List Mb} (hM : EvMs K c tM σ ms) (l1 : ms.length ≤ 100) : ∀ (H : Hp) (Q : VK), (∀ H2 r, Same H H2 → RowO K H2 (ms.map (scM c)) r → Q (.ref r) H2) → tMake (He.ga K "Row") (spRowInit K) [] E0 (tCons (tLst tM) tNil) σ H Q := by
  intro H Q q
  refine hM H _ fun H1 ys k1 hE => ⟨sz100 (by rw [hE.1, List.length_map]; exact l1), fun lm nlm => ?_⟩
  have k2 := same_new (o := .lst ys) nlm
  have h2 : (upd H1 lm (.lst ys)) lm = some (.lst ys) := upd_same
  have hE2 : Each (MemV K (upd H1 lm (.lst ys))) (ms.map (scM c)) ys := hE.mono fun _ _ _ z => z.vp (VP.same k2)
  generalize upd H1 lm (.lst ys) = H2 at k2 h2 hE2 ⊢
  intro x dx nx nd nxd
  refine ⟨x, dx, lm, ys, ms.map (scM c), rfl, upd_same, Same.made0 nx nd _ _ h2, hE2.mono fun _ _ _ z => z.vp (VP.same (Same.made0 nx nd)), by rw [List.length_map]; omega, fun H3 q2 k3 nq2 hq2 hx3 => ⟨rfl, ?_⟩⟩
  have k23 : Same H2 H3 := Same.made1 nx nd k3
  exact q H3 x (Same.trans k1 (Same.trans k2 k23)) ⟨dx, q2, ys, hx3, hq2, hE2.mono fun _ _ _ z => z.vp (VP.same k23)⟩
end
theorem nums_sc {b c : Int} (hc : 0 < c) {d : RD} (h : okRD d = true) : (rowsOf (d.ms.map (scM c)) (d.ps.map (scT b c))).map (fun r => r.1) = d.ns := by
  obtain ⟨hA, hD, _, _⟩ := okRD_of h
  rw [rows_eq, List.map_map, tellE_sc hc hA]
  exact hD.1
theorem times_sc {b c : Int} (hc : 0 < c) {d : RD} (h : okRD d = true) : (rowsOf (d.ms.map (scM c)) (d.ps.map (scT b c))).map (fun r => r.2.1) = d.ns.map fun z => (d.ps.map (scT b c)).getD z.toNat 0 + c * d.late := by
  obtain ⟨hA, hD, _, _⟩ := okRD_of h
  rw [rows_eq, List.map_map, tellE_sc hc hA, lateOf_sc, hD.2, ← hD.1, List.map_map]
  apply List.map_congr_left
  intro e _
  simp [rowOf]
theorem ns_bound {b c : Int} {d : RD} (h : okRD d = true) {z : Int} (hz : z ∈ d.ns) : 0 ≤ z ∧ z.toNat < (d.ps.map (scT b c)).length := by
  obtain ⟨hA, hD, _, _⟩ := okRD_of h
  rw [← hD.1] at hz
  have := num_bound (tellE_part hA d.ms) hz
  rw [List.length_map]
  exact this

theorem comp_mapN {K : PySem.W.Frag} {σ : L2.St} {H : Hp} {ns : List Int} {tl te : TE} {j : Nat} {vs : List Nat} (fn : Int → Int) (h : Evl.EvL tl σ H (ns.map V.int)) (hz : ns.length ≤ 40000) (hw : ∀ x, wipe ((wipe σ vs).set j (some x)) vs = wipe σ vs)
    (he : ∀ (o : Int) H1, o ∈ ns → Same H H1 → Evl.Ev te ((wipe σ vs).set j (some (.int o))) H1 (.int (fn o))) :
    Evl.EvL (tLc (iList K tl) (gName j) tYes te vs) σ H ((ns.map fn).map V.int) := by
  have h2 := Evl.el_lcNL (K := K) (te := te) (t := tYes) (j := j) (vs := vs) (fun _ => true) (fun i => V.int (fn (ns.getD i 0))) h (by rw [List.length_map]; exact hz) hw
    (fun i x H1 e hi => et_yes) (fun i x H1 e hi _ => by
      obtain ⟨rfl, hl⟩ := map_at hi
      exact he _ H1 (by simp [hl]) e)
  rw [given_all] at h2
  have e : (ns.map fn).map V.int = (List.range (ns.map V.int).length).map fun i => V.int (fn (ns.getD i 0)) := by
    apply List.ext_getElem
    · simp
    · intro i h1 h3
      have h4 : i < ns.length := by simpa using h1
      simp [h4]
  rw [e]
  exact h2
theorem r_callMV {sp : Sp} {E : XK} {i : Nat} {te : TE} {σ : L2.St} {H : Hp} {Q : VK} (h : te σ H fun x H1 => ∃ v, σ[i]? = some (some v) ∧ sp [x, v] H1 Q E) : tCall sp [] E (tCons te (tCons (tVar i) tNil)) σ H Q := h
def tup3 (r : R4) : PySem.W.Tup Int := ⟨[r.1, r.2.2.1, r.2.2.2]⟩
def Row3V (H : Hp) (r : R4) (v : V) : Prop := ∃ p, v = .ref p ∧ H p = some (.tup [.int r.1, .int r.2.2.1, .int r.2.2.2])
theorem Row3V.vp {H H' : Hp} (k : VP H H') {r : R4} {v : V} (h : Row3V H r v) : Row3V H' r v := by
  obtain ⟨p, e, q⟩ := h
  exact ⟨p, e, k.1 _ _ q⟩
theorem dp_rows3 {K : PySem.W.Frag} {H : Hp} {p : Addr} {ys : List V} {rows : List R4} (hp : H p = some (.lst ys)) (hE : Each (Row3V H) rows ys) : Dp K H (.ref p) (PySem.W.Datum.toD (rows.map tup3)) := by
  refine dp_list (SqL.of hp) ⟨by rw [List.length_map]; exact hE.1, fun i m v h1 h2 => ?_⟩
  rw [List.getElem?_map] at h1
  cases e : rows[i]? with
  | none => rw [e] at h1; cases h1
  | some r =>
    rw [e] at h1
    cases Option.some.inj h1
    obtain ⟨q, rfl, hq⟩ := hE.2 i r v e h2
    exact .tup (SqT.of hq) (.cons (.int _) (.cons (.int _) (.cons (.int _) .nil)))
theorem trip_sc {b c : Int} (hc : 0 < c) {ms : List Mb} {ps : List Int} (h : Asc 1 ps) : (rowsOf (ms.map (scM c)) (ps.map (scT b c))).map tup3 = (tellE ms ps).map fun e => (⟨[(e.num : Int), (e.fst : Int), (e.lst : Int)]⟩ : PySem.W.Tup Int) := by
  rw [rows_eq, List.map_map, tellE_sc hc h]
  rfl

theorem et_trip {K : PySem.W.Frag} {σ : L2.St} {H : Hp} {i j : Nat} {f : Addr} {ys : List V} {rows : List R4} {a1 b1 c1 a2 b2 c2 : Int} (hσ : σ[i]? = some (some (.ref f))) (hf : H f = some (.lst ys)) (hE : Each (ToldV K H) rows ys) (hl : rows.length ≤ 40000)
    (hc : Cls K (He.ga K "Told")) (hn1 : NoAttr K (He.ga K "Told") "number") (hn2 : NoAttr K (He.ga K "Told") "first") (hn3 : NoAttr K (He.ga K "Told") "last") (hw : ∀ x, wipe ((wipe σ [j]).set j (some x)) [j] = wipe σ [j]) (hv : ∀ x, ((wipe σ [j]).set j (some x))[j]? = some (some x))
    (er : rows.map tup3 = [(a1, 0, b1, c1), (a2, 0, b2, c2)].map tup3) :
    Evl.EvT (tTest (tOp (rNeT (List (PySem.W.Tup Int)) K) (tLc (iList K (tVar i)) (gName j) tYes (tTup (tCons (tFld K (tVar j) "number") (tCons (tFld K (tVar j) "first") (tCons (tFld K (tVar j) "last") tNil)))) [j])
      (tLst (tCons (tTup (tCons (tC (.int a1)) (tCons (tC (.int b1)) (tCons (tC (.int c1)) tNil)))) (tCons (tTup (tCons (tC (.int a2)) (tCons (tC (.int b2)) (tCons (tC (.int c2)) tNil)))) tNil))))) σ H false := by
  refine Evl.et_test ?_
  intro H2 e Q1 q1
  refine r_op (comp_relN (K := K) (ToldV K) (fun _ _ _ _ kv z => z.vp kv) Row3V (fun _ _ _ _ kv z => z.vp kv) rows rows rfl hl (fun Q2 q2 => ?_) hw ?_ ?_)
  · exact ⟨_, hσ, q2 f H2 ys (Same.refl _) (e _ _ hf) (hE.mono fun _ _ _ z => z.vp (VP.same e))⟩
  · intro i b r2 x H3 k3 hb hr2 hS Q3 q3
    cases Option.some.inj (hb.symm.trans hr2)
    obtain ⟨a, dx, rfl, ha⟩ := hS
    have h1 := ev_fld (K := K) (σ := (wipe σ [j]).set j (some (.ref a))) (ta := tVar j) (f := "number") (v := .int b.1) (Evl.ev_var (hv _)) ha hc hn1 rfl
    have h2 := ev_fld (K := K) (σ := (wipe σ [j]).set j (some (.ref a))) (ta := tVar j) (f := "first") (v := .int b.2.2.1) (Evl.ev_var (hv _)) ha hc hn2 rfl
    have h3 := ev_fld (K := K) (σ := (wipe σ [j]).set j (some (.ref a))) (ta := tVar j) (f := "last") (v := .int b.2.2.2) (Evl.ev_var (hv _)) ha hc hn3 rfl
    exact Evl.ea_cons h1 (Evl.ea_cons h2 (Evl.ea_cons h3 Evl.ea_nil)) H3 (Evl.Ex.refl H3) _ fun H4 e4 => ⟨sz100 (by simp), fun p np => q3 _ _ (Same.trans e4 (same_new np)) ⟨p, rfl, upd_same⟩⟩
  · intro p2 H3 ws np2 k3 hp2 hW
    refine ⟨sz100 (by simp), fun U1 nU1 => ⟨sz100 (by simp), fun U2 nU2 => ⟨sz100 (by simp), fun qq nqq => ?_⟩⟩⟩
    have u1 := same_new (o := .tup [.int a1, .int b1, .int c1]) nU1
    have u2 := same_new (o := .tup [.int a2, .int b2, .int c2]) nU2
    have u3 := same_new (o := .lst [.ref U1, .ref U2]) nqq
    have u := Same.trans u1 (Same.trans u2 u3)
    refine ⟨_, [(a1, 0, b1, c1), (a2, 0, b2, c2)].map tup3, dp_rows3 (u _ _ hp2) (hW.mono fun _ _ _ z => z.vp (VP.same u)), dp_rows3 (ys := [.ref U1, .ref U2]) upd_same ((Each.nil.snoc ⟨U1, rfl, u3 _ _ (u2 _ _ upd_same)⟩).snoc ⟨U2, rfl, u3 _ _ upd_same⟩), ?_⟩
    rw [er]
    have z : ∀ l : List (PySem.W.Tup Int), decide (l ≠ l) = false := fun l => by simp
    rw [z]
    exact q1 _ (Same.trans k3 u)
end My

set_option Elab.async false
set_option linter.all false
set_option maxRecDepth 100000
set_option maxHeartbeats 4000000
namespace My
open PySem PySem.Spec PyProof.Rows L2
def top (i : Nat) : Stmt := PySem.Challenge.pw_quietrows_k06_rows_by_hand.main.body.getD i (.Pass ⟨0, 0, 0, 0⟩)
abbrev sQuietError_told : Stmt := inClass (top 1) 0
abbrev sBadStreamX_initX : Stmt := inClass (top 2) 0
abbrev sBadStream_told : Stmt := inClass (top 2) 1
abbrev sBadMemberX_initX : Stmt := inClass (top 3) 0
abbrev sBadMember_told : Stmt := inClass (top 3) 1
abbrev sBadRowX_initX : Stmt := inClass (top 4) 0
abbrev sBadRow_told : Stmt := inClass (top 4) 1
abbrev sis_number : Stmt := top 6
abbrev sis_listing : Stmt := top 7
abbrev scheck_stream : Stmt := top 9
abbrev scheck_least : Stmt := top 10
abbrev snarrow_ones : Stmt := top 11
abbrev sLastX_initX : Stmt := inClass (top 12) 0
abbrev sLastX_eqX : Stmt := inClass (top 12) 1
abbrev sLast_kind : Stmt := inClass (top 12) 2
abbrev sLast_quiet : Stmt := inClass (top 12) 3
abbrev sLast_lag : Stmt := inClass (top 12) 4
abbrev sLast_closed : Stmt := inClass (top 12) 5
abbrev sFirstX_initX : Stmt := inClass (top 13) 0
abbrev sFirstX_eqX : Stmt := inClass (top 13) 1
abbrev sFirst_kind : Stmt := inClass (top 13) 2
abbrev sFirst_quiet : Stmt := inClass (top 13) 3
abbrev sFirst_lag : Stmt := inClass (top 13) 4
abbrev sFirst_closed : Stmt := inClass (top 13) 5
abbrev sLimitX_initX : Stmt := inClass (top 14) 0
abbrev sLimitX_eqX : Stmt := inClass (top 14) 1
abbrev sLimit_kind : Stmt := inClass (top 14) 2
abbrev sLimit_quiet : Stmt := inClass (top 14) 3
abbrev sLimit_lag : Stmt := inClass (top 14) 4
abbrev sLimit_closed : Stmt := inClass (top 14) 5
abbrev sDelayX_initX : Stmt := inClass (top 15) 0
abbrev sDelayX_eqX : Stmt := inClass (top 15) 1
abbrev sDelay_quiet : Stmt := inClass (top 15) 2
abbrev sDelay_lag : Stmt := inClass (top 15) 3
abbrev sis_member : Stmt := top 16
abbrev sRowX_initX : Stmt := inClass (top 18) 0
abbrev sRowX_eqX : Stmt := inClass (top 18) 1
abbrev slag_of : Stmt := top 19
abbrev sToldX_initX : Stmt := inClass (top 20) 0
abbrev sToldX_eqX : Stmt := inClass (top 20) 1
abbrev sgaps_of : Stmt := top 21
abbrev swithout : Stmt := top 22
abbrev swithout_behind : Stmt := top 23
abbrev swidened : Stmt := top 24
abbrev stold_and_closed : Stmt := top 25
abbrev stold_events : Stmt := top 26
abbrev stold_times : Stmt := top 27
abbrev stimes_behind : Stmt := top 28
abbrev s_law_cell_at : Stmt := top 30
abbrev s_law_state : Stmt := top 31
abbrev s_law_digit : Stmt := top 32
abbrev slaw : Stmt := top 33
def dis_number : He.DefD := ⟨("is_number", none), "is_number", "is_number", defArgs sis_number, defBody sis_number, defScope sis_number, [], []⟩
def dis_listing : He.DefD := ⟨("is_listing", none), "is_listing", "is_listing", defArgs sis_listing, defBody sis_listing, defScope sis_listing, [], []⟩
def dcheck_stream : He.DefD := ⟨("check_stream", none), "check_stream", "check_stream", defArgs scheck_stream, defBody scheck_stream, defScope scheck_stream, [], []⟩
def dcheck_least : He.DefD := ⟨("check_least", none), "check_least", "check_least", defArgs scheck_least, defBody scheck_least, defScope scheck_least, [], []⟩
def dnarrow_ones : He.DefD := ⟨("narrow_ones", none), "narrow_ones", "narrow_ones", defArgs snarrow_ones, defBody snarrow_ones, defScope snarrow_ones, [], []⟩
def dLastX_initX : He.DefD := ⟨("Last", some "__init__"), "__init__", "Last.__init__", defArgs sLastX_initX, defBody sLastX_initX, defScope sLastX_initX, [], []⟩
def dLastX_eqX : He.DefD := ⟨("Last", some "__eq__"), "__eq__", "Last.__eq__", defArgs sLastX_eqX, defBody sLastX_eqX, defScope sLastX_eqX, [], []⟩
def dLast_kind : He.DefD := ⟨("Last", some "kind"), "kind", "Last.kind", defArgs sLast_kind, defBody sLast_kind, defScope sLast_kind, [], []⟩
def dLast_quiet : He.DefD := ⟨("Last", some "quiet"), "quiet", "Last.quiet", defArgs sLast_quiet, defBody sLast_quiet, defScope sLast_quiet, [], []⟩
def dLast_lag : He.DefD := ⟨("Last", some "lag"), "lag", "Last.lag", defArgs sLast_lag, defBody sLast_lag, defScope sLast_lag, [], []⟩
def dLast_closed : He.DefD := ⟨("Last", some "closed"), "closed", "Last.closed", defArgs sLast_closed, defBody sLast_closed, defScope sLast_closed, [], []⟩
def dFirstX_initX : He.DefD := ⟨("First", some "__init__"), "__init__", "First.__init__", defArgs sFirstX_initX, defBody sFirstX_initX, defScope sFirstX_initX, [], []⟩
def dFirstX_eqX : He.DefD := ⟨("First", some "__eq__"), "__eq__", "First.__eq__", defArgs sFirstX_eqX, defBody sFirstX_eqX, defScope sFirstX_eqX, [], []⟩
def dFirst_kind : He.DefD := ⟨("First", some "kind"), "kind", "First.kind", defArgs sFirst_kind, defBody sFirst_kind, defScope sFirst_kind, [], []⟩
def dFirst_quiet : He.DefD := ⟨("First", some "quiet"), "quiet", "First.quiet", defArgs sFirst_quiet, defBody sFirst_quiet, defScope sFirst_quiet, [], []⟩
def dFirst_lag : He.DefD := ⟨("First", some "lag"), "lag", "First.lag", defArgs sFirst_lag, defBody sFirst_lag, defScope sFirst_lag, [], []⟩
def dFirst_closed : He.DefD := ⟨("First", some "closed"), "closed", "First.closed", defArgs sFirst_closed, defBody sFirst_closed, defScope sFirst_closed, [], []⟩
def dLimitX_initX : He.DefD := ⟨("Limit", some "__init__"), "__init__", "Limit.__init__", defArgs sLimitX_initX, defBody sLimitX_initX, defScope sLimitX_initX, [], []⟩
def dLimitX_eqX : He.DefD := ⟨("Limit", some "__eq__"), "__eq__", "Limit.__eq__", defArgs sLimitX_eqX, defBody sLimitX_eqX, defScope sLimitX_eqX, [], []⟩
def dLimit_kind : He.DefD := ⟨("Limit", some "kind"), "kind", "Limit.kind", defArgs sLimit_kind, defBody sLimit_kind, defScope sLimit_kind, [], []⟩
def dLimit_quiet : He.DefD := ⟨("Limit", some "quiet"), "quiet", "Limit.quiet", defArgs sLimit_quiet, defBody sLimit_quiet, defScope sLimit_quiet, [], []⟩
def dLimit_lag : He.DefD := ⟨("Limit", some "lag"), "lag", "Limit.lag", defArgs sLimit_lag, defBody sLimit_lag, defScope sLimit_lag, [], []⟩
def dLimit_closed : He.DefD := ⟨("Limit", some "closed"), "closed", "Limit.closed", defArgs sLimit_closed, defBody sLimit_closed, defScope sLimit_closed, [], []⟩
def dDelayX_initX : He.DefD := ⟨("Delay", some "__init__"), "__init__", "Delay.__init__", defArgs sDelayX_initX, defBody sDelayX_initX, defScope sDelayX_initX, [], []⟩
def dDelayX_eqX : He.DefD := ⟨("Delay", some "__eq__"), "__eq__", "Delay.__eq__", defArgs sDelayX_eqX, defBody sDelayX_eqX, defScope sDelayX_eqX, [], []⟩
def dDelay_quiet : He.DefD := ⟨("Delay", some "quiet"), "quiet", "Delay.quiet", defArgs sDelay_quiet, defBody sDelay_quiet, defScope sDelay_quiet, [], []⟩
def dDelay_lag : He.DefD := ⟨("Delay", some "lag"), "lag", "Delay.lag", defArgs sDelay_lag, defBody sDelay_lag, defScope sDelay_lag, [], []⟩
def dis_member : He.DefD := ⟨("is_member", none), "is_member", "is_member", defArgs sis_member, defBody sis_member, defScope sis_member, [], []⟩
def dRowX_initX : He.DefD := ⟨("Row", some "__init__"), "__init__", "Row.__init__", defArgs sRowX_initX, defBody sRowX_initX, defScope sRowX_initX, [], []⟩
def dRowX_eqX : He.DefD := ⟨("Row", some "__eq__"), "__eq__", "Row.__eq__", defArgs sRowX_eqX, defBody sRowX_eqX, defScope sRowX_eqX, [], []⟩
def dlag_of : He.DefD := ⟨("lag_of", none), "lag_of", "lag_of", defArgs slag_of, defBody slag_of, defScope slag_of, [], []⟩
def dToldX_initX : He.DefD := ⟨("Told", some "__init__"), "__init__", "Told.__init__", defArgs sToldX_initX, defBody sToldX_initX, defScope sToldX_initX, [], []⟩
def dToldX_eqX : He.DefD := ⟨("Told", some "__eq__"), "__eq__", "Told.__eq__", defArgs sToldX_eqX, defBody sToldX_eqX, defScope sToldX_eqX, [], []⟩
def dgaps_of : He.DefD := ⟨("gaps_of", none), "gaps_of", "gaps_of", defArgs sgaps_of, defBody sgaps_of, defScope sgaps_of, [], []⟩
def dwithout : He.DefD := ⟨("without", none), "without", "without", defArgs swithout, defBody swithout, defScope swithout, [], []⟩
def dwithout_behind : He.DefD := ⟨("without_behind", none), "without_behind", "without_behind", defArgs swithout_behind, defBody swithout_behind, defScope swithout_behind, [], []⟩
def dwidened : He.DefD := ⟨("widened", none), "widened", "widened", defArgs swidened, defBody swidened, defScope swidened, [], []⟩
def dtold_and_closed : He.DefD := ⟨("told_and_closed", none), "told_and_closed", "told_and_closed", defArgs stold_and_closed, defBody stold_and_closed, defScope stold_and_closed, [], []⟩
def dtold_events : He.DefD := ⟨("told_events", none), "told_events", "told_events", defArgs stold_events, defBody stold_events, defScope stold_events, [], []⟩
def dtold_times : He.DefD := ⟨("told_times", none), "told_times", "told_times", defArgs stold_times, defBody stold_times, defScope stold_times, [], []⟩
def dtimes_behind : He.DefD := ⟨("times_behind", none), "times_behind", "times_behind", defArgs stimes_behind, defBody stimes_behind, defScope stimes_behind, [], []⟩
def d_law_cell_at : He.DefD := ⟨("_law_cell_at", none), "_law_cell_at", "_law_cell_at", defArgs s_law_cell_at, defBody s_law_cell_at, defScope s_law_cell_at, [], []⟩
def d_law_state : He.DefD := ⟨("_law_state", none), "_law_state", "_law_state", defArgs s_law_state, defBody s_law_state, defScope s_law_state, [], []⟩
def d_law_digit : He.DefD := ⟨("_law_digit", none), "_law_digit", "_law_digit", defArgs s_law_digit, defBody s_law_digit, defScope s_law_digit, [], []⟩
def dlaw : He.DefD := ⟨("law", none), "law", "law", defArgs slaw, defBody slaw, defScope slaw, [], []⟩
def fn : List He.DefD := (([dis_number, dis_listing, dcheck_stream, dcheck_least, dnarrow_ones, dLastX_initX, dLastX_eqX, dLast_kind, dLast_quiet, dLast_lag, dLast_closed, dFirstX_initX, dFirstX_eqX, dFirst_kind, dFirst_quiet, dFirst_lag, dFirst_closed, dLimitX_initX, dLimitX_eqX, dLimit_kind, dLimit_quiet, dLimit_lag, dLimit_closed, dDelayX_initX, dDelayX_eqX, dDelay_quiet, dDelay_lag, dis_member, dRowX_initX, dRowX_eqX] : List He.DefD)) ++ (([dlag_of, dToldX_initX, dToldX_eqX, dgaps_of, dwithout, dwithout_behind, dwidened, dtold_and_closed, dtold_events, dtold_times, dtimes_behind, d_law_cell_at, d_law_state, d_law_digit, dlaw] : List He.DefD))
def fa : List He.Fa := (([.glo "is_number", .glo "is_listing", .glo "check_stream", .glo "check_least", .glo "narrow_ones", .glo "is_member", .glo "lag_of", .glo "gaps_of", .glo "without", .glo "without_behind", .glo "widened", .glo "told_and_closed", .glo "told_events", .glo "told_times", .glo "times_behind", .glo "_law_cell_at", .glo "_law_state", .glo "_law_digit", .glo "law", .glo "QuietError", .glo "BadStream", .glo "BadMember", .glo "BadRow", .glo "Last", .glo "First", .glo "Limit", .glo "Delay", .glo "Row", .glo "Told", .free "abs"] : List He.Fa)) ++ (([.free "bool", .free "enumerate", .free "int", .free "isinstance", .free "len", .free "list", .free "min", .free "range", .free "sum", .free "tuple", .free "zip", .keep "QuietError", .keep "BadStream", .keep "BadMember", .keep "BadRow", .cls "Last", .mkr "Last", .noat "Last" "q", .meth "Last" "kind", .meth "Last" "quiet", .meth "Last" "lag", .meth "Last" "closed", .cls "First", .mkr "First", .noat "First" "q", .meth "First" "kind", .meth "First" "quiet", .meth "First" "lag", .meth "First" "closed", .cls "Limit"] : List He.Fa)) ++ (([.mkr "Limit", .noat "Limit" "q", .meth "Limit" "kind", .meth "Limit" "quiet", .meth "Limit" "lag", .meth "Limit" "closed", .cls "Delay", .mkr "Delay", .noat "Delay" "d", .meth "Delay" "quiet", .meth "Delay" "lag", .cls "Row", .mkr "Row", .noat "Row" "members", .cls "Told", .mkr "Told", .noat "Told" "number", .noat "Told" "time", .noat "Told" "first", .noat "Told" "last"] : List He.Fa))
def exB : PySem.W.Frag → Bool := ownB ["Last", "First", "Limit", "Delay", "Row", "Told"]
structure Txt (K : PySem.W.Frag) (mg : Str → Option Value) : Prop where
  g_is_number : mg "is_number" = some (.ref (He.ga K "is_number"))
  g_is_listing : mg "is_listing" = some (.ref (He.ga K "is_listing"))
  g_check_stream : mg "check_stream" = some (.ref (He.ga K "check_stream"))
  g_check_least : mg "check_least" = some (.ref (He.ga K "check_least"))
  g_narrow_ones : mg "narrow_ones" = some (.ref (He.ga K "narrow_ones"))
  g_is_member : mg "is_member" = some (.ref (He.ga K "is_member"))
  g_lag_of : mg "lag_of" = some (.ref (He.ga K "lag_of"))
  g_gaps_of : mg "gaps_of" = some (.ref (He.ga K "gaps_of"))
  g_without : mg "without" = some (.ref (He.ga K "without"))
  g_without_behind : mg "without_behind" = some (.ref (He.ga K "without_behind"))
  g_widened : mg "widened" = some (.ref (He.ga K "widened"))
  g_told_and_closed : mg "told_and_closed" = some (.ref (He.ga K "told_and_closed"))
  g_told_events : mg "told_events" = some (.ref (He.ga K "told_events"))
  g_told_times : mg "told_times" = some (.ref (He.ga K "told_times"))
  g_times_behind : mg "times_behind" = some (.ref (He.ga K "times_behind"))
  g__law_cell_at : mg "_law_cell_at" = some (.ref (He.ga K "_law_cell_at"))
  g__law_state : mg "_law_state" = some (.ref (He.ga K "_law_state"))
  g__law_digit : mg "_law_digit" = some (.ref (He.ga K "_law_digit"))
  g_law : mg "law" = some (.ref (He.ga K "law"))
  g_QuietError : mg "QuietError" = some (.ref (He.ga K "QuietError"))
  g_BadStream : mg "BadStream" = some (.ref (He.ga K "BadStream"))
  g_BadMember : mg "BadMember" = some (.ref (He.ga K "BadMember"))
  g_BadRow : mg "BadRow" = some (.ref (He.ga K "BadRow"))
  g_Last : mg "Last" = some (.ref (He.ga K "Last"))
  g_First : mg "First" = some (.ref (He.ga K "First"))
  g_Limit : mg "Limit" = some (.ref (He.ga K "Limit"))
  g_Delay : mg "Delay" = some (.ref (He.ga K "Delay"))
  g_Row : mg "Row" = some (.ref (He.ga K "Row"))
  g_Told : mg "Told" = some (.ref (He.ga K "Told"))
  n_abs : mg "abs" = none
  n_bool : mg "bool" = none
  n_enumerate : mg "enumerate" = none
  n_int : mg "int" = none
  n_isinstance : mg "isinstance" = none
  n_len : mg "len" = none
  n_list : mg "list" = none
  n_min : mg "min" = none
  n_range : mg "range" = none
  n_sum : mg "sum" = none
  n_tuple : mg "tuple" = none
  n_zip : mg "zip" = none
  c_Last : Cls K (He.ga K "Last")
  k_Last : Mk K (He.ga K "Last") (He.ma K (He.ga K "Last") "__init__")
  o_Last_q : NoAttr K (He.ga K "Last") "q"
  m_Last_kind : Meth K (He.ga K "Last") "kind" (He.ma K (He.ga K "Last") "kind")
  m_Last_quiet : Meth K (He.ga K "Last") "quiet" (He.ma K (He.ga K "Last") "quiet")
  m_Last_lag : Meth K (He.ga K "Last") "lag" (He.ma K (He.ga K "Last") "lag")
  m_Last_closed : Meth K (He.ga K "Last") "closed" (He.ma K (He.ga K "Last") "closed")
  c_First : Cls K (He.ga K "First")
  k_First : Mk K (He.ga K "First") (He.ma K (He.ga K "First") "__init__")
  o_First_q : NoAttr K (He.ga K "First") "q"
  m_First_kind : Meth K (He.ga K "First") "kind" (He.ma K (He.ga K "First") "kind")
  m_First_quiet : Meth K (He.ga K "First") "quiet" (He.ma K (He.ga K "First") "quiet")
  m_First_lag : Meth K (He.ga K "First") "lag" (He.ma K (He.ga K "First") "lag")
  m_First_closed : Meth K (He.ga K "First") "closed" (He.ma K (He.ga K "First") "closed")
  c_Limit : Cls K (He.ga K "Limit")
  k_Limit : Mk K (He.ga K "Limit") (He.ma K (He.ga K "Limit") "__init__")
  o_Limit_q : NoAttr K (He.ga K "Limit") "q"
  m_Limit_kind : Meth K (He.ga K "Limit") "kind" (He.ma K (He.ga K "Limit") "kind")
  m_Limit_quiet : Meth K (He.ga K "Limit") "quiet" (He.ma K (He.ga K "Limit") "quiet")
  m_Limit_lag : Meth K (He.ga K "Limit") "lag" (He.ma K (He.ga K "Limit") "lag")
  m_Limit_closed : Meth K (He.ga K "Limit") "closed" (He.ma K (He.ga K "Limit") "closed")
  c_Delay : Cls K (He.ga K "Delay")
  k_Delay : Mk K (He.ga K "Delay") (He.ma K (He.ga K "Delay") "__init__")
  o_Delay_d : NoAttr K (He.ga K "Delay") "d"
  m_Delay_quiet : Meth K (He.ga K "Delay") "quiet" (He.ma K (He.ga K "Delay") "quiet")
  m_Delay_lag : Meth K (He.ga K "Delay") "lag" (He.ma K (He.ga K "Delay") "lag")
  c_Row : Cls K (He.ga K "Row")
  k_Row : Mk K (He.ga K "Row") (He.ma K (He.ga K "Row") "__init__")
  o_Row_members : NoAttr K (He.ga K "Row") "members"
  c_Told : Cls K (He.ga K "Told")
  k_Told : Mk K (He.ga K "Told") (He.ma K (He.ga K "Told") "__init__")
  o_Told_number : NoAttr K (He.ga K "Told") "number"
  o_Told_time : NoAttr K (He.ga K "Told") "time"
  o_Told_first : NoAttr K (He.ga K "Told") "first"
  o_Told_last : NoAttr K (He.ga K "Told") "last"
  d_is_number : ∃ fd, FunD K "is_number" "is_number" (defArgs sis_number) (defBody sis_number) (defScope sis_number) [] [] (He.fAd K dis_number.at_) fd
  d_is_listing : ∃ fd, FunD K "is_listing" "is_listing" (defArgs sis_listing) (defBody sis_listing) (defScope sis_listing) [] [] (He.fAd K dis_listing.at_) fd
  d_check_stream : ∃ fd, FunD K "check_stream" "check_stream" (defArgs scheck_stream) (defBody scheck_stream) (defScope scheck_stream) [] [] (He.fAd K dcheck_stream.at_) fd
  d_check_least : ∃ fd, FunD K "check_least" "check_least" (defArgs scheck_least) (defBody scheck_least) (defScope scheck_least) [] [] (He.fAd K dcheck_least.at_) fd
  d_narrow_ones : ∃ fd, FunD K "narrow_ones" "narrow_ones" (defArgs snarrow_ones) (defBody snarrow_ones) (defScope snarrow_ones) [] [] (He.fAd K dnarrow_ones.at_) fd
  d_LastX_initX : ∃ fd, FunD K "__init__" "Last.__init__" (defArgs sLastX_initX) (defBody sLastX_initX) (defScope sLastX_initX) [] [] (He.fAd K dLastX_initX.at_) fd
  d_LastX_eqX : ∃ fd, FunD K "__eq__" "Last.__eq__" (defArgs sLastX_eqX) (defBody sLastX_eqX) (defScope sLastX_eqX) [] [] (He.fAd K dLastX_eqX.at_) fd
  d_Last_kind : ∃ fd, FunD K "kind" "Last.kind" (defArgs sLast_kind) (defBody sLast_kind) (defScope sLast_kind) [] [] (He.fAd K dLast_kind.at_) fd
  d_Last_quiet : ∃ fd, FunD K "quiet" "Last.quiet" (defArgs sLast_quiet) (defBody sLast_quiet) (defScope sLast_quiet) [] [] (He.fAd K dLast_quiet.at_) fd
  d_Last_lag : ∃ fd, FunD K "lag" "Last.lag" (defArgs sLast_lag) (defBody sLast_lag) (defScope sLast_lag) [] [] (He.fAd K dLast_lag.at_) fd
  d_Last_closed : ∃ fd, FunD K "closed" "Last.closed" (defArgs sLast_closed) (defBody sLast_closed) (defScope sLast_closed) [] [] (He.fAd K dLast_closed.at_) fd
  d_FirstX_initX : ∃ fd, FunD K "__init__" "First.__init__" (defArgs sFirstX_initX) (defBody sFirstX_initX) (defScope sFirstX_initX) [] [] (He.fAd K dFirstX_initX.at_) fd
  d_FirstX_eqX : ∃ fd, FunD K "__eq__" "First.__eq__" (defArgs sFirstX_eqX) (defBody sFirstX_eqX) (defScope sFirstX_eqX) [] [] (He.fAd K dFirstX_eqX.at_) fd
  d_First_kind : ∃ fd, FunD K "kind" "First.kind" (defArgs sFirst_kind) (defBody sFirst_kind) (defScope sFirst_kind) [] [] (He.fAd K dFirst_kind.at_) fd
  d_First_quiet : ∃ fd, FunD K "quiet" "First.quiet" (defArgs sFirst_quiet) (defBody sFirst_quiet) (defScope sFirst_quiet) [] [] (He.fAd K dFirst_quiet.at_) fd
  d_First_lag : ∃ fd, FunD K "lag" "First.lag" (defArgs sFirst_lag) (defBody sFirst_lag) (defScope sFirst_lag) [] [] (He.fAd K dFirst_lag.at_) fd
  d_First_closed : ∃ fd, FunD K "closed" "First.closed" (defArgs sFirst_closed) (defBody sFirst_closed) (defScope sFirst_closed) [] [] (He.fAd K dFirst_closed.at_) fd
  d_LimitX_initX : ∃ fd, FunD K "__init__" "Limit.__init__" (defArgs sLimitX_initX) (defBody sLimitX_initX) (defScope sLimitX_initX) [] [] (He.fAd K dLimitX_initX.at_) fd
  d_LimitX_eqX : ∃ fd, FunD K "__eq__" "Limit.__eq__" (defArgs sLimitX_eqX) (defBody sLimitX_eqX) (defScope sLimitX_eqX) [] [] (He.fAd K dLimitX_eqX.at_) fd
  d_Limit_kind : ∃ fd, FunD K "kind" "Limit.kind" (defArgs sLimit_kind) (defBody sLimit_kind) (defScope sLimit_kind) [] [] (He.fAd K dLimit_kind.at_) fd
  d_Limit_quiet : ∃ fd, FunD K "quiet" "Limit.quiet" (defArgs sLimit_quiet) (defBody sLimit_quiet) (defScope sLimit_quiet) [] [] (He.fAd K dLimit_quiet.at_) fd
  d_Limit_lag : ∃ fd, FunD K "lag" "Limit.lag" (defArgs sLimit_lag) (defBody sLimit_lag) (defScope sLimit_lag) [] [] (He.fAd K dLimit_lag.at_) fd
  d_Limit_closed : ∃ fd, FunD K "closed" "Limit.closed" (defArgs sLimit_closed) (defBody sLimit_closed) (defScope sLimit_closed) [] [] (He.fAd K dLimit_closed.at_) fd
  d_DelayX_initX : ∃ fd, FunD K "__init__" "Delay.__init__" (defArgs sDelayX_initX) (defBody sDelayX_initX) (defScope sDelayX_initX) [] [] (He.fAd K dDelayX_initX.at_) fd
  d_DelayX_eqX : ∃ fd, FunD K "__eq__" "Delay.__eq__" (defArgs sDelayX_eqX) (defBody sDelayX_eqX) (defScope sDelayX_eqX) [] [] (He.fAd K dDelayX_eqX.at_) fd
  d_Delay_quiet : ∃ fd, FunD K "quiet" "Delay.quiet" (defArgs sDelay_quiet) (defBody sDelay_quiet) (defScope sDelay_quiet) [] [] (He.fAd K dDelay_quiet.at_) fd
  d_Delay_lag : ∃ fd, FunD K "lag" "Delay.lag" (defArgs sDelay_lag) (defBody sDelay_lag) (defScope sDelay_lag) [] [] (He.fAd K dDelay_lag.at_) fd
  d_is_member : ∃ fd, FunD K "is_member" "is_member" (defArgs sis_member) (defBody sis_member) (defScope sis_member) [] [] (He.fAd K dis_member.at_) fd
  d_RowX_initX : ∃ fd, FunD K "__init__" "Row.__init__" (defArgs sRowX_initX) (defBody sRowX_initX) (defScope sRowX_initX) [] [] (He.fAd K dRowX_initX.at_) fd
  d_RowX_eqX : ∃ fd, FunD K "__eq__" "Row.__eq__" (defArgs sRowX_eqX) (defBody sRowX_eqX) (defScope sRowX_eqX) [] [] (He.fAd K dRowX_eqX.at_) fd
  d_lag_of : ∃ fd, FunD K "lag_of" "lag_of" (defArgs slag_of) (defBody slag_of) (defScope slag_of) [] [] (He.fAd K dlag_of.at_) fd
  d_ToldX_initX : ∃ fd, FunD K "__init__" "Told.__init__" (defArgs sToldX_initX) (defBody sToldX_initX) (defScope sToldX_initX) [] [] (He.fAd K dToldX_initX.at_) fd
  d_ToldX_eqX : ∃ fd, FunD K "__eq__" "Told.__eq__" (defArgs sToldX_eqX) (defBody sToldX_eqX) (defScope sToldX_eqX) [] [] (He.fAd K dToldX_eqX.at_) fd
  d_gaps_of : ∃ fd, FunD K "gaps_of" "gaps_of" (defArgs sgaps_of) (defBody sgaps_of) (defScope sgaps_of) [] [] (He.fAd K dgaps_of.at_) fd
  d_without : ∃ fd, FunD K "without" "without" (defArgs swithout) (defBody swithout) (defScope swithout) [] [] (He.fAd K dwithout.at_) fd
  d_without_behind : ∃ fd, FunD K "without_behind" "without_behind" (defArgs swithout_behind) (defBody swithout_behind) (defScope swithout_behind) [] [] (He.fAd K dwithout_behind.at_) fd
  d_widened : ∃ fd, FunD K "widened" "widened" (defArgs swidened) (defBody swidened) (defScope swidened) [] [] (He.fAd K dwidened.at_) fd
  d_told_and_closed : ∃ fd, FunD K "told_and_closed" "told_and_closed" (defArgs stold_and_closed) (defBody stold_and_closed) (defScope stold_and_closed) [] [] (He.fAd K dtold_and_closed.at_) fd
  d_told_events : ∃ fd, FunD K "told_events" "told_events" (defArgs stold_events) (defBody stold_events) (defScope stold_events) [] [] (He.fAd K dtold_events.at_) fd
  d_told_times : ∃ fd, FunD K "told_times" "told_times" (defArgs stold_times) (defBody stold_times) (defScope stold_times) [] [] (He.fAd K dtold_times.at_) fd
  d_times_behind : ∃ fd, FunD K "times_behind" "times_behind" (defArgs stimes_behind) (defBody stimes_behind) (defScope stimes_behind) [] [] (He.fAd K dtimes_behind.at_) fd
  d__law_cell_at : ∃ fd, FunD K "_law_cell_at" "_law_cell_at" (defArgs s_law_cell_at) (defBody s_law_cell_at) (defScope s_law_cell_at) [] [] (He.fAd K d_law_cell_at.at_) fd
  d__law_state : ∃ fd, FunD K "_law_state" "_law_state" (defArgs s_law_state) (defBody s_law_state) (defScope s_law_state) [] [] (He.fAd K d_law_state.at_) fd
  d__law_digit : ∃ fd, FunD K "_law_digit" "_law_digit" (defArgs s_law_digit) (defBody s_law_digit) (defScope s_law_digit) [] [] (He.fAd K d_law_digit.at_) fd
  d_law : ∃ fd, FunD K "law" "law" (defArgs slaw) (defBody slaw) (defScope slaw) [] [] (He.fAd K dlaw.at_) fd
  ex : exB K = true
theorem txt_of {K : PySem.W.Frag} {h : Heap} {mg : Str → Option Value} (X : K.In h) (G : h.Ns mainGlobals mg) (c : SaysX exB fa fn K) : Txt K mg where
  g_is_number := He.glo_ok X G (c.d.fact 0 (f := .glo "is_number") rfl)
  g_is_listing := He.glo_ok X G (c.d.fact 1 (f := .glo "is_listing") rfl)
  g_check_stream := He.glo_ok X G (c.d.fact 2 (f := .glo "check_stream") rfl)
  g_check_least := He.glo_ok X G (c.d.fact 3 (f := .glo "check_least") rfl)
  g_narrow_ones := He.glo_ok X G (c.d.fact 4 (f := .glo "narrow_ones") rfl)
  g_is_member := He.glo_ok X G (c.d.fact 5 (f := .glo "is_member") rfl)
  g_lag_of := He.glo_ok X G (c.d.fact 6 (f := .glo "lag_of") rfl)
  g_gaps_of := He.glo_ok X G (c.d.fact 7 (f := .glo "gaps_of") rfl)
  g_without := He.glo_ok X G (c.d.fact 8 (f := .glo "without") rfl)
  g_without_behind := He.glo_ok X G (c.d.fact 9 (f := .glo "without_behind") rfl)
  g_widened := He.glo_ok X G (c.d.fact 10 (f := .glo "widened") rfl)
  g_told_and_closed := He.glo_ok X G (c.d.fact 11 (f := .glo "told_and_closed") rfl)
  g_told_events := He.glo_ok X G (c.d.fact 12 (f := .glo "told_events") rfl)
  g_told_times := He.glo_ok X G (c.d.fact 13 (f := .glo "told_times") rfl)
  g_times_behind := He.glo_ok X G (c.d.fact 14 (f := .glo "times_behind") rfl)
  g__law_cell_at := He.glo_ok X G (c.d.fact 15 (f := .glo "_law_cell_at") rfl)
  g__law_state := He.glo_ok X G (c.d.fact 16 (f := .glo "_law_state") rfl)
  g__law_digit := He.glo_ok X G (c.d.fact 17 (f := .glo "_law_digit") rfl)
  g_law := He.glo_ok X G (c.d.fact 18 (f := .glo "law") rfl)
  g_QuietError := He.glo_ok X G (c.d.fact 19 (f := .glo "QuietError") rfl)
  g_BadStream := He.glo_ok X G (c.d.fact 20 (f := .glo "BadStream") rfl)
  g_BadMember := He.glo_ok X G (c.d.fact 21 (f := .glo "BadMember") rfl)
  g_BadRow := He.glo_ok X G (c.d.fact 22 (f := .glo "BadRow") rfl)
  g_Last := He.glo_ok X G (c.d.fact 23 (f := .glo "Last") rfl)
  g_First := He.glo_ok X G (c.d.fact 24 (f := .glo "First") rfl)
  g_Limit := He.glo_ok X G (c.d.fact 25 (f := .glo "Limit") rfl)
  g_Delay := He.glo_ok X G (c.d.fact 26 (f := .glo "Delay") rfl)
  g_Row := He.glo_ok X G (c.d.fact 27 (f := .glo "Row") rfl)
  g_Told := He.glo_ok X G (c.d.fact 28 (f := .glo "Told") rfl)
  n_abs := He.free_ok X G (c.d.fact 29 (f := .free "abs") rfl)
  n_bool := He.free_ok X G (c.d.fact 30 (f := .free "bool") rfl)
  n_enumerate := He.free_ok X G (c.d.fact 31 (f := .free "enumerate") rfl)
  n_int := He.free_ok X G (c.d.fact 32 (f := .free "int") rfl)
  n_isinstance := He.free_ok X G (c.d.fact 33 (f := .free "isinstance") rfl)
  n_len := He.free_ok X G (c.d.fact 34 (f := .free "len") rfl)
  n_list := He.free_ok X G (c.d.fact 35 (f := .free "list") rfl)
  n_min := He.free_ok X G (c.d.fact 36 (f := .free "min") rfl)
  n_range := He.free_ok X G (c.d.fact 37 (f := .free "range") rfl)
  n_sum := He.free_ok X G (c.d.fact 38 (f := .free "sum") rfl)
  n_tuple := He.free_ok X G (c.d.fact 39 (f := .free "tuple") rfl)
  n_zip := He.free_ok X G (c.d.fact 40 (f := .free "zip") rfl)
  c_Last := He.cls_ok (c.d.fact 45 (f := .cls "Last") rfl)
  k_Last := He.mkr_ok (c.d.fact 46 (f := .mkr "Last") rfl)
  o_Last_q := He.noat_ok (c.d.fact 47 (f := .noat "Last" "q") rfl)
  m_Last_kind := He.meth_ok (c.d.fact 48 (f := .meth "Last" "kind") rfl)
  m_Last_quiet := He.meth_ok (c.d.fact 49 (f := .meth "Last" "quiet") rfl)
  m_Last_lag := He.meth_ok (c.d.fact 50 (f := .meth "Last" "lag") rfl)
  m_Last_closed := He.meth_ok (c.d.fact 51 (f := .meth "Last" "closed") rfl)
  c_First := He.cls_ok (c.d.fact 52 (f := .cls "First") rfl)
  k_First := He.mkr_ok (c.d.fact 53 (f := .mkr "First") rfl)
  o_First_q := He.noat_ok (c.d.fact 54 (f := .noat "First" "q") rfl)
  m_First_kind := He.meth_ok (c.d.fact 55 (f := .meth "First" "kind") rfl)
  m_First_quiet := He.meth_ok (c.d.fact 56 (f := .meth "First" "quiet") rfl)
  m_First_lag := He.meth_ok (c.d.fact 57 (f := .meth "First" "lag") rfl)
  m_First_closed := He.meth_ok (c.d.fact 58 (f := .meth "First" "closed") rfl)
  c_Limit := He.cls_ok (c.d.fact 59 (f := .cls "Limit") rfl)
  k_Limit := He.mkr_ok (c.d.fact 60 (f := .mkr "Limit") rfl)
  o_Limit_q := He.noat_ok (c.d.fact 61 (f := .noat "Limit" "q") rfl)
  m_Limit_kind := He.meth_ok (c.d.fact 62 (f := .meth "Limit" "kind") rfl)
  m_Limit_quiet := He.meth_ok (c.d.fact 63 (f := .meth "Limit" "quiet") rfl)
  m_Limit_lag := He.meth_ok (c.d.fact 64 (f := .meth "Limit" "lag") rfl)
  m_Limit_closed := He.meth_ok (c.d.fact 65 (f := .meth "Limit" "closed") rfl)
  c_Delay := He.cls_ok (c.d.fact 66 (f := .cls "Delay") rfl)
  k_Delay := He.mkr_ok (c.d.fact 67 (f := .mkr "Delay") rfl)
  o_Delay_d := He.noat_ok (c.d.fact 68 (f := .noat "Delay" "d") rfl)
  m_Delay_quiet := He.meth_ok (c.d.fact 69 (f := .meth "Delay" "quiet") rfl)
  m_Delay_lag := He.meth_ok (c.d.fact 70 (f := .meth "Delay" "lag") rfl)
  c_Row := He.cls_ok (c.d.fact 71 (f := .cls "Row") rfl)
  k_Row := He.mkr_ok (c.d.fact 72 (f := .mkr "Row") rfl)
  o_Row_members := He.noat_ok (c.d.fact 73 (f := .noat "Row" "members") rfl)
  c_Told := He.cls_ok (c.d.fact 74 (f := .cls "Told") rfl)
  k_Told := He.mkr_ok (c.d.fact 75 (f := .mkr "Told") rfl)
  o_Told_number := He.noat_ok (c.d.fact 76 (f := .noat "Told" "number") rfl)
  o_Told_time := He.noat_ok (c.d.fact 77 (f := .noat "Told" "time") rfl)
  o_Told_first := He.noat_ok (c.d.fact 78 (f := .noat "Told" "first") rfl)
  o_Told_last := He.noat_ok (c.d.fact 79 (f := .noat "Told" "last") rfl)
  d_is_number := c.d.def_ 0 (d := dis_number) rfl
  d_is_listing := c.d.def_ 1 (d := dis_listing) rfl
  d_check_stream := c.d.def_ 2 (d := dcheck_stream) rfl
  d_check_least := c.d.def_ 3 (d := dcheck_least) rfl
  d_narrow_ones := c.d.def_ 4 (d := dnarrow_ones) rfl
  d_LastX_initX := c.d.def_ 5 (d := dLastX_initX) rfl
  d_LastX_eqX := c.d.def_ 6 (d := dLastX_eqX) rfl
  d_Last_kind := c.d.def_ 7 (d := dLast_kind) rfl
  d_Last_quiet := c.d.def_ 8 (d := dLast_quiet) rfl
  d_Last_lag := c.d.def_ 9 (d := dLast_lag) rfl
  d_Last_closed := c.d.def_ 10 (d := dLast_closed) rfl
  d_FirstX_initX := c.d.def_ 11 (d := dFirstX_initX) rfl
  d_FirstX_eqX := c.d.def_ 12 (d := dFirstX_eqX) rfl
  d_First_kind := c.d.def_ 13 (d := dFirst_kind) rfl
  d_First_quiet := c.d.def_ 14 (d := dFirst_quiet) rfl
  d_First_lag := c.d.def_ 15 (d := dFirst_lag) rfl
  d_First_closed := c.d.def_ 16 (d := dFirst_closed) rfl
  d_LimitX_initX := c.d.def_ 17 (d := dLimitX_initX) rfl
  d_LimitX_eqX := c.d.def_ 18 (d := dLimitX_eqX) rfl
  d_Limit_kind := c.d.def_ 19 (d := dLimit_kind) rfl
  d_Limit_quiet := c.d.def_ 20 (d := dLimit_quiet) rfl
  d_Limit_lag := c.d.def_ 21 (d := dLimit_lag) rfl
  d_Limit_closed := c.d.def_ 22 (d := dLimit_closed) rfl
  d_DelayX_initX := c.d.def_ 23 (d := dDelayX_initX) rfl
  d_DelayX_eqX := c.d.def_ 24 (d := dDelayX_eqX) rfl
  d_Delay_quiet := c.d.def_ 25 (d := dDelay_quiet) rfl
  d_Delay_lag := c.d.def_ 26 (d := dDelay_lag) rfl
  d_is_member := c.d.def_ 27 (d := dis_member) rfl
  d_RowX_initX := c.d.def_ 28 (d := dRowX_initX) rfl
  d_RowX_eqX := c.d.def_ 29 (d := dRowX_eqX) rfl
  d_lag_of := c.d.def_ 30 (d := dlag_of) rfl
  d_ToldX_initX := c.d.def_ 31 (d := dToldX_initX) rfl
  d_ToldX_eqX := c.d.def_ 32 (d := dToldX_eqX) rfl
  d_gaps_of := c.d.def_ 33 (d := dgaps_of) rfl
  d_without := c.d.def_ 34 (d := dwithout) rfl
  d_without_behind := c.d.def_ 35 (d := dwithout_behind) rfl
  d_widened := c.d.def_ 36 (d := dwidened) rfl
  d_told_and_closed := c.d.def_ 37 (d := dtold_and_closed) rfl
  d_told_events := c.d.def_ 38 (d := dtold_events) rfl
  d_told_times := c.d.def_ 39 (d := dtold_times) rfl
  d_times_behind := c.d.def_ 40 (d := dtimes_behind) rfl
  d__law_cell_at := c.d.def_ 41 (d := d_law_cell_at) rfl
  d__law_state := c.d.def_ 42 (d := d_law_state) rfl
  d__law_digit := c.d.def_ 43 (d := d_law_digit) rfl
  d_law := c.d.def_ 44 (d := dlaw) rfl
  ex := c.e
theorem scis_number : FnScope ["thing"] ["thing"] (defScope sis_number) := ⟨rfl, rfl, rfl, by decide +kernel, rfl, by decide +kernel, by decide +kernel⟩
theorem scis_listing : FnScope ["thing"] ["thing"] (defScope sis_listing) := ⟨rfl, rfl, rfl, by decide +kernel, rfl, by decide +kernel, by decide +kernel⟩
theorem sccheck_stream : FnScope ["stream", "before", "place", "time"] ["stream"] (defScope scheck_stream) := ⟨rfl, rfl, rfl, by decide +kernel, rfl, by decide +kernel, by decide +kernel⟩
theorem sccheck_least : FnScope ["number", "least", "what"] ["number", "least", "what"] (defScope scheck_least) := ⟨rfl, rfl, rfl, by decide +kernel, rfl, by decide +kernel, by decide +kernel⟩
theorem scnarrow_ones : FnScope ["gaps", "quiet", "place", "gap"] ["gaps", "quiet"] (defScope snarrow_ones) := ⟨rfl, rfl, rfl, by decide +kernel, rfl, by decide +kernel, by decide +kernel⟩
theorem scLastX_initX : FnScope ["self", "q"] ["self", "q"] (defScope sLastX_initX) := ⟨rfl, rfl, rfl, by decide +kernel, rfl, by decide +kernel, by decide +kernel⟩
theorem scLastX_eqX : FnScope ["self", "other"] ["self", "other"] (defScope sLastX_eqX) := ⟨rfl, rfl, rfl, by decide +kernel, rfl, by decide +kernel, by decide +kernel⟩
theorem scLast_kind : FnScope ["self"] ["self"] (defScope sLast_kind) := ⟨rfl, rfl, rfl, by decide +kernel, rfl, by decide +kernel, by decide +kernel⟩
theorem scLast_quiet : FnScope ["self"] ["self"] (defScope sLast_quiet) := ⟨rfl, rfl, rfl, by decide +kernel, rfl, by decide +kernel, by decide +kernel⟩
theorem scLast_lag : FnScope ["self"] ["self"] (defScope sLast_lag) := ⟨rfl, rfl, rfl, by decide +kernel, rfl, by decide +kernel, by decide +kernel⟩
theorem scLast_closed : FnScope ["self", "gaps"] ["self", "gaps"] (defScope sLast_closed) := ⟨rfl, rfl, rfl, by decide +kernel, rfl, by decide +kernel, by decide +kernel⟩
theorem scFirstX_initX : FnScope ["self", "q"] ["self", "q"] (defScope sFirstX_initX) := ⟨rfl, rfl, rfl, by decide +kernel, rfl, by decide +kernel, by decide +kernel⟩
theorem scFirstX_eqX : FnScope ["self", "other"] ["self", "other"] (defScope sFirstX_eqX) := ⟨rfl, rfl, rfl, by decide +kernel, rfl, by decide +kernel, by decide +kernel⟩
theorem scFirst_kind : FnScope ["self"] ["self"] (defScope sFirst_kind) := ⟨rfl, rfl, rfl, by decide +kernel, rfl, by decide +kernel, by decide +kernel⟩
theorem scFirst_quiet : FnScope ["self"] ["self"] (defScope sFirst_quiet) := ⟨rfl, rfl, rfl, by decide +kernel, rfl, by decide +kernel, by decide +kernel⟩
theorem scFirst_lag : FnScope ["self"] ["self"] (defScope sFirst_lag) := ⟨rfl, rfl, rfl, by decide +kernel, rfl, by decide +kernel, by decide +kernel⟩
theorem scFirst_closed : FnScope ["self", "gaps"] ["self", "gaps"] (defScope sFirst_closed) := ⟨rfl, rfl, rfl, by decide +kernel, rfl, by decide +kernel, by decide +kernel⟩
theorem scLimitX_initX : FnScope ["self", "q"] ["self", "q"] (defScope sLimitX_initX) := ⟨rfl, rfl, rfl, by decide +kernel, rfl, by decide +kernel, by decide +kernel⟩
theorem scLimitX_eqX : FnScope ["self", "other"] ["self", "other"] (defScope sLimitX_eqX) := ⟨rfl, rfl, rfl, by decide +kernel, rfl, by decide +kernel, by decide +kernel⟩
theorem scLimit_kind : FnScope ["self"] ["self"] (defScope sLimit_kind) := ⟨rfl, rfl, rfl, by decide +kernel, rfl, by decide +kernel, by decide +kernel⟩
theorem scLimit_quiet : FnScope ["self"] ["self"] (defScope sLimit_quiet) := ⟨rfl, rfl, rfl, by decide +kernel, rfl, by decide +kernel, by decide +kernel⟩
theorem scLimit_lag : FnScope ["self"] ["self"] (defScope sLimit_lag) := ⟨rfl, rfl, rfl, by decide +kernel, rfl, by decide +kernel, by decide +kernel⟩
theorem scLimit_closed : FnScope ["self", "gaps", "q", "found", "since", "place", "gap"] ["self", "gaps"] (defScope sLimit_closed) := ⟨rfl, rfl, rfl, by decide +kernel, rfl, by decide +kernel, by decide +kernel⟩
theorem scDelayX_initX : FnScope ["self", "d"] ["self", "d"] (defScope sDelayX_initX) := ⟨rfl, rfl, rfl, by decide +kernel, rfl, by decide +kernel, by decide +kernel⟩
theorem scDelayX_eqX : FnScope ["self", "other"] ["self", "other"] (defScope sDelayX_eqX) := ⟨rfl, rfl, rfl, by decide +kernel, rfl, by decide +kernel, by decide +kernel⟩
theorem scDelay_quiet : FnScope ["self"] ["self"] (defScope sDelay_quiet) := ⟨rfl, rfl, rfl, by decide +kernel, rfl, by decide +kernel, by decide +kernel⟩
theorem scDelay_lag : FnScope ["self"] ["self"] (defScope sDelay_lag) := ⟨rfl, rfl, rfl, by decide +kernel, rfl, by decide +kernel, by decide +kernel⟩
theorem scis_member : FnScope ["thing"] ["thing"] (defScope sis_member) := ⟨rfl, rfl, rfl, by decide +kernel, rfl, by decide +kernel, by decide +kernel⟩
theorem scRowX_initX : FnScope ["self", "members", "index", "member"] ["self", "members"] (defScope sRowX_initX) := ⟨rfl, rfl, rfl, by decide +kernel, rfl, by decide +kernel, by decide +kernel⟩
theorem scRowX_eqX : FnScope ["self", "other"] ["self", "other"] (defScope sRowX_eqX) := ⟨rfl, rfl, rfl, by decide +kernel, rfl, by decide +kernel, by decide +kernel⟩
theorem sclag_of : FnScope ["members", "member"] ["members"] (defScope slag_of) := ⟨rfl, rfl, rfl, by decide +kernel, rfl, by decide +kernel, by decide +kernel⟩
theorem scToldX_initX : FnScope ["self", "number", "time", "first", "last"] ["self", "number", "time", "first", "last"] (defScope sToldX_initX) := ⟨rfl, rfl, rfl, by decide +kernel, rfl, by decide +kernel, by decide +kernel⟩
theorem scToldX_eqX : FnScope ["self", "other"] ["self", "other"] (defScope sToldX_eqX) := ⟨rfl, rfl, rfl, by decide +kernel, rfl, by decide +kernel, by decide +kernel⟩
theorem scgaps_of : FnScope ["times", "time", "later"] ["times"] (defScope sgaps_of) := ⟨rfl, rfl, rfl, by decide +kernel, rfl, by decide +kernel, by decide +kernel⟩
theorem scwithout : FnScope ["things", "places", "found", "begin", "place"] ["things", "places"] (defScope swithout) := ⟨rfl, rfl, rfl, by decide +kernel, rfl, by decide +kernel, by decide +kernel⟩
theorem scwithout_behind : FnScope ["things", "places"] ["things", "places"] (defScope swithout_behind) := ⟨rfl, rfl, rfl, by decide +kernel, rfl, by decide +kernel, by decide +kernel⟩
theorem scwidened : FnScope ["gaps", "places", "toward", "wide", "place"] ["gaps", "places", "toward"] (defScope swidened) := ⟨rfl, rfl, rfl, by decide +kernel, rfl, by decide +kernel, by decide +kernel⟩
theorem sctold_and_closed : FnScope ["members", "stream", "numbers", "closed", "gaps", "least", "member", "places", "toward", "number"] ["members", "stream"] (defScope stold_and_closed) := ⟨rfl, rfl, rfl, by decide +kernel, rfl, by decide +kernel, by decide +kernel⟩
theorem sctold_events : FnScope ["row", "stream", "numbers", "closed", "firsts", "places", "lasts", "lag", "number", "first", "last"] ["row", "stream"] (defScope stold_events) := ⟨rfl, rfl, rfl, by decide +kernel, rfl, by decide +kernel, by decide +kernel⟩
theorem sctold_times : FnScope ["row", "stream"] ["row", "stream"] (defScope stold_times) := ⟨rfl, rfl, rfl, by decide +kernel, rfl, by decide +kernel, by decide +kernel⟩
theorem sctimes_behind : FnScope ["members", "stream", "numbers", "_", "lag", "number"] ["members", "stream"] (defScope stimes_behind) := ⟨rfl, rfl, rfl, by decide +kernel, rfl, by decide +kernel, by decide +kernel⟩
theorem sc_law_cell_at : FnScope ["_law_script", "_law_k"] ["_law_script", "_law_k"] (defScope s_law_cell_at) := ⟨rfl, rfl, rfl, by decide +kernel, rfl, by decide +kernel, by decide +kernel⟩
theorem sc_law_state : FnScope ["_law_source"] ["_law_source"] (defScope s_law_state) := ⟨rfl, rfl, rfl, by decide +kernel, rfl, by decide +kernel, by decide +kernel⟩
theorem sc_law_digit : FnScope ["_law_state_here", "_law_base", "_law_found", "_law_mixed"] ["_law_state_here", "_law_base"] (defScope s_law_digit) := ⟨rfl, rfl, rfl, by decide +kernel, rfl, by decide +kernel, by decide +kernel⟩
theorem sclaw : FnScope ["_law_script", "_law_cell", "_law_s", "_law_begin", "_law_step", "_law_rows", "_law_members", "_law_places", "_law_numbers", "_law_late", "_law_stream", "_law_row", "_law_found", "_law_place", "_law_one", "_law_number"] ["_law_script"] (defScope slaw) := ⟨rfl, rfl, rfl, by decide +kernel, rfl, by decide +kernel, by decide +kernel⟩
end My

set_option Elab.async false
set_option linter.all false
set_option maxRecDepth 100000
set_option maxHeartbeats 4000000
namespace My
open PySem PySem.Spec PyProof.Rows L2
/-! ### the steps -/
local macro_rules | `(tactic| walk_at "hp") => `(tactic| first
  | assumption
  | exact upd_same
  | (refine Eq.trans (upd_ne ?_) ?_; (focus (walk_at "ne")); (focus (walk_at "hp")))
  | (apply But.get; (focus assumption); (focus (walk_at "ne")); (focus (walk_at "hp")))
  | (apply Same.get; (focus assumption); (focus (walk_at "hp"))))
local macro_rules | `(tactic| walk_at "ne") => `(tactic| (show (_ : Addr) ≠ _; first
  | assumption
  | exact Ne.symm (by assumption)
  | (apply ne_fresh; (focus assumption); (focus (walk_at "hp")))
  | (apply Ne.symm; apply ne_fresh; (focus assumption); (focus (walk_at "hp")))
  | (apply st_ne; (focus assumption); (focus (walk_at "st")))
  | (apply Ne.symm; apply st_ne; (focus assumption); (focus (walk_at "st")))))
local macro_rules | `(tactic| walk_at "st") => `(tactic| (show St3 _ _; first
  | assumption
  | (with_reducible apply St3.upd; (focus (walk_at "ne")); (focus (walk_at "st")))
  | (apply St3.same; (focus assumption); (focus (walk_at "st")))))
local macro_rules | `(tactic| walk_at "sz") => `(tactic| first | exact Nat.zero_le _ | exact Nat.lt_of_le_of_lt (by omega) (by decide : 100000 < sizeLine) | exact Nat.le_trans (by omega) (by decide : 100000 ≤ sizeLine))
local macro_rules | `(tactic| walk_at "cond") => `(tactic| first | exact div_ok (by assumption) | (unfold CMul; omega) | (unfold CDivW; first | assumption | decide | exact ⟨by omega, by decide⟩) | (unfold CPow; exact ⟨by decide, by decide, by decide⟩) | (unfold CDiv; omega))
local macro_rules | `(tactic| walk_at "size") => `(tactic| first | exact (show 0 ≤ sizeLine by decide) | exact (show 1 ≤ sizeLine by decide) | exact (show 2 ≤ sizeLine by decide) | exact (show 3 ≤ sizeLine by decide) | exact (show 4 ≤ sizeLine by decide) | exact (show 5 ≤ sizeLine by decide) | exact (show 6 ≤ sizeLine by decide) | exact (show 7 ≤ sizeLine by decide) | exact (show 8 ≤ sizeLine by decide))
local macro_rules | `(tactic| walk_at "ar") => `(tactic| first | assumption | omega | rfl | walk_at "cond" | walk_at "st" | exact SqL.of (by walk_at "hp") | exact SqT.of (by walk_at "hp") | walk_at "size" | decide)
local macro_rules | `(tactic| walk_at "s1") => `(tactic| ((fail_if_success (refine fun _ => ?_)); first
  | refine ⟨_, rfl, ?_⟩
  | refine ⟨_, _, rfl, rfl, ?_⟩
  | refine ⟨_, _, rfl, ?_⟩
  | refine ⟨_, _, rfl, Or.inl (SqL.of (by walk_at "hp")), ?_⟩
  | refine ⟨_, _, rfl, Or.inr (SqT.of (by walk_at "hp")), ?_⟩
  | (refine ⟨_, _, _, _, rfl, rfl, SqL.of (by walk_at "hp"), (by first | rfl | assumption), ?_⟩)
  | (refine ⟨_, _, _, _, rfl, rfl, SqT.of (by walk_at "hp"), (by first | rfl | assumption), ?_⟩)
  | (refine ⟨_, _, _, _, rfl, rfl, (by walk_at "hp"), (by rfl), ?_⟩)
  | (refine ⟨_, _, _, rfl, rfl, (by walk_at "hp"), (by walk_at "sz"), ?_⟩)
  | (refine And.intro (Or.inl ⟨rfl, _, SqL.of (by walk_at "hp")⟩) ?_)
  | (refine ⟨_, _, _, _, rfl, (by walk_at "hp"), (by walk_at "cl"), (by walk_at "no"), (by walk_at "few"), ?_⟩)
  | (refine ⟨_, _, _, _, _, rfl, (by walk_at "hp"), (by walk_at "cl"), (by walk_at "no"), (by walk_at "lk"), ?_⟩)
  | refine Or.inl ⟨_, rfl, ?_⟩
  | refine Or.inr ⟨_, rfl, ?_⟩
  | refine And.intro (by walk_at "ar") ?_))
local macro_rules | `(tactic| walk_at "s") => `(tactic| repeat walk_at "s1")
local macro_rules | `(tactic| walk_at "bt") => `(tactic| (show But _ _ _; first
  | assumption
  | exact But.refl
  | (refine But.same ?_ (same_new (by assumption)); walk_at "bt")
  | (refine But.chg ?_ (by assumption); walk_at "bt")
  | (refine But.self ?_; walk_at "bt")
  | (refine But.trans ?_ (by assumption); walk_at "bt")
  | (refine But.same ?_ (by assumption); walk_at "bt")))
local macro_rules | `(tactic| walk_at "vp") => `(tactic| (show VP _ _; first
  | assumption
  | exact VP.refl
  | (refine VP.trans ?_ (VP.new (by assumption)); walk_at "vp")
  | (refine VP.trans ?_ (VP.upd (by walk_at "hp")); walk_at "vp")
  | (refine VP.trans ?_ (VP.st (by assumption) (by walk_at "st")); walk_at "vp")
  | (refine VP.trans ?_ (VP.same (by assumption)); walk_at "vp")))
local macro_rules | `(tactic| walk_at "few") => `(tactic| first | (show 0 < 1000; decide) | (show 1 < 1000; decide) | (show 2 < 1000; decide) | (show 3 < 1000; decide))
local macro_rules | `(tactic| walk_at "lk") => `(tactic| first | rfl | assumption | decide)
local macro_rules | `(tactic| walk_at "cl") => `(tactic| first | assumption | exact (Txt.c_Last (by assumption)) | exact (Txt.c_First (by assumption)) | exact (Txt.c_Limit (by assumption)) | exact (Txt.c_Delay (by assumption)) | exact (Txt.c_Row (by assumption)) | exact (Txt.c_Told (by assumption)))
local macro_rules | `(tactic| walk_at "no") => `(tactic| first | assumption | exact (Txt.o_Last_q (by assumption)) | exact (Txt.o_First_q (by assumption)) | exact (Txt.o_Limit_q (by assumption)) | exact (Txt.o_Delay_d (by assumption)) | exact (Txt.o_Row_members (by assumption)) | exact (Txt.o_Told_number (by assumption)) | exact (Txt.o_Told_time (by assumption)) | exact (Txt.o_Told_first (by assumption)) | exact (Txt.o_Told_last (by assumption)))
section
variable {P : Program} {w : World} {K : PySem.W.Frag} {mg : Str → Option Value} {base : Heap}

theorem okis_number (T : Txt K mg) : Cal P w K mg base 1 (He.ga K "is_number") ["thing"] spIsNum := by
  obtain ⟨fd, F⟩ := T.d_is_number
  refine ⟨fd, F.ok scis_number (fun vs H Q E h => ?_) (fun cdv A outer s H vs Q E hr h => ?_), F.bindsN fun _ _ _ _ _ _ us hl => match us, hl with | [_], _ => rfl, F.kp⟩
  · obtain ⟨v, rfl, _⟩ := h; rfl
  · obtain ⟨v, rfl, hv, k⟩ := h
    refine ⟨_, PSs.nox (pss_one (ps_ret (pe_and (pe_callB (isiK (K := K)) (by rfl) T.n_isinstance (by decide +kernel) (pa_cons (pv 0) (pa_cons (pe_bltn (v := .ty "int") (by rfl) T.n_int (by decide +kernel) rfl) pa_nil))) (pe_one (pe_not (pe_callB (isiK (K := K)) (by rfl) T.n_isinstance (by decide +kernel) (pa_cons (pv 0) (pa_cons (pe_bltn (v := .ty "bool") (by rfl) T.n_bool (by decide +kernel) rfl) pa_nil)))))))), ?_⟩

    cases v with
    | non => exact ⟨_, rfl, _, _, _, _, false, rfl, .ty _, .base .non, kit_ty (by decide +kernel), _, rfl, k⟩
    | bl b => exact ⟨_, rfl, _, _, _, _, true, rfl, .ty _, .base (.bl _), kit_ty (by decide +kernel), _, rfl, _, rfl, _, _, _, _, true, rfl, .ty _, .base (.bl _), kit_ty (by decide +kernel), _, rfl, k⟩
    | int n => exact ⟨_, rfl, _, _, _, _, true, rfl, .ty _, .base (.int _), kit_ty (by decide +kernel), _, rfl, _, rfl, _, _, _, _, false, rfl, .ty _, .base (.int _), kit_ty (by decide +kernel), _, rfl, k⟩
    | str z => exact ⟨_, rfl, _, _, _, _, false, rfl, .ty _, .base (.str _), kit_ty (by decide +kernel), _, rfl, k⟩
    | _ => exact hv.elim

theorem okcheck_least (T : Txt K mg) : Cal P w K mg base 2 (He.ga K "check_least") ["number", "least", "what"] spLeast := by
  obtain ⟨fdis_number, Gis_number, bis_number, kis_number⟩ := okis_number (P := P) (w := w) (base := base) T
  obtain ⟨fd, F⟩ := T.d_check_least
  refine ⟨fd, F.ok sccheck_least (fun vs H Q E h => ?_) (fun cdv A outer s H vs Q E hr h => ?_), F.bindsN fun _ _ _ _ _ _ us hl => match us, hl with | [_, _, _], _ => rfl, F.kp⟩
  · obtain ⟨n, least, x, rfl, _⟩ := h; rfl
  · obtain ⟨n, least, x, rfl, hn, k⟩ := h
    refine ⟨_, PSs.nox (pss_one (ps_if (PW.pt (pw_or (pt_not (pt_val (pe_call Gis_number (hrM hr) rfl T.g_is_number kis_number bis_number .nil pass0 (pa_cons (pv 0) pa_nil)))) (pw_or1 (pt_cmpR op_lt (pv 0) (pv 1) (nomark _))))) (pss_one ps_never)
  pss_nil)), ?_⟩

    walk_at "s"
    refine And.intro True.intro ?_
    refine ⟨_, rfl, ?_⟩
    refine iteF ?_
    walk_at "s"
    exact ite2 (fun hc => absurd (of_decide_eq_true hc) (by omega)) (fun _ => k)

theorem okLastX_initX (T : Txt K mg) : Cal P w K mg base 3 (He.ma K (He.ga K "Last") "__init__") ["self", "q"] (spInit1 (He.ga K "Last") "q" 1) := by
  obtain ⟨fdcheck_least, Gcheck_least, bcheck_least, kcheck_least⟩ := okcheck_least (P := P) (w := w) (base := base) T
  obtain ⟨fd, F⟩ := T.d_LastX_initX
  refine ⟨fd, F.ok scLastX_initX (fun vs H Q E h => ?_) (fun cdv A outer s H vs Q E hr h => ?_), F.bindsN fun _ _ _ _ _ _ us hl => match us, hl with | [_, _], _ => rfl, F.kp⟩
  · obtain ⟨p, dx, n, rfl, _⟩ := h; rfl
  · obtain ⟨p, dx, n, rfl, hp, hn, k⟩ := h
    refine ⟨_, PSs.nox (pss_cons (ps_expr (pe_call Gcheck_least (hrM hr) rfl T.g_check_least kcheck_least bcheck_least .nil pass0 (pa_cons (pv 1) (pa_cons pe_int (pa_cons pe_str pa_nil)))))
  (pss_one (fsK (K := K) (pv 0) (pv 1)))), ?_⟩

    walk_at "s"
    refine ⟨_, _, _, rfl, by omega, ?_⟩
    walk_at "s"
    exact k _ rfl

theorem okFirstX_initX (T : Txt K mg) : Cal P w K mg base 3 (He.ma K (He.ga K "First") "__init__") ["self", "q"] (spInit1 (He.ga K "First") "q" 1) := by
  obtain ⟨fdcheck_least, Gcheck_least, bcheck_least, kcheck_least⟩ := okcheck_least (P := P) (w := w) (base := base) T
  obtain ⟨fd, F⟩ := T.d_FirstX_initX
  refine ⟨fd, F.ok scFirstX_initX (fun vs H Q E h => ?_) (fun cdv A outer s H vs Q E hr h => ?_), F.bindsN fun _ _ _ _ _ _ us hl => match us, hl with | [_, _], _ => rfl, F.kp⟩
  · obtain ⟨p, dx, n, rfl, _⟩ := h; rfl
  · obtain ⟨p, dx, n, rfl, hp, hn, k⟩ := h
    refine ⟨_, PSs.nox (pss_cons (ps_expr (pe_call Gcheck_least (hrM hr) rfl T.g_check_least kcheck_least bcheck_least .nil pass0 (pa_cons (pv 1) (pa_cons pe_int (pa_cons pe_str pa_nil)))))
  (pss_one (fsK (K := K) (pv 0) (pv 1)))), ?_⟩

    walk_at "s"
    refine ⟨_, _, _, rfl, by omega, ?_⟩
    walk_at "s"
    exact k _ rfl

theorem okLimitX_initX (T : Txt K mg) : Cal P w K mg base 3 (He.ma K (He.ga K "Limit") "__init__") ["self", "q"] (spInit1 (He.ga K "Limit") "q" 1) := by
  obtain ⟨fdcheck_least, Gcheck_least, bcheck_least, kcheck_least⟩ := okcheck_least (P := P) (w := w) (base := base) T
  obtain ⟨fd, F⟩ := T.d_LimitX_initX
  refine ⟨fd, F.ok scLimitX_initX (fun vs H Q E h => ?_) (fun cdv A outer s H vs Q E hr h => ?_), F.bindsN fun _ _ _ _ _ _ us hl => match us, hl with | [_, _], _ => rfl, F.kp⟩
  · obtain ⟨p, dx, n, rfl, _⟩ := h; rfl
  · obtain ⟨p, dx, n, rfl, hp, hn, k⟩ := h
    refine ⟨_, PSs.nox (pss_cons (ps_expr (pe_call Gcheck_least (hrM hr) rfl T.g_check_least kcheck_least bcheck_least .nil pass0 (pa_cons (pv 1) (pa_cons pe_int (pa_cons pe_str pa_nil)))))
  (pss_one (fsK (K := K) (pv 0) (pv 1)))), ?_⟩

    walk_at "s"
    refine ⟨_, _, _, rfl, by omega, ?_⟩
    walk_at "s"
    exact k _ rfl

theorem okDelayX_initX (T : Txt K mg) : Cal P w K mg base 3 (He.ma K (He.ga K "Delay") "__init__") ["self", "d"] (spInit1 (He.ga K "Delay") "d" 0) := by
  obtain ⟨fdcheck_least, Gcheck_least, bcheck_least, kcheck_least⟩ := okcheck_least (P := P) (w := w) (base := base) T
  obtain ⟨fd, F⟩ := T.d_DelayX_initX
  refine ⟨fd, F.ok scDelayX_initX (fun vs H Q E h => ?_) (fun cdv A outer s H vs Q E hr h => ?_), F.bindsN fun _ _ _ _ _ _ us hl => match us, hl with | [_, _], _ => rfl, F.kp⟩
  · obtain ⟨p, dx, n, rfl, _⟩ := h; rfl
  · obtain ⟨p, dx, n, rfl, hp, hn, k⟩ := h
    refine ⟨_, PSs.nox (pss_cons (ps_expr (pe_call Gcheck_least (hrM hr) rfl T.g_check_least kcheck_least bcheck_least .nil pass0 (pa_cons (pv 1) (pa_cons pe_int (pa_cons pe_str pa_nil)))))
  (pss_one (fsK (K := K) (pv 0) (pv 1)))), ?_⟩

    walk_at "s"
    refine ⟨_, _, _, rfl, by omega, ?_⟩
    walk_at "s"
    exact k _ rfl

theorem okis_listing (T : Txt K mg) : Cal P w K mg base 1 (He.ga K "is_listing") ["thing"] (spIsL K) := by
  obtain ⟨fd, F⟩ := T.d_is_listing
  refine ⟨fd, F.ok scis_listing (fun vs H Q E h => ?_) (fun cdv A outer s H vs Q E hr h => ?_), F.bindsN fun _ _ _ _ _ _ us hl => match us, hl with | [_], _ => rfl, F.kp⟩
  · obtain ⟨x, t, b, rfl, _⟩ := h; rfl
  · obtain ⟨x, t, b, rfl, hx, hb, k⟩ := h
    refine ⟨_, PSs.nox (pss_one (ps_ret (pe_callB (isiTK (K := K)) (by rfl) T.n_isinstance (by decide +kernel) (pa_cons (pv 0) (pa_cons (pe_tup (pa_cons (pe_bltn (v := .ty "list") (by rfl) T.n_list (by decide +kernel) rfl) (pa_cons (pe_bltn (v := .ty "tuple") (by rfl) T.n_tuple (by decide +kernel) rfl) pa_nil))) pa_nil))))), ?_⟩

    walk_at "s"
    refine fun p np => ?_
    exact ⟨x, p, _, t, _, b, rfl, upd_same, .cons (.ty _) (.cons (.ty _) .nil), My.TyX.ext hx (same_new np), hb, k _ (same_new np)⟩

theorem okis_member (T : Txt K mg) : Cal P w K mg base 1 (He.ga K "is_member") ["thing"] (spMember K) := by
  obtain ⟨fd, F⟩ := T.d_is_member
  refine ⟨fd, F.ok scis_member (fun vs H Q E h => ?_) (fun cdv A outer s H vs Q E hr h => ?_), F.bindsN fun _ _ _ _ _ _ us hl => match us, hl with | [_], _ => rfl, F.kp⟩
  · obtain ⟨m, v, rfl, _⟩ := h; rfl
  · obtain ⟨m, v, rfl, ⟨a, dx, rfl, ha⟩, k⟩ := h
    refine ⟨_, PSs.nox (pss_one (ps_ret (pe_callB (isiTK (K := K)) (by rfl) T.n_isinstance (by decide +kernel) (pa_cons (pv 0) (pa_cons (pe_tup (pa_cons (pe_glob (v := .ref (He.ga K "Last")) (by rfl) T.g_Last rfl) (pa_cons (pe_glob (v := .ref (He.ga K "First")) (by rfl) T.g_First rfl) (pa_cons (pe_glob (v := .ref (He.ga K "Limit")) (by rfl) T.g_Limit rfl) (pa_cons (pe_glob (v := .ref (He.ga K "Delay")) (by rfl) T.g_Delay rfl) pa_nil))))) pa_nil))))), ?_⟩

    have O := ownB_ok T.ex
    walk_at "s"
    refine fun p np => ?_
    have ha' := (same_new (o := .tup [.ref (He.ga K "Last"), .ref (He.ga K "First"), .ref (He.ga K "Limit"), .ref (He.ga K "Delay")]) np) _ _ ha
    have key : ∃ t, TyX K (upd H p (.tup [.ref (He.ga K "Last"), .ref (He.ga K "First"), .ref (He.ga K "Limit"), .ref (He.ga K "Delay")])) (.ref a) t ∧ PySem.W.kitAny K t [.ref (He.ga K "Last"), .ref (He.ga K "First"), .ref (He.ga K "Limit"), .ref (He.ga K "Delay")] = some true := by
      obtain ⟨kd, n⟩ := m
      cases kd
      · exact ⟨_, O.ty (c := "Last") (by decide) T.c_Last ha', kitAny_cons (b := true) (O.kit "Last" (by decide) "Last" (by decide)) (fun z => nomatch z) (fun _ => rfl)⟩
      · exact ⟨_, O.ty (c := "First") (by decide) T.c_First ha', kitAny_cons (b := false) (O.kit "First" (by decide) "Last" (by decide)) (fun _ => kitAny_cons (b := true) (O.kit "First" (by decide) "First" (by decide)) (fun z => nomatch z) (fun _ => rfl)) (fun z => nomatch z)⟩
      · exact ⟨_, O.ty (c := "Limit") (by decide) T.c_Limit ha', kitAny_cons (b := false) (O.kit "Limit" (by decide) "Last" (by decide)) (fun _ => kitAny_cons (b := false) (O.kit "Limit" (by decide) "First" (by decide)) (fun _ => kitAny_cons (b := true) (O.kit "Limit" (by decide) "Limit" (by decide)) (fun z => nomatch z) (fun _ => rfl)) (fun z => nomatch z)) (fun z => nomatch z)⟩
      · exact ⟨_, O.ty (c := "Delay") (by decide) T.c_Delay ha', kitAny_cons (b := false) (O.kit "Delay" (by decide) "Last" (by decide)) (fun _ => kitAny_cons (b := false) (O.kit "Delay" (by decide) "First" (by decide)) (fun _ => kitAny_cons (b := false) (O.kit "Delay" (by decide) "Limit" (by decide)) (fun _ => kitAny_cons (b := true) (O.kit "Delay" (by decide) "Delay" (by decide)) (fun z => nomatch z) (fun _ => rfl)) (fun z => nomatch z)) (fun z => nomatch z)) (fun z => nomatch z)⟩
    obtain ⟨t, h1, h2⟩ := key
    exact ⟨_, p, _, _, _, true, rfl, upd_same, .cons (.own _) (.cons (.own _) (.cons (.own _) (.cons (.own _) .nil))), h1, h2, k _ (same_new np)⟩

theorem okRowX_initX (T : Txt K mg) : Cal P w K mg base 2 (He.ma K (He.ga K "Row") "__init__") ["self", "members"] (spRowInit K) := by
  obtain ⟨fdis_listing, Gis_listing, bis_listing, kis_listing⟩ := okis_listing (P := P) (w := w) (base := base) T
  obtain ⟨fdis_member, Gis_member, bis_member, kis_member⟩ := okis_member (P := P) (w := w) (base := base) T
  obtain ⟨fd, F⟩ := T.d_RowX_initX
  refine ⟨fd, F.ok scRowX_initX (fun vs H Q E h => ?_) (fun cdv A outer s H vs Q E hr h => ?_), F.bindsN fun _ _ _ _ _ _ us hl => match us, hl with | [_, _], _ => rfl, F.kp⟩
  · obtain ⟨p, dx, l, xs, ms, rfl, _⟩ := h; rfl
  · obtain ⟨p, dx, l, xs, ms, rfl, hp, hl, hE, hlen, k⟩ := h
    refine ⟨_, PSs.nox (pss_cons (ps_if (pt_not (pt_val (pe_call Gis_listing (hrM hr) rfl T.g_is_listing kis_listing bis_listing .nil pass0 (pa_cons (pv 1) pa_nil)))) (pss_one ps_never)
  pss_nil)
  (pss_cons (ps_for PassesOwn.never rfl (piEK (K := K) (by rfl) T.n_enumerate (pa_cons (pv 1) pa_nil)) (pg_tup (by rfl) (pgs_cons (pg_name (i := 2) scRowX_initX.nd rfl (Or.inl rfl)) (pgs_cons (pg_name (i := 3) scRowX_initX.nd rfl (Or.inl rfl)) pgs_nil)))
  (pss_one (ps_if (pt_not (pt_val (pe_call Gis_member (hrM hr) rfl T.g_is_member kis_member bis_member .nil pass0 (pa_cons (pv 3) pa_nil)))) (pss_one ps_never)
  pss_nil)))
  (pss_one (fsK (K := K) (pv 0) (pe_callTy (tupleOfK (K := K)) (by rfl) T.n_tuple (by decide +kernel) (pa_cons (pv 1) pa_nil)))))), ?_⟩

    have hlp : l ≠ p := ne_of hl hp (by intro z; cases z)
    walk_at "s"
    refine ⟨_, _, true, rfl, Sq.ty (b := false) (SqL.of hl), kit_lt K false, fun H1 k1 => ?_⟩
    walk_at "s"
    have hl1 := k1 _ _ hl
    refine ⟨_, _, rfl, SqL.of hl1, for_it (walk_enum (K := K) (xs := xs)) (fun i σ H' => ∃ v2 v3, σ = [some (.ref p), some (.ref l), v2, v3] ∧ Same H H') ⟨none, none, rfl, k1⟩ (fun i σ H' _ ⟨_, _, _, kH⟩ => SqL.of (kH _ _ hl)) ?_ ?_⟩
    · rintro i x σ H2 H3 hi ⟨v2, v3, rfl, kH⟩ ⟨T0, x1, x2, rfl, nT, rfl, e1, e2⟩
      obtain ⟨m, hm, hmv⟩ := hE.at e2
      have kT : Same H (upd H2 T0 (.tup [x1, x2])) := kH.trans (same_new nT)
      refine ⟨_, _, rfl, SqT.of upd_same, rfl, ?_⟩
      refine ⟨_, _, rfl, ?_⟩
      refine ⟨_, _, rfl, ?_⟩
      refine ⟨rfl, ?_⟩
      walk_at "s"
      refine ⟨m, x2, rfl, hmv.vp (VP.same kT), fun H4 k4 => ?_⟩
      walk_at "s"
      exact kT.trans k4
    · rintro σ H2 ⟨v2, v3, rfl, kH⟩
      have hl2 := kH _ _ hl
      walk_at "s"
      refine ⟨l, xs, rfl, .inl ⟨SqL.of hl2, fun q hq => ?_⟩⟩
      have hq0 : H q = none := kH.free hq
      have hp3 := (same_new (o := .tup xs) hq) _ _ (kH _ _ hp)
      have hqp : q ≠ p := (ne_of_none (kH _ _ hp) hq).symm
      walk_at "s"
      exact k _ q (fun b o n e => by rw [upd_ne n, upd_ne (ne_of_none (kH _ _ e) hq)]; exact kH _ _ e) hq0 (by rw [upd_ne hqp, upd_same]) upd_same

theorem okToldX_initX (T : Txt K mg) : Cal P w K mg base 1 (He.ma K (He.ga K "Told") "__init__") ["self", "number", "time", "first", "last"] (spToldInit K) := by
  obtain ⟨fd, F⟩ := T.d_ToldX_initX
  refine ⟨fd, F.ok scToldX_initX (fun vs H Q E h => ?_) (fun cdv A outer s H vs Q E hr h => ?_), F.bindsN fun _ _ _ _ _ _ us hl => match us, hl with | [_, _, _, _, _], _ => rfl, F.kp⟩
  · obtain ⟨p, dx, a, b, c, d, rfl, _⟩ := h; rfl
  · obtain ⟨p, dx, a, b, c, d, rfl, hp, k⟩ := h
    refine ⟨_, PSs.nox (pss_cons (fsK (K := K) (pv 0) (pv 1))
  (pss_cons (fsK (K := K) (pv 0) (pv 2))
  (pss_cons (fsK (K := K) (pv 0) (pv 3))
  (pss_one (fsK (K := K) (pv 0) (pv 4)))))), ?_⟩

    walk_at "s"
    exact k _ (But.self (But.self (But.self but_upd))) (by rw [upd_same]; rfl)

theorem okLast_lag (T : Txt K mg) : Cal P w K mg base 1 (He.ma K (He.ga K "Last") "lag") ["self"] (spLag (He.ga K "Last") "q") := by
  obtain ⟨fd, F⟩ := T.d_Last_lag
  refine ⟨fd, F.ok scLast_lag (fun vs H Q E h => ?_) (fun cdv A outer s H vs Q E hr h => ?_), F.bindsN fun _ _ _ _ _ _ us hl => match us, hl with | [_], _ => rfl, F.kp⟩
  · obtain ⟨a, dx, n, rfl, _⟩ := h; rfl
  · obtain ⟨a, dx, n, rfl, ha, k⟩ := h
    refine ⟨_, PSs.nox (pss_one (ps_ret (feK (K := K) (pv 0)))), ?_⟩

    walk_at "s"
    exact k

theorem okDelay_lag (T : Txt K mg) : Cal P w K mg base 1 (He.ma K (He.ga K "Delay") "lag") ["self"] (spLag (He.ga K "Delay") "d") := by
  obtain ⟨fd, F⟩ := T.d_Delay_lag
  refine ⟨fd, F.ok scDelay_lag (fun vs H Q E h => ?_) (fun cdv A outer s H vs Q E hr h => ?_), F.bindsN fun _ _ _ _ _ _ us hl => match us, hl with | [_], _ => rfl, F.kp⟩
  · obtain ⟨a, dx, n, rfl, _⟩ := h; rfl
  · obtain ⟨a, dx, n, rfl, ha, k⟩ := h
    refine ⟨_, PSs.nox (pss_one (ps_ret (feK (K := K) (pv 0)))), ?_⟩

    walk_at "s"
    exact k

theorem okFirst_lag (T : Txt K mg) : Cal P w K mg base 1 (He.ma K (He.ga K "First") "lag") ["self"] (spLag0 (He.ga K "First") "q") := by
  obtain ⟨fd, F⟩ := T.d_First_lag
  refine ⟨fd, F.ok scFirst_lag (fun vs H Q E h => ?_) (fun cdv A outer s H vs Q E hr h => ?_), F.bindsN fun _ _ _ _ _ _ us hl => match us, hl with | [_], _ => rfl, F.kp⟩
  · obtain ⟨a, dx, n, rfl, _⟩ := h; rfl
  · obtain ⟨a, dx, n, rfl, ha, k⟩ := h
    refine ⟨_, PSs.nox (pss_one (ps_ret pe_int)), ?_⟩

    walk_at "s"
    exact k

theorem okLimit_lag (T : Txt K mg) : Cal P w K mg base 1 (He.ma K (He.ga K "Limit") "lag") ["self"] (spLag0 (He.ga K "Limit") "q") := by
  obtain ⟨fd, F⟩ := T.d_Limit_lag
  refine ⟨fd, F.ok scLimit_lag (fun vs H Q E h => ?_) (fun cdv A outer s H vs Q E hr h => ?_), F.bindsN fun _ _ _ _ _ _ us hl => match us, hl with | [_], _ => rfl, F.kp⟩
  · obtain ⟨a, dx, n, rfl, _⟩ := h; rfl
  · obtain ⟨a, dx, n, rfl, ha, k⟩ := h
    refine ⟨_, PSs.nox (pss_one (ps_ret pe_int)), ?_⟩

    walk_at "s"
    exact k

theorem okLast_quiet (T : Txt K mg) : Cal P w K mg base 1 (He.ma K (He.ga K "Last") "quiet") ["self"] (spLag (He.ga K "Last") "q") := by
  obtain ⟨fd, F⟩ := T.d_Last_quiet
  refine ⟨fd, F.ok scLast_quiet (fun vs H Q E h => ?_) (fun cdv A outer s H vs Q E hr h => ?_), F.bindsN fun _ _ _ _ _ _ us hl => match us, hl with | [_], _ => rfl, F.kp⟩
  · obtain ⟨a, dx, n, rfl, _⟩ := h; rfl
  · obtain ⟨a, dx, n, rfl, ha, k⟩ := h
    refine ⟨_, PSs.nox (pss_one (ps_ret (feK (K := K) (pv 0)))), ?_⟩

    walk_at "s"
    exact k

theorem okLast_kind (T : Txt K mg) : Cal P w K mg base 1 (He.ma K (He.ga K "Last") "kind") ["self"] (spKind (He.ga K "Last") "last") := by
  obtain ⟨fd, F⟩ := T.d_Last_kind
  refine ⟨fd, F.ok scLast_kind (fun vs H Q E h => ?_) (fun cdv A outer s H vs Q E hr h => ?_), F.bindsN fun _ _ _ _ _ _ us hl => match us, hl with | [_], _ => rfl, F.kp⟩
  · obtain ⟨a, dx, fs, rfl, _⟩ := h; rfl
  · obtain ⟨a, dx, fs, rfl, ha, k⟩ := h
    refine ⟨_, PSs.nox (pss_one (ps_ret pe_str)), ?_⟩

    exact k

theorem okFirst_quiet (T : Txt K mg) : Cal P w K mg base 1 (He.ma K (He.ga K "First") "quiet") ["self"] (spLag (He.ga K "First") "q") := by
  obtain ⟨fd, F⟩ := T.d_First_quiet
  refine ⟨fd, F.ok scFirst_quiet (fun vs H Q E h => ?_) (fun cdv A outer s H vs Q E hr h => ?_), F.bindsN fun _ _ _ _ _ _ us hl => match us, hl with | [_], _ => rfl, F.kp⟩
  · obtain ⟨a, dx, n, rfl, _⟩ := h; rfl
  · obtain ⟨a, dx, n, rfl, ha, k⟩ := h
    refine ⟨_, PSs.nox (pss_one (ps_ret (feK (K := K) (pv 0)))), ?_⟩

    walk_at "s"
    exact k

theorem okFirst_kind (T : Txt K mg) : Cal P w K mg base 1 (He.ma K (He.ga K "First") "kind") ["self"] (spKind (He.ga K "First") "first") := by
  obtain ⟨fd, F⟩ := T.d_First_kind
  refine ⟨fd, F.ok scFirst_kind (fun vs H Q E h => ?_) (fun cdv A outer s H vs Q E hr h => ?_), F.bindsN fun _ _ _ _ _ _ us hl => match us, hl with | [_], _ => rfl, F.kp⟩
  · obtain ⟨a, dx, fs, rfl, _⟩ := h; rfl
  · obtain ⟨a, dx, fs, rfl, ha, k⟩ := h
    refine ⟨_, PSs.nox (pss_one (ps_ret pe_str)), ?_⟩

    exact k

theorem okLimit_quiet (T : Txt K mg) : Cal P w K mg base 1 (He.ma K (He.ga K "Limit") "quiet") ["self"] (spLag (He.ga K "Limit") "q") := by
  obtain ⟨fd, F⟩ := T.d_Limit_quiet
  refine ⟨fd, F.ok scLimit_quiet (fun vs H Q E h => ?_) (fun cdv A outer s H vs Q E hr h => ?_), F.bindsN fun _ _ _ _ _ _ us hl => match us, hl with | [_], _ => rfl, F.kp⟩
  · obtain ⟨a, dx, n, rfl, _⟩ := h; rfl
  · obtain ⟨a, dx, n, rfl, ha, k⟩ := h
    refine ⟨_, PSs.nox (pss_one (ps_ret (feK (K := K) (pv 0)))), ?_⟩

    walk_at "s"
    exact k

theorem okLimit_kind (T : Txt K mg) : Cal P w K mg base 1 (He.ma K (He.ga K "Limit") "kind") ["self"] (spKind (He.ga K "Limit") "limit") := by
  obtain ⟨fd, F⟩ := T.d_Limit_kind
  refine ⟨fd, F.ok scLimit_kind (fun vs H Q E h => ?_) (fun cdv A outer s H vs Q E hr h => ?_), F.bindsN fun _ _ _ _ _ _ us hl => match us, hl with | [_], _ => rfl, F.kp⟩
  · obtain ⟨a, dx, fs, rfl, _⟩ := h; rfl
  · obtain ⟨a, dx, fs, rfl, ha, k⟩ := h
    refine ⟨_, PSs.nox (pss_one (ps_ret pe_str)), ?_⟩

    exact k

theorem okDelay_quiet (T : Txt K mg) : Cal P w K mg base 1 (He.ma K (He.ga K "Delay") "quiet") ["self"] (spLag0 (He.ga K "Delay") "d") := by
  obtain ⟨fd, F⟩ := T.d_Delay_quiet
  refine ⟨fd, F.ok scDelay_quiet (fun vs H Q E h => ?_) (fun cdv A outer s H vs Q E hr h => ?_), F.bindsN fun _ _ _ _ _ _ us hl => match us, hl with | [_], _ => rfl, F.kp⟩
  · obtain ⟨a, dx, n, rfl, _⟩ := h; rfl
  · obtain ⟨a, dx, n, rfl, ha, k⟩ := h
    refine ⟨_, PSs.nox (pss_one (ps_ret pe_int)), ?_⟩

    exact k

theorem oknarrow_ones (T : Txt K mg) : Cal P w K mg base 1 (He.ga K "narrow_ones") ["gaps", "quiet"] (spNarrow K) := by
  obtain ⟨fd, F⟩ := T.d_narrow_ones
  refine ⟨fd, F.ok scnarrow_ones (fun vs H Q E h => ?_) (fun cdv A outer s H vs Q E hr h => ?_), F.bindsN fun _ _ _ _ _ _ us hl => match us, hl with | [_, _], _ => rfl, F.kp⟩
  · obtain ⟨g, gs, q, rfl, _⟩ := h; rfl
  · obtain ⟨g, gs, q, rfl, hg, hlen, k⟩ := h
    refine ⟨_, PSs.nox (pss_one (ps_ret (pe_lc (own := [("place", 2), ("gap", 3)]) (g := (gTup K 2 (gCons (gName 2) (gCons (gName 3) gNil)))) (by rfl) scnarrow_ones.nd (piEK (K := K) (by rfl) T.n_enumerate (pa_cons (pv 0) pa_nil)) (blkOk_by (own := [("place", 2), ("gap", 3)]) (N := ["gaps", "quiet", "place", "gap"]) (sc := defScope snarrow_ones) (by decide +kernel)) (fun _ _ _ _ _ => (pg_tup (by rfl) (pgs_cons (pg_name (i := 2) scnarrow_ones.nd rfl (Or.inl rfl)) (pgs_cons (pg_name (i := 3) scnarrow_ones.nd rfl (Or.inl rfl)) pgs_nil)))) (fun _ _ _ _ _ => (pts_one (pt_cmpR op_lt (pv 3) (pv 1) (nomark _)))) (fun _ _ _ _ _ => (pv 2))))), ?_⟩

    refine r_ret ?_
    have hz : (gs.map V.int).length ≤ 40000 := by rw [List.length_map]; omega
    refine (lc_pairs (K := K) (j1 := 2) (j2 := 3) (vs := [2, 3]) (n := (gs.map V.int).length) (xs := fun i => some (.int (i : Nat))) (ys := fun i => (gs.map V.int)[i]?) (fun i => decide (gs.getD i 0 < q)) (fun i => V.int (i : Nat)) hz (wi_enum (K := K) (Evl.ea_cons (Evl.ev_var rfl) Evl.ea_nil) (SqL.of hg)) (fun _ _ => rfl) ?_ ?_) H (Evl.Ex.refl _) _ ?_
    · intro i x y H1 e hi ex ey H2 e2 Q' qq
      obtain ⟨rfl, _⟩ := map_at ey
      walk_at "s"
      exact qq H2 (Evl.Ex.refl _)
    · intro i x y H1 e hi ex ey _ H2 e2 Q' qq
      cases Option.some.inj ex
      exact ⟨_, rfl, qq H2 (Evl.Ex.refl _)⟩
    · intro p H2 np e2 hp
      refine k H2 p e2 np ?_
      rw [hp, List.length_map]
      unfold Evl.given natV plc
      rw [List.map_map]
      rfl

theorem okLast_closed (T : Txt K mg) : Cal P w K mg base 2 (He.ma K (He.ga K "Last") "closed") ["self", "gaps"] (spClosed K .last) := by
  obtain ⟨fdnarrow_ones, Gnarrow_ones, bnarrow_ones, knarrow_ones⟩ := oknarrow_ones (P := P) (w := w) (base := base) T
  obtain ⟨fd, F⟩ := T.d_Last_closed
  refine ⟨fd, F.ok scLast_closed (fun vs H Q E h => ?_) (fun cdv A outer s H vs Q E hr h => ?_), F.bindsN fun _ _ _ _ _ _ us hl => match us, hl with | [_, _], _ => rfl, F.kp⟩
  · obtain ⟨a, g, dx, n, bt, rfl, _⟩ := h; rfl
  · obtain ⟨a, g, dx, n, bt, rfl, ha, hg, ⟨hA, hlen⟩, k⟩ := h
    refine ⟨_, PSs.nox (pss_one (ps_ret (pe_call Gnarrow_ones (hrM hr) rfl T.g_narrow_ones knarrow_ones bnarrow_ones .nil pass0 (pa_cons (pv 1) (pa_cons (feK (K := K) (pv 0)) pa_nil))))), ?_⟩

    walk_at "s"
    refine ⟨g, gapsL bt, n, rfl, hg, by rw [gapsL_len]; omega, fun H' p k1 np hp => k H' p k1 np ?_⟩
    rw [hp, gapsL_len, plc_congr (c := fun i => decide ((gapsL bt).getD i 0 < n)) (d := clo (.last, n) bt) (fun i hi => (clo_narrow hA (.inl rfl) (by omega)).symm)]

theorem okFirst_closed (T : Txt K mg) : Cal P w K mg base 2 (He.ma K (He.ga K "First") "closed") ["self", "gaps"] (spClosed K .first) := by
  obtain ⟨fdnarrow_ones, Gnarrow_ones, bnarrow_ones, knarrow_ones⟩ := oknarrow_ones (P := P) (w := w) (base := base) T
  obtain ⟨fd, F⟩ := T.d_First_closed
  refine ⟨fd, F.ok scFirst_closed (fun vs H Q E h => ?_) (fun cdv A outer s H vs Q E hr h => ?_), F.bindsN fun _ _ _ _ _ _ us hl => match us, hl with | [_, _], _ => rfl, F.kp⟩
  · obtain ⟨a, g, dx, n, bt, rfl, _⟩ := h; rfl
  · obtain ⟨a, g, dx, n, bt, rfl, ha, hg, ⟨hA, hlen⟩, k⟩ := h
    refine ⟨_, PSs.nox (pss_one (ps_ret (pe_call Gnarrow_ones (hrM hr) rfl T.g_narrow_ones knarrow_ones bnarrow_ones .nil pass0 (pa_cons (pv 1) (pa_cons (feK (K := K) (pv 0)) pa_nil))))), ?_⟩

    walk_at "s"
    refine ⟨g, gapsL bt, n, rfl, hg, by rw [gapsL_len]; omega, fun H' p k1 np hp => k H' p k1 np ?_⟩
    rw [hp, gapsL_len, plc_congr (c := fun i => decide ((gapsL bt).getD i 0 < n)) (d := clo (.first, n) bt) (fun i hi => (clo_narrow hA (.inr rfl) (by omega)).symm)]

theorem okLimit_closed (T : Txt K mg) : Cal P w K mg base 2 (He.ma K (He.ga K "Limit") "closed") ["self", "gaps"] (spClosed K .limit) := by
  obtain ⟨fd, F⟩ := T.d_Limit_closed
  refine ⟨fd, F.ok scLimit_closed (fun vs H Q E h => ?_) (fun cdv A outer s H vs Q E hr h => ?_), F.bindsN fun _ _ _ _ _ _ us hl => match us, hl with | [_, _], _ => rfl, F.kp⟩
  · obtain ⟨a, g, dx, n, bt, rfl, _⟩ := h; rfl
  · obtain ⟨a, g, dx, n, bt, rfl, ha, hg, ⟨hA, hlen⟩, k⟩ := h
    refine ⟨_, PSs.nox (pss_cons (ps_set (i := 2) scLimit_closed.nd rfl (Or.inl rfl) (feK (K := K) (pv 0)))
  (pss_cons (ps_set (i := 3) scLimit_closed.nd rfl (Or.inl rfl) (pe_lst pa_nil))
  (pss_cons (ps_set (i := 4) scLimit_closed.nd rfl (Or.inl rfl) pe_int)
  (pss_cons (ps_for PassesOwn.never rfl (piEK (K := K) (by rfl) T.n_enumerate (pa_cons (pv 1) pa_nil)) (pg_tup (by rfl) (pgs_cons (pg_name (i := 5) scLimit_closed.nd rfl (Or.inl rfl)) (pgs_cons (pg_name (i := 6) scLimit_closed.nd rfl (Or.inl rfl)) pgs_nil)))
  (pss_cons (ps_aug (i := 4) scLimit_closed.nd rfl (Or.inl rfl) (pv 6) ip_add)
  (pss_one (ps_if (pt_cmpR op_lt (pv 4) (pv 2) (nomark _)) (pss_one (ps_expr (appK (K := K) (pv 3) (pa_cons (pv 5) pa_nil))))
  (pss_one (ps_set (i := 4) scLimit_closed.nd rfl (Or.inl rfl) pe_int))))))
  (pss_one (ps_ret (pv 3))))))), ?_⟩

    walk_at "s"
    refine fun f hf => ?_
    walk_at "s"
    have hgf : g ≠ f := ne_of_none hg hf
    refine ⟨_, _, rfl, SqL.of ((same_new hf) _ _ hg), for_it (walk_enum (K := K) (xs := (gapsL bt).map V.int)) (fun i σ H' => ∃ v5 v6, σ = [some (.ref a), some (.ref g), some (.int n), some (.ref f), some (.int (bt.getD i 0 - bt.getD (pvK (clo (.limit, n) bt) i) 0)), v5, v6] ∧ Same H H' ∧ H' f = some (.lst (natV (plc i (clo (.limit, n) bt)))))
      ⟨none, none, by rw [show bt.getD 0 0 - bt.getD (pvK (clo (.limit, n) bt) 0) 0 = 0 from Int.sub_self _]; rfl, same_new hf, upd_same⟩ (fun i σ H' _ ⟨_, _, _, kH, _⟩ => SqL.of (kH _ _ hg)) ?_ ?_⟩
    · rintro i x σ H2 H3 hi ⟨v5, v6, rfl, kH, hF⟩ ⟨T0, x1, x2, rfl, nT, rfl, e1, e2⟩
      obtain ⟨rfl, hi'⟩ := map_at e2
      cases Option.some.inj e1
      rw [gapsL_len] at hi'
      rw [gapsL_get (show i + 1 < bt.length by omega)]
      have kT : Same H (upd H2 T0 (.tup [.int (i : Nat), .int (bt.getD (i + 1) 0 - bt.getD i 0)])) := kH.trans (same_new nT)
      have hT0 : (upd H2 T0 (.tup [.int (i : Nat), .int (bt.getD (i + 1) 0 - bt.getD i 0)])) T0 = some (.tup [.int (i : Nat), .int (bt.getD (i + 1) 0 - bt.getD i 0)]) := upd_same
      have hFT := (same_new (o := .tup [.int (i : Nat), .int (bt.getD (i + 1) 0 - bt.getD i 0)]) nT) _ _ hF
      generalize upd H2 T0 (.tup [.int (i : Nat), .int (bt.getD (i + 1) 0 - bt.getD i 0)]) = HT at kT hT0 hFT ⊢
      have hc := clo_limit (q := n) hA (show i + 1 < bt.length by omega)
      have hpl : (natV (plc i (clo (.limit, n) bt))).length ≤ 40000 := by rw [natV_len]; have := plc_len i (clo (.limit, n) bt); omega
      refine ⟨_, _, rfl, SqT.of hT0, rfl, ?_⟩
      refine ⟨_, _, rfl, ?_⟩
      refine ⟨_, _, rfl, ?_⟩
      refine ⟨rfl, ?_⟩
      walk_at "s"
      have es : bt.getD i 0 - bt.getD (pvK (clo (.limit, n) bt) i) 0 + (bt.getD (i + 1) 0 - bt.getD i 0) = bt.getD (i + 1) 0 - bt.getD (pvK (clo (.limit, n) bt) i) 0 := by omega
      refine ite2 (fun hd => ?_) (fun hd => ?_)
      · have hd := of_decide_eq_true hd
        dsimp only at hd
        have ec : clo (.limit, n) bt i = true := by rw [hc]; exact decide_eq_true (by omega)
        have ep : pvK (clo (.limit, n) bt) (i + 1) = pvK (clo (.limit, n) bt) i := by
          show (if clo (.limit, n) bt i = true then pvK (clo (.limit, n) bt) i else i + 1) = _
          rw [if_pos ec]
        walk_at "s"
        refine ⟨some (.int (i : Nat)), some (.int (bt.getD (i + 1) 0 - bt.getD i 0)), ?_, My.Same.chg kT hf, ?_⟩
        · rw [ep, ← es]
          rfl
        · rw [upd_same, plc_succ, if_pos ec, natV_snoc]
      · have ec : clo (.limit, n) bt i = false := by rw [hc]; exact decide_eq_false (fun z => hd (decide_eq_true (by dsimp only; omega)))
        have ep : pvK (clo (.limit, n) bt) (i + 1) = i + 1 := by
          show (if clo (.limit, n) bt i = true then pvK (clo (.limit, n) bt) i else i + 1) = _
          rw [if_neg (by rw [ec]; decide)]
        walk_at "s"
        refine ⟨some (.int (i : Nat)), some (.int (bt.getD (i + 1) 0 - bt.getD i 0)), ?_, kT, ?_⟩
        · rw [ep, Int.sub_self]
          rfl
        · rw [plc_succ, if_neg (by rw [ec]; decide)]
          exact hFT
    · rintro σ H2 ⟨v5, v6, rfl, kH, hF⟩
      rw [List.length_map, gapsL_len] at hF
      walk_at "s"
      exact k _ f kH hf hF

theorem okgaps_of (T : Txt K mg) : Cal P w K mg base 1 (He.ga K "gaps_of") ["times"] (spGaps K) := by
  obtain ⟨fd, F⟩ := T.d_gaps_of
  refine ⟨fd, F.ok scgaps_of (fun vs H Q E h => ?_) (fun cdv A outer s H vs Q E hr h => ?_), F.bindsN fun _ _ _ _ _ _ us hl => match us, hl with | [_], _ => rfl, F.kp⟩
  · obtain ⟨l, b, ts, rfl, _⟩ := h; rfl
  · obtain ⟨l, b, ts, rfl, hl, hlen, k⟩ := h
    refine ⟨_, PSs.nox (pss_one (ps_ret (pe_lc (own := [("time", 1), ("later", 2)]) (g := (gTup K 2 (gCons (gName 1) (gCons (gName 2) gNil)))) (tt := tYes) (by rfl) scgaps_of.nd (piZAK (K := K) (by rfl) T.n_zip (pa_cons (pv 0) (pa_cons (pe_slice (slAK (K := K)) (pv 0) (po_some pe_int) po_none) pa_nil))) (blkOk_by (own := [("time", 1), ("later", 2)]) (N := ["times", "time", "later"]) (sc := defScope sgaps_of) (by decide +kernel)) (fun _ _ _ _ _ => (pg_tup (by rfl) (pgs_cons (pg_name (i := 1) scgaps_of.nd rfl (Or.inl rfl)) (pgs_cons (pg_name (i := 2) scgaps_of.nd rfl (Or.inl rfl)) pgs_nil)))) (fun _ _ _ _ _ => pts_nil) (fun _ _ _ _ _ => (pe_op op_sub (pv 2) (pv 1)))))), ?_⟩

    refine r_ret ?_
    have hz : ts.length - 1 ≤ 40000 := by omega
    have hd : ((ts.map V.int).drop 1).length = ts.length - 1 := by simp
    refine (lc_pairs (K := K) (j1 := 1) (j2 := 2) (vs := [1, 2]) (n := ts.length - 1) (xs := fun i => (ts.map V.int)[i]?) (ys := fun i => ((ts.map V.int).drop 1)[i]?) (fun _ => true) (fun i => V.int (ts.getD (i + 1) 0 - ts.getD i 0)) hz ?_ (fun _ _ => rfl) (fun i x y H1 e hi ex ey => et_yes) ?_) H (Evl.Ex.refl _) _ ?_
    · intro H1 e R q
      cases b with
      | false =>
        have hl1 : SqL K H1 l (ts.map V.int) := SqL.ext hl e
        refine ⟨_, rfl, ?_⟩
        refine ⟨_, rfl, ?_⟩
        refine ⟨1, rfl, .inl ⟨l, _, rfl, hl1, fun p np => ?_⟩⟩
        rw [cut1]
        have k1 : Same H1 (upd H1 p (.lst ((ts.map V.int).drop 1))) := same_new np
        exact ⟨l, p, ts.map V.int, (ts.map V.int).drop 1, rfl, .inl ⟨SqL.ext hl1 k1, SqL.of upd_same, q _ _ _ k1 (walk_zip (K := K) (by rw [hd, List.length_map]; omega)) fun H3 k3 => ⟨SqL.ext hl1 (Same.trans k1 k3), SqL.of (k3 _ _ upd_same)⟩⟩⟩
      | true =>
        have hl1 : SqT K H1 l (ts.map V.int) := SqT.ext hl e
        refine ⟨_, rfl, ?_⟩
        refine ⟨_, rfl, ?_⟩
        refine ⟨1, rfl, .inr ⟨l, _, rfl, hl1, fun hw => ?_, fun hw p np => ?_⟩⟩
        · have hn : ts = [] := by
            have h1 := hw.1
            simp [HT.sIx] at h1
            first | exact h1 | exact List.length_eq_zero_iff.mp (by omega)
          subst hn
          exact ⟨l, l, [], [], rfl, .inr ⟨hl1, hl1, q _ _ _ (Evl.Ex.refl _) (walk_zipT (K := K) (by simp)) fun H3 k3 => ⟨SqT.ext hl1 k3, SqT.ext hl1 k3⟩⟩⟩
        · rw [cut1]
          have k1 : Same H1 (upd H1 p (.tup ((ts.map V.int).drop 1))) := same_new np
          exact ⟨l, p, ts.map V.int, (ts.map V.int).drop 1, rfl, .inr ⟨SqT.ext hl1 k1, SqT.of upd_same, q _ _ _ k1 (walk_zipT (K := K) (by rw [hd, List.length_map]; omega)) fun H3 k3 => ⟨SqT.ext hl1 (Same.trans k1 k3), SqT.of (k3 _ _ upd_same)⟩⟩⟩
    · intro i x y H1 e hi ex ey _ H2 e2 Q' qq
      obtain ⟨rfl, hi1⟩ := map_at ex
      rw [List.getElem?_drop] at ey
      obtain ⟨rfl, hi2⟩ := map_at ey
      walk_at "s"
      rw [show 1 + i = i + 1 by omega]
      exact qq H2 (Evl.Ex.refl _)
    · intro p H2 np e2 hp
      refine k H2 p e2 np ?_
      rw [hp, given_all]
      unfold gapsL
      rw [List.map_map]
      rfl

theorem okwithout (T : Txt K mg) : Cal P w K mg base 1 (He.ga K "without") ["things", "places"] (spWithout K) := by
  obtain ⟨fd, F⟩ := T.d_without
  refine ⟨fd, F.ok scwithout (fun vs H Q E h => ?_) (fun cdv A outer s H vs Q E hr h => ?_), F.bindsN fun _ _ _ _ _ _ us hl => match us, hl with | [_, _], _ => rfl, F.kp⟩
  · obtain ⟨l, g, xs, c, rfl, _⟩ := h; rfl
  · obtain ⟨l, g, xs, c, rfl, hl, hg, hlen, k⟩ := h
    refine ⟨_, PSs.nox (pss_cons (ps_set (i := 2) scwithout.nd rfl (Or.inl rfl) (pe_lst pa_nil))
  (pss_cons (ps_set (i := 3) scwithout.nd rfl (Or.inl rfl) pe_int)
  (pss_cons (ps_for PassesOwn.never rfl (piLK (K := K) (pv 1)) (pg_name (i := 4) scwithout.nd rfl (Or.inl rfl))
  (pss_cons (ps_if (pt_cmpR op_lt (pv 3) (pv 4) (nomark _)) (pss_one (ps_expr (extK (K := K) (pv 2) (pa_cons (pe_slice (slLK (K := K)) (pv 0) (po_some (pv 3)) (po_some (pv 4))) pa_nil))))
  pss_nil)
  (pss_one (ps_set (i := 3) scwithout.nd rfl (Or.inl rfl) (pe_op op_add (pv 4) pe_int)))))
  (pss_cons (ps_expr (extK (K := K) (pv 2) (pa_cons (pe_slice (slLK (K := K)) (pv 0) (po_some (pv 3)) po_none) pa_nil)))
  (pss_one (ps_ret (pv 2))))))), ?_⟩

    walk_at "s"
    refine fun f hf => ?_
    have hlf : l ≠ f := ne_of_none hl hf
    have hgf : g ≠ f := ne_of_none hg hf
    walk_at "s"
    have hpl := plc_len xs.length c
    refine ⟨⟨_, SqL.of ((same_new hf) _ _ hg)⟩, for_list (K := K) (a := g) (xs := natV (plc xs.length c)) (fun i σ H' => ∃ n : Nat, ∃ v4, σ = [some (.ref l), some (.ref g), some (.ref f), some (.int (n : Int)), v4] ∧ Same H H' ∧ n ≤ xs.length ∧ H' f = some (.lst (((plc n fun j => !c j).map fun j => xs.getD j 0).map V.int)) ∧ (i < (plc xs.length c).length → n ≤ (plc xs.length c).getD i 0) ∧ ∀ j, n ≤ j → j < xs.length → c j = true → ∃ a, i ≤ a ∧ a < (plc xs.length c).length ∧ (plc xs.length c).getD a 0 = j)
      ⟨0, none, rfl, same_new hf, Nat.zero_le _, upd_same, fun _ => Nat.zero_le _, fun j _ h1 h2 => by obtain ⟨a, ha, e⟩ := plc_ix h1 h2; exact ⟨a, Nat.zero_le _, ha, e⟩⟩ (fun i σ H' _ ⟨_, _, _, kH, _⟩ => SqL.of (kH _ _ hg)) ?_ ?_⟩
    · rintro i x σ H2 hx ⟨n, v4, rfl, kH, hn, hF, hlow, hup⟩
      obtain ⟨hi, rfl⟩ := natV_at hx
      have hl' := kH _ _ hl
      have hat := plc_at hi
      have hnp := hlow hi
      generalize hp : (plc xs.length c).getD i 0 = p at hat hnp ⊢
      have hall : ∀ j, n ≤ j → j < p → (!c j) = true := fun j h1 h2 => by
        cases e : c j with
        | false => rfl
        | true =>
          obtain ⟨a, h3, h4, h5⟩ := hup j h1 (by omega) e
          rcases Nat.lt_or_eq_of_le h3 with z | z
          · have := plc_lt h4 z
            omega
          · subst z; omega
      have hF2 : plc (p + 1) (fun j => !c j) = plc n (fun j => !c j) ++ (List.range (p - n)).map (· + n) := by
        rw [plc_succ, if_neg (by rw [hat.2]; decide), plc_run p hnp hall]
      have fin : ∀ H3 : Hp, H3 f = some (.lst (((plc (p + 1) fun j => !c j).map fun j => xs.getD j 0).map V.int)) → p + 1 ≤ xs.length ∧ H3 f = some (.lst (((plc (p + 1) fun j => !c j).map fun j => xs.getD j 0).map V.int)) ∧ (i + 1 < (plc xs.length c).length → p + 1 ≤ (plc xs.length c).getD (i + 1) 0) ∧ ∀ j, p + 1 ≤ j → j < xs.length → c j = true → ∃ a, i + 1 ≤ a ∧ a < (plc xs.length c).length ∧ (plc xs.length c).getD a 0 = j := fun H3 h3 => by
        refine ⟨by omega, h3, fun z => ?_, fun j h1 h2 h4 => ?_⟩
        · have := plc_lt z (show i < i + 1 by omega)
          omega
        · obtain ⟨a, h5, h6, h7⟩ := hup j (by omega) h2 h4
          refine ⟨a, ?_, h6, h7⟩
          rcases Nat.lt_or_eq_of_le h5 with z | z
          · exact z
          · subst z; omega
      have hlenF : (((plc n fun j => !c j).map fun j => xs.getD j 0).map V.int).length ≤ 30000 := by
        rw [List.length_map, List.length_map]
        have := plc_len n (fun j => !c j)
        omega
      walk_at "s"
      refine ite2 (fun hc => ?_) (fun hc => ?_)
      · have hc := of_decide_eq_true hc
        walk_at "s"
        refine ⟨l, _, rfl, SqL.of hl', fun q nq => ?_⟩
        rw [cut_mid hnp (by rw [List.length_map]; omega)]
        have kq := kH.trans (same_new (o := .lst (((xs.map V.int).drop n).take (p - n))) nq)
        have hFq := (same_new (o := .lst (((xs.map V.int).drop n).take (p - n))) nq) _ _ hF
        refine ⟨f, q, _, _, rfl, rfl, hFq, upd_same, ?_, ?_⟩
        · exact Nat.le_of_lt (Evl.sz_lt (by simp only [List.length_take, List.length_drop, List.length_map] at *; omega))
        · walk_at "s"
          refine ⟨My.Same.chg kq hf, fin _ ?_⟩
          rw [upd_same, hF2, List.map_append, List.map_append, ← take_drop_get (xs := xs) (n := n) (p := p) (by omega), List.map_take, List.map_drop]
      · have hc : ¬ n < p := fun z => hc (decide_eq_true (by omega))
        walk_at "s"
        refine fin _ ?_
        have e : p = n := by omega
        rw [hF, hF2, show p - n = 0 by omega]
        simp
    · rintro σ H2 ⟨n, v4, rfl, kH, hn, hF, hlow, hup⟩
      have hl' := kH _ _ hl
      have hall : ∀ j, n ≤ j → j < xs.length → (!c j) = true := fun j h1 h2 => by
        cases e : c j with
        | false => rfl
        | true =>
          obtain ⟨a, h3, h4, h5⟩ := hup j h1 h2 e
          rw [natV_len] at h3
          omega
      have hlenF : (((plc n fun j => !c j).map fun j => xs.getD j 0).map V.int).length ≤ 30000 := by
        rw [List.length_map, List.length_map]
        have := plc_len n (fun j => !c j)
        omega
      walk_at "s"
      refine ⟨l, _, rfl, SqL.of hl', fun q nq => ?_⟩
      rw [cut_from (by rw [List.length_map]; exact hn)]
      have kq := kH.trans (same_new (o := .lst ((xs.map V.int).drop n)) nq)
      have hFq := (same_new (o := .lst ((xs.map V.int).drop n)) nq) _ _ hF
      refine ⟨f, q, _, _, rfl, rfl, hFq, upd_same, ?_, ?_⟩
      · exact Nat.le_of_lt (Evl.sz_lt (by simp only [List.length_drop, List.length_map] at *; omega))
      · walk_at "s"
        refine k _ f (My.Same.chg kq hf) hf ?_
        rw [upd_same]
        unfold sel
        rw [plc_run xs.length hn hall, List.map_append, List.map_append, ← take_drop_get (xs := xs) (n := n) (p := xs.length) (Nat.le_refl _), List.map_take, List.map_drop]
        congr 2
        rw [List.take_of_length_le (by simp)]

theorem okwithout_behind (T : Txt K mg) : Cal P w K mg base 2 (He.ga K "without_behind") ["things", "places"] (spBehind K) := by
  obtain ⟨fdwithout, Gwithout, bwithout, kwithout⟩ := okwithout (P := P) (w := w) (base := base) T
  obtain ⟨fd, F⟩ := T.d_without_behind
  refine ⟨fd, F.ok scwithout_behind (fun vs H Q E h => ?_) (fun cdv A outer s H vs Q E hr h => ?_), F.bindsN fun _ _ _ _ _ _ us hl => match us, hl with | [_, _], _ => rfl, F.kp⟩
  · obtain ⟨l, g, xs, c, rfl, _⟩ := h; rfl
  · obtain ⟨l, g, xs, c, rfl, hl, hg, hlen, k⟩ := h
    refine ⟨_, PSs.nox (pss_one (ps_ret (pe_op (catK (K := K)) (pe_slice (slLK (K := K)) (pv 0) po_none (po_some pe_int)) (pe_call Gwithout (hrM hr) rfl T.g_without kwithout bwithout .nil pass0 (pa_cons (pe_slice (slLK (K := K)) (pv 0) (po_some pe_int) po_none) (pa_cons (pv 1) pa_nil)))))), ?_⟩

    walk_at "s"
    refine ⟨l, _, rfl, SqL.of hl, fun q1 n1 => ?_⟩
    rw [cut_one]
    have k1 : Same H (upd H q1 (.lst ((xs.map V.int).take 1))) := same_new n1
    have h1 : (upd H q1 (.lst ((xs.map V.int).take 1))) q1 = some (.lst ((xs.map V.int).take 1)) := upd_same
    generalize upd H q1 (.lst ((xs.map V.int).take 1)) = H1 at k1 h1 ⊢
    have hl1 := k1 _ _ hl
    have hg1 := k1 _ _ hg
    walk_at "s"
    refine ⟨l, _, rfl, SqL.of hl1, fun q2 n2 => ?_⟩
    rw [cut1, ← List.map_drop]
    have k2 : Same H1 (upd H1 q2 (.lst ((xs.drop 1).map V.int))) := same_new n2
    refine ⟨_, rfl, ?_⟩
    refine ⟨q2, g, xs.drop 1, c, rfl, upd_same, by rw [List.length_drop]; exact k2 _ _ hg1, by rw [List.length_drop]; omega, fun H' r k3 nr hr => ?_⟩
    have k13 := Same.trans k2 k3
    have hs := sel_len (xs.drop 1) (fun i => !c i)
    rw [List.length_drop] at hs
    refine ⟨q1, r, _, _, rfl, rfl, SqL.of (k13 _ _ h1), SqL.of hr, Nat.le_of_lt (Evl.sz_lt (by rw [List.length_take, List.length_map, List.length_map]; omega)), fun z nz => ?_⟩
    refine k _ z (Same.trans (Same.trans k1 k13) (same_new nz)) (Evl.fresh_back (Same.trans k1 k13) nz) ?_
    rw [upd_same, plc_shift (c := c) rfl, List.map_append, List.map_take]

theorem okwidened (T : Txt K mg) : Cal P w K mg base 2 (He.ga K "widened") ["gaps", "places", "toward"] (spWiden K) := by
  obtain ⟨fdwithout, Gwithout, bwithout, kwithout⟩ := okwithout (P := P) (w := w) (base := base) T
  obtain ⟨fd, F⟩ := T.d_widened
  refine ⟨fd, F.ok scwidened (fun vs H Q E h => ?_) (fun cdv A outer s H vs Q E hr h => ?_), F.bindsN fun _ _ _ _ _ _ us hl => match us, hl with | [_, _, _], _ => rfl, F.kp⟩
  · obtain ⟨g, p, bt, c, tw, rfl, _⟩ := h; rfl
  · obtain ⟨g, p, bt, c, tw, rfl, hg, hp, ⟨hb0, hlen, hcl⟩, k⟩ := h
    refine ⟨_, PSs.nox (pss_cons (ps_set (i := 3) scwidened.nd rfl (Or.inl rfl) (pe_op (catK (K := K)) (pv 0) (pe_lst (pa_cons pe_int pa_nil))))
  (pss_cons (ps_for PassesOwn.never rfl (piLK (K := K) (pe_revS (K := K) (pv 1) (po_some (pv 2)))) (pg_name (i := 4) scwidened.nd rfl (Or.inl rfl))
  (pss_one (ps_augS (pv 3) (pe_op op_add (pv 4) (pv 2)) (pgetK (K := K)) (pe_ix (ixLK (K := K)) (pv 3) (pv 4) (fun _ _ => rfl)) ip_add set_list)))
  (pss_one (ps_ret (pe_slice (slLK (K := K)) (pe_call Gwithout (hrM hr) rfl T.g_without kwithout bwithout .nil pass0 (pa_cons (pv 3) (pa_cons (pv 1) pa_nil))) po_none (po_some (pe_un un_neg pe_int))))))), ?_⟩

    walk_at "s"
    refine fun z nz => ?_
    have kz : Same H (upd H z (.lst [.int 0])) := same_new nz
    refine ⟨g, z, (gapsL bt).map V.int, [.int 0], rfl, rfl, SqL.of (kz _ _ hg), SqL.of upd_same, Nat.le_of_lt (Evl.sz_lt (by rw [List.length_map, gapsL_len]; simp; omega)), fun w nw => ?_⟩
    have k1 : Same H (upd (upd H z (.lst [.int 0])) w (.lst ((gapsL bt).map V.int ++ [.int 0]))) := Same.trans kz (same_new nw)
    have hw1 : (upd (upd H z (.lst [.int 0])) w (.lst ((gapsL bt).map V.int ++ [.int 0]))) w = some (.lst ((wide0 bt).map V.int)) := by
      rw [upd_same]
      unfold wide0
      rw [List.map_append]
      rfl
    have hw0 : H w = none := Evl.fresh_back kz nw
    generalize upd (upd H z (.lst [.int 0])) w (.lst ((gapsL bt).map V.int ++ [.int 0])) = H1 at k1 hw1 ⊢
    have hg1 := k1 _ _ hg
    have hp1 := k1 _ _ hp
    walk_at "s"
    refine ⟨p, _, tw, rfl, SqL.of hp1, rfl, fun r nr => ?_⟩
    have kr : Same H1 (upd H1 r (.lst (if tw = true then (natV (plc (bt.length - 1) c)).reverse else natV (plc (bt.length - 1) c)))) := same_new nr
    have hrw : r ≠ w := (ne_of_none hw1 nr).symm
    cases tw with
    | true =>
      refine ⟨r, rfl, ⟨_, SqL.of upd_same⟩, for_list (K := K) (a := r) (xs := (natV (plc (bt.length - 1) c)).reverse) (fun i σ H' => ∃ v4, ∃ ws : List Int, σ = [some (.ref g), some (.ref p), some (.int (-1)), some (.ref w), v4] ∧ Same H H' ∧ H' r = some (.lst ((natV (plc (bt.length - 1) c)).reverse)) ∧ H' w = some (.lst (ws.map V.int)) ∧ BInv c bt i ws)
        ⟨none, wide0 bt, rfl, Same.trans k1 kr, upd_same, kr _ _ hw1, BInv.init hb0⟩ (fun i σ H' _ ⟨_, _, _, _, hr2, _⟩ => SqL.of hr2) ?_ ?_⟩
      · rintro i x σ H2 hx ⟨v4, ws, rfl, kH, hr2, hw2, I⟩
        have hi : i < (plc (bt.length - 1) c).length := by
          have := (List.getElem?_eq_some_iff.mp hx).1
          simpa [natV_len] using this
        have hx2 : x = V.int (((plc (bt.length - 1) c).getD ((plc (bt.length - 1) c).length - 1 - i) 0 : Nat) : Int) := by
          rw [List.getElem?_reverse (by rw [natV_len]; exact hi), natV_len] at hx
          exact (natV_at hx).2
        subst hx2
        obtain ⟨hb, J⟩ := I.step hi rfl
        generalize (plc (bt.length - 1) c).getD ((plc (bt.length - 1) c).length - 1 - i) 0 = j at hb J ⊢
        have hwl := I.len
        have hix : ∃ j', ((j' = j - 1 ∧ 0 < j) ∨ (j' = bt.length - 1 ∧ j = 0)) ∧ ixN ws.length ((j : Int) + -1) = some j' := by
          by_cases e : j = 0
          · refine ⟨bt.length - 1, .inr ⟨rfl, e⟩, ?_⟩
            unfold ixN
            rw [if_neg (by omega), if_pos (by omega)]
            congr 1
            omega
          · refine ⟨j - 1, .inl ⟨rfl, by omega⟩, ?_⟩
            unfold ixN
            rw [if_pos (by omega), if_pos (by omega)]
            congr 1
            omega
        obtain ⟨j', hj', hjx⟩ := hix
        have J := J j' hj'
        have hj'l : j' < ws.length := by omega
        have a1 : atI (ws.map V.int) ((j : Int) + -1) = some (V.int (ws.getD j' 0)) := by
          unfold atI
          rw [List.length_map, hjx]
          show (ws.map V.int)[j']? = _
          simp [hj'l]
        have a2 : atI (ws.map V.int) ((j : Nat) : Int) = some (V.int (ws.getD j 0)) := ix_nat (by omega) rfl
        walk_at "s"
        refine ⟨w, _, _, j', rfl, rfl, hw2, by rw [List.length_map]; exact hjx, ?_⟩
        refine ⟨_, ws.set j' (ws.getD j' 0 + ws.getD j 0), rfl, My.Same.chg kH hw0, by rw [upd_ne hrw]; exact hr2, ?_, J⟩
        rw [upd_same, List.map_set]
      · rintro σ H2 ⟨v4, ws, rfl, kH, hr2, hw2, I⟩
        rw [List.length_reverse, natV_len] at I
        have hp2 := kH _ _ hp
        have hwl := I.len
        have en : bt.length = (bt.length - 1) + 1 := by omega
        have epl : ∀ d : Nat → Bool, d (bt.length - 1) = true → plc bt.length d = plc (bt.length - 1) d ++ [bt.length - 1] := fun d hd => by
          conv => lhs; rw [en, plc_succ, if_pos hd]
        have epl0 : plc bt.length c = plc (bt.length - 1) c := by
          conv => lhs; rw [en, plc_succ, if_neg (by rw [hcl]; decide)]
        walk_at "s"
        refine ⟨w, p, ws, c, rfl, hw2, by rw [hwl, epl0]; exact hp2, by omega, fun H' q k3 nq hq => ?_⟩
        have hsel : sel ws (fun i => !c i) = (plc (bt.length - 1) fun i => !c i).map (fun i => ws.getD i 0) ++ [ws.getD (bt.length - 1) 0] := by
          unfold sel
          rw [hwl, epl _ (by rw [hcl]; rfl), List.map_append]
          rfl
        walk_at "s"
        refine ⟨q, _, rfl, SqL.of hq, fun z nz => ?_⟩
        rw [cut_butlast (by rw [hsel]; simp), hsel, List.map_append, List.map_singleton, List.dropLast_concat]
        refine k _ z (Same.trans (Same.trans kH k3) (same_new nz)) (Evl.fresh_back (Same.trans kH k3) nz) ?_
        rw [upd_same]
        congr 2
        have e2 : (plc (bt.length - 1) fun i => !c i).map (fun i => ws.getD i 0) = (plc (bt.length - 1) fun i => !c i).map (wB c bt) := by
          apply List.map_congr_left
          intro i hi
          have := (plc_mem.mp hi).1
          exact I.all (by omega)
        rw [e2]
        exact congrArg (List.map V.int) (widenB (n := bt.length - 1) (c := c) en hcl)

    | false =>
      refine ⟨r, rfl, ⟨_, SqL.of upd_same⟩, for_list (K := K) (a := r) (xs := natV (plc (bt.length - 1) c)) (fun i σ H' => ∃ v4, ∃ ws : List Int, σ = [some (.ref g), some (.ref p), some (.int 1), some (.ref w), v4] ∧ Same H H' ∧ H' r = some (.lst (natV (plc (bt.length - 1) c))) ∧ H' w = some (.lst (ws.map V.int)) ∧ FInv c bt i ws)
        ⟨none, wide0 bt, rfl, Same.trans k1 kr, upd_same, kr _ _ hw1, FInv.init hb0⟩ (fun i σ H' _ ⟨_, _, _, _, hr2, _⟩ => SqL.of hr2) ?_ ?_⟩
      · rintro i x σ H2 hx ⟨v4, ws, rfl, kH, hr2, hw2, I⟩
        obtain ⟨hi, rfl⟩ := natV_at hx
        obtain ⟨hb, J⟩ := I.step hi rfl
        generalize (plc (bt.length - 1) c).getD i 0 = j at hb J ⊢
        have hwl := I.len
        have a1 : atI (ws.map V.int) ((j : Int) + 1) = some (V.int (ws.getD (j + 1) 0)) := ix_nat (by omega) rfl
        have a2 : atI (ws.map V.int) ((j : Nat) : Int) = some (V.int (ws.getD j 0)) := ix_nat (by omega) rfl
        have hjx : ixN ws.length ((j : Int) + 1) = some (j + 1) := by
          unfold ixN
          rw [if_pos (by omega), if_pos (by omega)]
          congr 1
        walk_at "s"
        refine ⟨w, _, _, j + 1, rfl, rfl, hw2, by rw [List.length_map]; exact hjx, ?_⟩
        refine ⟨_, ws.set (j + 1) (ws.getD (j + 1) 0 + ws.getD j 0), rfl, My.Same.chg kH hw0, by rw [upd_ne hrw]; exact hr2, ?_, J⟩
        rw [upd_same, List.map_set]
      · rintro σ H2 ⟨v4, ws, rfl, kH, hr2, hw2, I⟩
        rw [natV_len] at I
        have hp2 := kH _ _ hp
        have hwl := I.len
        have en : bt.length = (bt.length - 1) + 1 := by omega
        have epl : ∀ d : Nat → Bool, d (bt.length - 1) = true → plc bt.length d = plc (bt.length - 1) d ++ [bt.length - 1] := fun d hd => by
          conv => lhs; rw [en, plc_succ, if_pos hd]
        have epl0 : plc bt.length c = plc (bt.length - 1) c := by
          conv => lhs; rw [en, plc_succ, if_neg (by rw [hcl]; decide)]
        walk_at "s"
        refine ⟨w, p, ws, c, rfl, hw2, by rw [hwl, epl0]; exact hp2, by omega, fun H' q k3 nq hq => ?_⟩
        have hsel : sel ws (fun i => !c i) = (plc (bt.length - 1) fun i => !c i).map (fun i => ws.getD i 0) ++ [ws.getD (bt.length - 1) 0] := by
          unfold sel
          rw [hwl, epl _ (by rw [hcl]; rfl), List.map_append]
          rfl
        walk_at "s"
        refine ⟨q, _, rfl, SqL.of hq, fun z nz => ?_⟩
        rw [cut_butlast (by rw [hsel]; simp), hsel, List.map_append, List.map_singleton, List.dropLast_concat]
        refine k _ z (Same.trans (Same.trans kH k3) (same_new nz)) (Evl.fresh_back (Same.trans kH k3) nz) ?_
        rw [upd_same]
        congr 2
        have e2 : (plc (bt.length - 1) fun i => !c i).map (fun i => ws.getD i 0) = (plc (bt.length - 1) fun i => !c i).map (wF c bt) := by
          apply List.map_congr_left
          intro i hi
          have := (plc_mem.mp hi).1
          exact I.all (by omega)
        rw [e2]
        exact congrArg (List.map V.int) (widenF (n := bt.length - 1) (c := c) en)

theorem oklag_of (T : Txt K mg) : Cal P w K mg base 2 (He.ga K "lag_of") ["members"] (spLagOf K) := by
  obtain ⟨fdDelay_lag, GDelay_lag, bDelay_lag, kDelay_lag⟩ := okDelay_lag (P := P) (w := w) (base := base) T
  obtain ⟨fdFirst_lag, GFirst_lag, bFirst_lag, kFirst_lag⟩ := okFirst_lag (P := P) (w := w) (base := base) T
  obtain ⟨fdLast_lag, GLast_lag, bLast_lag, kLast_lag⟩ := okLast_lag (P := P) (w := w) (base := base) T
  obtain ⟨fdLimit_lag, GLimit_lag, bLimit_lag, kLimit_lag⟩ := okLimit_lag (P := P) (w := w) (base := base) T
  obtain ⟨fd, F⟩ := T.d_lag_of
  refine ⟨fd, F.ok sclag_of (fun vs H Q E h => ?_) (fun cdv A outer s H vs Q E hr h => ?_), F.bindsN fun _ _ _ _ _ _ us hl => match us, hl with | [_], _ => rfl, F.kp⟩
  · obtain ⟨m, b, ms, xs, rfl, _⟩ := h; rfl
  · obtain ⟨m, b, ms, xs, rfl, hm, hE, hlen, k⟩ := h
    refine ⟨_, PSs.nox (pss_one (ps_ret (pe_callB (sumK (K := K) rfl) (by rfl) T.n_sum (by decide +kernel) (pa_cons (pe_lc (own := [("member", 1)]) (g := (gName 1)) (tt := tYes) (by rfl) sclag_of.nd (pi_sq (K := K) (pv 0)) (blkOk_by (own := [("member", 1)]) (N := ["members", "member"]) (sc := defScope slag_of) (by decide +kernel)) (fun _ _ _ _ _ => (pg_name (i := 1) sclag_of.nd rfl (Or.inl rfl))) (fun _ _ _ _ _ => pts_nil) (fun _ _ _ _ _ => (pe_either (pe_meth0 (pv 1) T.c_Last T.m_Last_lag GLast_lag (hrM hr) bLast_lag .nil pass0) (pe_either (pe_meth0 (pv 1) T.c_First T.m_First_lag GFirst_lag (hrM hr) bFirst_lag .nil pass0) (pe_either (pe_meth0 (pv 1) T.c_Limit T.m_Limit_lag GLimit_lag (hrM hr) bLimit_lag .nil pass0) (pe_meth0 (pv 1) T.c_Delay T.m_Delay_lag GDelay_lag (hrM hr) bDelay_lag .nil pass0)))))) pa_nil)))), ?_⟩

    have hxs : xs.length = ms.length := hE.1
    refine r_ret (r_cb1 ?_)
    refine comp_relG (K := K) (xs := fun i v => xs[i]? = some v) (fun i H1 x H2 y => y) ms (fun _ m v => v = V.int (lagOf m)) (fun _ _ _ _ _ z => z) (by omega) (by rw [← hxs]; exact wi_sq (Evl.ev_var rfl) hm) (fun _ => rfl) ?_ ?_
    · intro i x mb H1 e hmb hx Q' qq
      obtain ⟨a, dx, rfl, ha⟩ := hE.2 i mb x hmb hx
      have ha := e _ _ ha
      obtain ⟨kd, n⟩ := mb
      cases kd
      · exact .inl ⟨_, rfl, a, dx, _, rfl, ha, rfl, a, dx, n, rfl, ha, qq _ _ (Same.refl _) (by rw [lag_last])⟩
      · exact .inr (.inl ⟨_, rfl, a, dx, _, rfl, ha, rfl, a, dx, n, rfl, ha, qq _ _ (Same.refl _) (by rw [lag_first])⟩)
      · exact .inr (.inr (.inl ⟨_, rfl, a, dx, _, rfl, ha, rfl, a, dx, n, rfl, ha, qq _ _ (Same.refl _) (by rw [lag_limit])⟩))
      · exact .inr (.inr (.inr ⟨_, rfl, a, dx, _, rfl, ha, rfl, a, dx, n, rfl, ha, qq _ _ (Same.refl _) (by rw [lag_delay])⟩))
    · intro p H2 ws np k2 hp hW
      refine ⟨p, _, rfl, SqL.of (by rw [hp, each_int_map hW]), ?_⟩
      rw [late_sum]
      exact k H2 k2

theorem okcheck_stream (T : Txt K mg) : Cal P w K mg base 3 (He.ga K "check_stream") ["stream"] (spCheckS K) := by
  obtain ⟨fdis_listing, Gis_listing, bis_listing, kis_listing⟩ := okis_listing (P := P) (w := w) (base := base) T
  obtain ⟨fd, F⟩ := T.d_check_stream
  refine ⟨fd, F.ok sccheck_stream (fun vs H Q E h => ?_) (fun cdv A outer s H vs Q E hr h => ?_), F.bindsN fun _ _ _ _ _ _ us hl => match us, hl with | [_], _ => rfl, F.kp⟩
  · obtain ⟨l, b, ts, rfl, _⟩ := h; rfl
  · obtain ⟨l, b, ts, rfl, hl, ⟨hA, hlen⟩, k⟩ := h
    refine ⟨_, PSs.nox (pss_cons (ps_if (pt_not (pt_val (pe_call Gis_listing (hrM hr) rfl T.g_is_listing kis_listing bis_listing .nil pass0 (pa_cons (pv 0) pa_nil)))) (pss_one ps_never)
  pss_nil)
  (pss_cons (ps_set (i := 1) sccheck_stream.nd rfl (Or.inl rfl) pe_non)
  (pss_one (ps_for PassesOwn.never rfl (pi_enumS (K := K) (by rfl) T.n_enumerate (pa_cons (pv 0) pa_nil)) (pg_tup (by rfl) (pgs_cons (pg_name (i := 2) sccheck_stream.nd rfl (Or.inl rfl)) (pgs_cons (pg_name (i := 3) sccheck_stream.nd rfl (Or.inl rfl)) pgs_nil)))
  (pss_cons (ps_if (PW.pt (pw_or (pt_not (pt_val (pe_callB (isiK (K := K)) (by rfl) T.n_isinstance (by decide +kernel) (pa_cons (pv 3) (pa_cons (pe_bltn (v := .ty "int") (by rfl) T.n_int (by decide +kernel) rfl) pa_nil))))) (pw_or (pt_cmpR op_isXB (pv 3) pe_bl (nomark _)) (pw_or (pt_cmpR op_isXB (pv 3) pe_bl (nomark _)) (pw_or1 (PW.pt (pw_and (pt_cmpR op_notN (pv 1) pe_non (nomark _)) (pw_and1 (pt_cmpR op_le (pv 3) (pv 1) (nomark _)))))))))) (pss_one ps_never)
  pss_nil)
  (pss_one (ps_set (i := 1) sccheck_stream.nd rfl (Or.inl rfl) (pv 3)))))))), ?_⟩

    walk_at "s"
    refine ⟨_, _, true, rfl, hl.ty, kit_lt K b, fun H1 k1 => ?_⟩
    walk_at "s"
    refine ⟨_, b, _, rfl, hl.ext k1, for_it (walk_enumS (K := K) (b := b) (xs := ts.map V.int)) (fun i σ H' => ∃ v1 v2, σ = [some (.ref l), some (if i = 0 then .non else .int (ts.getD (i - 1) 0)), v1, v2] ∧ Same H H') ⟨none, none, rfl, k1⟩ (fun i σ H' _ ⟨_, _, _, kH⟩ => hl.ext kH) ?_ ?_⟩
    · rintro i x σ H2 H3 hi ⟨v1, v2, rfl, kH⟩ ⟨T0, x1, x2, rfl, nT, rfl, e1, e2⟩
      obtain ⟨rfl, hi'⟩ := map_at e2
      cases Option.some.inj e1
      have kT : Same H (upd H2 T0 (.tup [.int (i : Nat), .int (ts.getD i 0)])) := kH.trans (same_new nT)
      have hT0 : (upd H2 T0 (.tup [.int (i : Nat), .int (ts.getD i 0)])) T0 = some (.tup [.int (i : Nat), .int (ts.getD i 0)]) := upd_same
      generalize upd H2 T0 (.tup [.int (i : Nat), .int (ts.getD i 0)]) = HT at kT hT0 ⊢
      refine ⟨_, _, rfl, SqT.of hT0, rfl, ?_⟩
      refine ⟨_, _, rfl, ?_⟩
      refine ⟨_, _, rfl, ?_⟩
      refine ⟨rfl, ?_⟩
      have ef : (if i + 1 = 0 then V.non else V.int (ts.getD (i + 1 - 1) 0)) = V.int (ts.getD i 0) := by rw [if_neg (by omega)]; rfl
      rw [ef]
      have two : ∀ v : V, (v = .non ∨ ∃ z : Int, v = .int z ∧ z < ts.getD i 0) → v = (if i = 0 then V.non else V.int (ts.getD (i - 1) 0)) → True := fun _ _ _ => trivial
      rcases Nat.eq_zero_or_pos i with e0 | e0
      · rw [if_pos e0]
        walk_at "s"
        refine ⟨_, _, _, _, true, rfl, .ty _, .base (.int _), kit_ty (by decide +kernel), ?_⟩
        walk_at "s"
        refine ⟨fun _ z => (by cases z), _, rfl, ?_⟩
        refine ite2 (fun hc => absurd (of_decide_eq_true hc) (fun z => by cases z)) (fun _ => ?_)
        walk_at "s"
        refine ⟨fun _ z => (by cases z), _, rfl, ?_⟩
        refine ite2 (fun hc => absurd (of_decide_eq_true hc) (fun z => by cases z)) (fun _ => ?_)
        walk_at "s"
        exact kT
      · rw [if_neg (by omega)]
        have hlt : ts.getD (i - 1) 0 < ts.getD i 0 := by
          have := asc_lt hA i (i - 1) (by omega) hi' (by omega)
          have g1 : ts.getD i 0 = ts[i] := by simp [hi']
          have g2 : ts.getD (i - 1) 0 = ts[i - 1] := by simp [show i - 1 < ts.length by omega]
          omega
        walk_at "s"
        refine ⟨_, _, _, _, true, rfl, .ty _, .base (.int _), kit_ty (by decide +kernel), ?_⟩
        walk_at "s"
        refine ⟨fun _ z => (by cases z), _, rfl, ?_⟩
        refine ite2 (fun hc => absurd (of_decide_eq_true hc) (fun z => by cases z)) (fun _ => ?_)
        walk_at "s"
        refine ⟨fun _ z => (by cases z), _, rfl, ?_⟩
        refine ite2 (fun hc => absurd (of_decide_eq_true hc) (fun z => by cases z)) (fun _ => ?_)
        walk_at "s"
        refine ite2 (fun hd => absurd (of_decide_eq_true hd) (by omega)) (fun _ => ?_)
        walk_at "s"
        exact kT
    · rintro σ H2 ⟨v1, v2, rfl, kH⟩
      walk_at "s"
      exact k _ kH

theorem oktold_and_closed (T : Txt K mg) : Cal P w K mg base 6 (He.ga K "told_and_closed") ["members", "stream"] (spTAC K) := by
  obtain ⟨fdDelay_quiet, GDelay_quiet, bDelay_quiet, kDelay_quiet⟩ := okDelay_quiet (P := P) (w := w) (base := base) T
  obtain ⟨fdFirst_closed, GFirst_closed, bFirst_closed, kFirst_closed⟩ := okFirst_closed (P := P) (w := w) (base := base) T
  obtain ⟨fdFirst_kind, GFirst_kind, bFirst_kind, kFirst_kind⟩ := okFirst_kind (P := P) (w := w) (base := base) T
  obtain ⟨fdFirst_quiet, GFirst_quiet, bFirst_quiet, kFirst_quiet⟩ := okFirst_quiet (P := P) (w := w) (base := base) T
  obtain ⟨fdLast_closed, GLast_closed, bLast_closed, kLast_closed⟩ := okLast_closed (P := P) (w := w) (base := base) T
  obtain ⟨fdLast_kind, GLast_kind, bLast_kind, kLast_kind⟩ := okLast_kind (P := P) (w := w) (base := base) T
  obtain ⟨fdLast_quiet, GLast_quiet, bLast_quiet, kLast_quiet⟩ := okLast_quiet (P := P) (w := w) (base := base) T
  obtain ⟨fdLimit_closed, GLimit_closed, bLimit_closed, kLimit_closed⟩ := okLimit_closed (P := P) (w := w) (base := base) T
  obtain ⟨fdLimit_kind, GLimit_kind, bLimit_kind, kLimit_kind⟩ := okLimit_kind (P := P) (w := w) (base := base) T
  obtain ⟨fdLimit_quiet, GLimit_quiet, bLimit_quiet, kLimit_quiet⟩ := okLimit_quiet (P := P) (w := w) (base := base) T
  obtain ⟨fdgaps_of, Ggaps_of, bgaps_of, kgaps_of⟩ := okgaps_of (P := P) (w := w) (base := base) T
  obtain ⟨fdwidened, Gwidened, bwidened, kwidened⟩ := okwidened (P := P) (w := w) (base := base) T
  obtain ⟨fdwithout, Gwithout, bwithout, kwithout⟩ := okwithout (P := P) (w := w) (base := base) T
  obtain ⟨fdwithout_behind, Gwithout_behind, bwithout_behind, kwithout_behind⟩ := okwithout_behind (P := P) (w := w) (base := base) T
  obtain ⟨fd, F⟩ := T.d_told_and_closed
  refine ⟨fd, F.ok sctold_and_closed (fun vs H Q E h => ?_) (fun cdv A outer s H vs Q E hr h => ?_), F.bindsN fun _ _ _ _ _ _ us hl => match us, hl with | [_, _], _ => rfl, F.kp⟩
  · obtain ⟨m, l, b, ms, xs, ts, rfl, _⟩ := h; rfl
  · obtain ⟨m, l, b, ms, xs, ts, rfl, hm, hE, hl, ⟨hA, hlen, hml⟩, k⟩ := h
    refine ⟨_, PSs.nox (pss_cons (ps_set (i := 2) sctold_and_closed.nd rfl (Or.inl rfl) (pe_listRg rfl (by rfl) T.n_list (prg_1 (by rfl) T.n_range (pe_callB (lenK (K := K)) (by rfl) T.n_len (by decide +kernel) (pa_cons (pv 1) pa_nil)))))
  (pss_cons (ps_set (i := 3) sctold_and_closed.nd rfl (Or.inl rfl) (pe_lst pa_nil))
  (pss_cons (ps_set (i := 4) sctold_and_closed.nd rfl (Or.inl rfl) (pe_call Ggaps_of (hrM hr) rfl T.g_gaps_of kgaps_of bgaps_of .nil pass0 (pa_cons (pv 1) pa_nil)))
  (pss_cons (ps_set (i := 5) sctold_and_closed.nd rfl (Or.inl rfl) (pe_callBK (minDK (K := K) rfl (hu64 hr)) (by rfl) T.n_min (by decide +kernel) (pa_cons (pv 4) pa_nil) (pk_cons pe_int pk_nil)))
  (pss_cons (ps_for PassesOwn.never rfl (piTK (K := K) (pv 0)) (pg_name (i := 6) sctold_and_closed.nd rfl (Or.inl rfl))
  (pss_cons (ps_set (i := 7) sctold_and_closed.nd rfl (Or.inl rfl) (pe_lst pa_nil))
  (pss_cons (ps_if (PW.pt (pw_and (pt_cmpR op_gt (pe_callB (lenK (K := K)) (by rfl) T.n_len (by decide +kernel) (pa_cons (pv 4) pa_nil)) pe_int (nomark _)) (pw_and1 (pt_cmpR op_gt (pe_either (pe_meth0 (pv 6) T.c_Last T.m_Last_quiet GLast_quiet (hrM hr) bLast_quiet .nil pass0) (pe_either (pe_meth0 (pv 6) T.c_First T.m_First_quiet GFirst_quiet (hrM hr) bFirst_quiet .nil pass0) (pe_either (pe_meth0 (pv 6) T.c_Limit T.m_Limit_quiet GLimit_quiet (hrM hr) bLimit_quiet .nil pass0) (pe_meth0 (pv 6) T.c_Delay T.m_Delay_quiet GDelay_quiet (hrM hr) bDelay_quiet .nil pass0)))) (pv 5) (nomark _))))) (pss_cons (ps_set (i := 7) sctold_and_closed.nd rfl (Or.inl rfl) (pe_either (pe_meth (pv 6) T.c_Last T.m_Last_closed GLast_closed (hrM hr) bLast_closed .nil pass0 (pa_cons (pv 4) pa_nil)) (pe_either (pe_meth (pv 6) T.c_First T.m_First_closed GFirst_closed (hrM hr) bFirst_closed .nil pass0 (pa_cons (pv 4) pa_nil)) (pe_meth (pv 6) T.c_Limit T.m_Limit_closed GLimit_closed (hrM hr) bLimit_closed .nil pass0 (pa_cons (pv 4) pa_nil)))))
  (pss_cons (ps_set (i := 8) sctold_and_closed.nd rfl (Or.inl rfl) (pe_ifExp (pt_cmpR op_eq (pe_either (pe_meth0 (pv 6) T.c_Last T.m_Last_kind GLast_kind (hrM hr) bLast_kind .nil pass0) (pe_either (pe_meth0 (pv 6) T.c_First T.m_First_kind GFirst_kind (hrM hr) bFirst_kind .nil pass0) (pe_meth0 (pv 6) T.c_Limit T.m_Limit_kind GLimit_kind (hrM hr) bLimit_kind .nil pass0))) pe_str (nomark _)) (pe_un un_neg pe_int) pe_int))
  (pss_cons (ps_set (i := 2) sctold_and_closed.nd rfl (Or.inl rfl) (pe_ifExp (pt_cmpR op_lt (pv 8) pe_int (nomark _)) (pe_call Gwithout (hrM hr) rfl T.g_without kwithout bwithout .nil pass0 (pa_cons (pv 2) (pa_cons (pv 7) pa_nil))) (pe_call Gwithout_behind (hrM hr) rfl T.g_without_behind kwithout_behind bwithout_behind .nil pass0 (pa_cons (pv 2) (pa_cons (pv 7) pa_nil)))))
  (pss_cons (ps_if (pt_cmpR op_lt (pe_op op_mul pe_int (pe_callB (lenK (K := K)) (by rfl) T.n_len (by decide +kernel) (pa_cons (pv 7) pa_nil))) (pe_callB (lenK (K := K)) (by rfl) T.n_len (by decide +kernel) (pa_cons (pv 4) pa_nil)) (nomark _)) (pss_one (ps_set (i := 4) sctold_and_closed.nd rfl (Or.inl rfl) (pe_call Gwidened (hrM hr) rfl T.g_widened kwidened bwidened .nil pass0 (pa_cons (pv 4) (pa_cons (pv 7) (pa_cons (pv 8) pa_nil))))))
  (pss_one (ps_set (i := 4) sctold_and_closed.nd rfl (Or.inl rfl) (pe_call Ggaps_of (hrM hr) rfl T.g_gaps_of kgaps_of bgaps_of .nil pass0 (pa_cons (pe_lc (own := [("number", 9)]) (g := (gName 9)) (tt := tYes) (by rfl) sctold_and_closed.nd (piLK (K := K) (pv 2)) (blkOk_by (own := [("number", 9)]) (N := ["members", "stream", "numbers", "closed", "gaps", "least", "member", "places", "toward", "number"]) (sc := defScope stold_and_closed) (by decide +kernel)) (fun _ _ _ _ _ => (pg_name (i := 9) sctold_and_closed.nd rfl (Or.inl rfl))) (fun _ _ _ _ _ => pts_nil) (fun _ _ _ _ _ => (pe_ix (ixSK (K := K)) (pv 1) (pv 9) (fun _ _ => rfl)))) pa_nil)))))
  (pss_one (ps_set (i := 5) sctold_and_closed.nd rfl (Or.inl rfl) (pe_callBK (minDK (K := K) rfl (hu64 hr)) (by rfl) T.n_min (by decide +kernel) (pa_cons (pv 4) pa_nil) (pk_cons pe_int pk_nil))))))))
  pss_nil)
  (pss_one (ps_expr (appK (K := K) (pv 3) (pa_cons (pv 7) pa_nil)))))))
  (pss_one (ps_ret (pe_tup (pa_cons (pv 2) (pa_cons (pv 3) pa_nil)))))))))), ?_⟩

    walk_at "s"
    refine ⟨l, _, rfl, sq_isI hl, _, rfl, RgOk.of_le (by omega) (by rw [List.length_map]; omega) (by omega) (by omega), fun a ha => ?_⟩
    rw [List.length_map, rg0]
    have k0 : Same H (upd H a (.lst (((List.range ts.length).map fun (i : Nat) => (i : Int)).map V.int))) := same_new ha
    have hA0 : (upd H a (.lst (((List.range ts.length).map fun (i : Nat) => (i : Int)).map V.int))) a = some (.lst (((List.range ts.length).map fun (i : Nat) => (i : Int)).map V.int)) := upd_same
    generalize upd H a (.lst (((List.range ts.length).map fun (i : Nat) => (i : Int)).map V.int)) = H0 at k0 hA0 ⊢
    walk_at "s"
    refine fun c hc => ?_
    have kc : Same H (upd H0 c (.lst [])) := k0.trans (same_new hc)
    have hc0 : H c = none := Evl.fresh_back k0 hc
    have hAc := (same_new (o := .lst []) hc) _ _ hA0
    have hCc : (upd H0 c (.lst [])) c = some (.lst []) := upd_same
    have hac : a ≠ c := ne_of_none hA0 hc
    generalize upd H0 c (.lst []) = H1 at kc hAc hCc ⊢
    walk_at "s"
    refine ⟨l, b, ts, rfl, hl.ext kc, hlen, fun H2 g k2 ng hg => ?_⟩
    have kH2 : Same H H2 := kc.trans k2
    have hA2 := k2 _ _ hAc
    have hC2 := k2 _ _ hCc
    have hg0 : H g = none := Evl.fresh_back kc ng
    walk_at "s"
    refine ⟨g, gapsL ts, 0, rfl, rfl, SqL.of hg, fun M hM => ?_⟩
    walk_at "s"
    refine ⟨⟨_, SqT.of (kH2 _ _ hm)⟩, for_tup (K := K) (a := m) (xs := xs) (fun i σ H' => ∃ nA gA M cs ys v6 v7 v8 v9, σ = [some (.ref m), some (.ref l), some (.ref nA), some (.ref c), some (.ref gA), some (.int M), v6, v7, v8, v9] ∧ Same H H' ∧ TacI c H' ts (tellE (ms.take i) ts) nA gA M cs ys ∧ cs.length = i ∧ (∀ j m, ms[j]? = some m → j < i → cs[j]? = some (clAt ms ts j)) ∧ H nA = none)
      ⟨a, g, M, [], [], none, none, none, none, rfl, kH2, TacI.init hac hA2 hC2 (ne_of_none hCc ng).symm hg hM, rfl, fun j m _ z => absurd z (Nat.not_lt_zero _), ha⟩ (fun i σ H' _ ⟨_, _, _, _, _, _, _, _, _, _, kH, _⟩ => SqT.of (kH _ _ hm)) ?_ ?_⟩
    · rintro i x σ H' hi ⟨nA, gA, M, cs, ys, v6, v7, v8, v9, rfl, kH, I, hcs, hcl, hnA⟩
      obtain ⟨mb, hmb, p, dx, rfl, hp⟩ := hE.at hi
      have hp' := kH _ _ hp
      have hi9 : i < ms.length := (List.getElem?_eq_some_iff.mp hmb).1
      have hl' := hl.ext kH
      have P := tellE_part hA (ms.take i)
      rw [take_snoc hmb, tellE_snoc]
      generalize hees : tellE (ms.take i) ts = es at I P ⊢
      have hG := I.gaps
      obtain ⟨kd, q⟩ := mb
      walk_at "s"
      intro f0 hf0
      have k00 : Same H' (upd H' f0 (.lst [])) := same_new hf0
      have hF0 : (upd H' f0 (.lst [])) f0 = some (.lst []) := upd_same
      have hcf0 : c ≠ f0 := ne_of_none I.list hf0
      have kH := Same.trans kH k00
      have hp' := k00 _ _ hp'
      have hl' := hl'.ext k00
      have I := I.same k00
      have hG := I.gaps
      generalize upd H' f0 (.lst []) = H' at kH hp' hl' I hG hF0 ⊢
      refine ⟨_, rfl, ?_⟩
      walk_at "s"
      have hcI := I.list
      have none : (kd = .delay ∨ (baseT ts es).length ≤ 1 ∨ q ≤ M) → Same H (upd H' c (.lst (ys ++ [.ref f0]))) ∧ TacI c (upd H' c (.lst (ys ++ [.ref f0]))) ts (stepE (kd, q) ts es) nA gA M (cs ++ [((baseT ts es).length - 1, clo (kd, q) (baseT ts es))]) (ys ++ [.ref f0]) := fun z => by
        have hn := clo_none (m := (kd, q)) (baseT_asc hA P) I.least z
        have es1 := step_none hA P hn
        refine ⟨My.Same.chg kH hc0, TacI.step hA P I (Same.refl _) hcf0 ?_ I.nc.symm (by rw [es1]; exact I.nums) I.gc.symm (by rw [es1]; exact I.gaps) (by rw [es1]; exact I.least)⟩
        rw [plc_none hn]
        exact hF0
      have hys : ys.length = i := by have := I.each.1; omega
      have cl1 : ∀ j m, ms[j]? = some m → j < i + 1 → (cs ++ [((baseT ts es).length - 1, clo (kd, q) (baseT ts es))])[j]? = some (clAt ms ts j) := fun j m hj z => by
        rcases Nat.lt_or_eq_of_le (Nat.lt_succ_iff.mp z) with z | z
        · rw [List.getElem?_append_left (by omega)]
          exact hcl j m hj z
        · subst z
          rw [List.getElem?_append_right (by omega), hcs, Nat.sub_self, clAt_eq hmb, ← hees]
          rfl
      refine ite2 (fun hc1 => ?_) (fun hc1 => ?_)
      · have hc1 := of_decide_eq_true hc1
        rw [List.length_map] at hc1
        have hMp := least_pos (baseT_asc hA P) I.least (by omega)
        cases kd with
        | delay =>
          refine Or.inr (Or.inr (Or.inr ⟨_, rfl, p, dx, _, rfl, hp', rfl, p, dx, q, rfl, hp', ?_⟩))
          walk_at "s"
          refine ite2 (fun hc2 => absurd (of_decide_eq_true hc2) (by omega)) (fun _ => ?_)
          walk_at "s"
          obtain ⟨f1, f2⟩ := none (.inl rfl)
          exact ⟨nA, gA, M, _, _, _, _, _, _, rfl, f1, f2, by simp; omega, cl1, hnA⟩
        | last =>
          refine Or.inl ⟨_, rfl, p, dx, _, rfl, hp', rfl, p, dx, q, rfl, hp', ?_⟩
          walk_at "s"
          refine ite2 (fun hc2 => ?_) (fun hc2 => ?_)
          · have hc2 := of_decide_eq_true hc2
            refine Or.inl ⟨_, rfl, p, dx, _, rfl, hp', ?_⟩
            walk_at "s"
            have hbl : (baseT ts es).length = es.length := baseT_len
            have hes := P.len
            have hN : 2 ≤ es.length := by rw [gapsL_len] at hc1; omega
            refine ⟨p, gA, dx, q, baseT ts es, rfl, hp', I.gaps, ⟨baseT_asc hA P, by omega⟩, fun H2 f k2 nf hf => ?_⟩
            have hp2 := k2 _ _ hp'
            refine Or.inl ⟨_, rfl, p, dx, _, rfl, hp2, rfl, p, dx, _, rfl, hp2, ?_⟩
            walk_at "s"
            have hce : clo (.last, q) (baseT ts es) (es.length - 1) = false := clo_end (by omega)
            have hce2 : clo (.last, q) (baseT ts es) ((baseT ts es).length - 1) = false := by rw [hbl]; exact hce
            refine ⟨nA, f, es.map fun e => (e.num : Int), clo (.last, q) (baseT ts es), rfl, k2 _ _ I.nums, by rw [nums_len, plc_end hce, ← hbl]; exact hf, by rw [nums_len]; omega, fun H3 n3 k3 nn hn => ?_⟩
            rw [sel_last hA P rfl] at hn
            have kH3 := Same.trans (Same.trans kH k2) k3
            have kk := Same.trans k2 k3
            have hf3 := k3 _ _ hf
            have hg3 := kk _ _ hG
            have hl3 := hl'.ext kk
            have hpl := plc_len ((baseT ts es).length - 1) (clo (.last, q) (baseT ts es))
            have hc2s := k2 _ _ I.list
            have hc3s := kk _ _ I.list
            have hcf : c ≠ f := ne_of_none I.list nf
            have hcn : c ≠ n3 := ne_of_none hc2s nn
            have hcl := I.each.1
            have hst := (stepE_part (m := (.last, q)) hA P).len
            have fin : ∀ H4 g4 M', Same H3 H4 → c ≠ g4 → H4 g4 = some (.lst ((gapsL (baseT ts (stepE (.last, q) ts es))).map V.int)) → LeastOf (gapsL (baseT ts (stepE (.last, q) ts es))) 0 M' → Same H (upd H4 c (.lst (ys ++ [.ref f]))) ∧ TacI c (upd H4 c (.lst (ys ++ [.ref f]))) ts (stepE (.last, q) ts es) n3 g4 M' (cs ++ [((baseT ts es).length - 1, clo (.last, q) (baseT ts es))]) (ys ++ [.ref f]) := fun H4 g4 M' k4 hcg hg4 hM' =>
              ⟨My.Same.chg (Same.trans kH3 k4) hc0, TacI.step hA P I (Same.trans kk k4) hcf (k4 _ _ hf3) hcn (k4 _ _ hn) hcg hg4 hM'⟩
            walk_at "s"
            refine ite2 (fun hc3 => ?_) (fun hc3 => ?_)
            · refine ⟨_, rfl, ?_⟩
              walk_at "s"
              refine ⟨gA, f, baseT ts es, clo (.last, q) (baseT ts es), true, rfl, hg3, hf3, ⟨by omega, by omega, hce2⟩, fun H4 g4 k4 ng4 hg4 => ?_⟩
              rw [kept_last hA P rfl] at hg4
              have hc4 := k4 _ _ hc3s
              have hcg : c ≠ g4 := ne_of_none hc3s ng4
              walk_at "s"
              refine ⟨g4, _, 0, rfl, rfl, SqL.of hg4, fun M' hM' => ?_⟩
              obtain ⟨f1, f2⟩ := fin H4 g4 M' k4 hcg hg4 hM'
              walk_at "s"
              exact ⟨n3, g4, M', _, _, _, _, _, _, rfl, f1, f2, by simp; omega, cl1, Evl.fresh_back (Same.trans kH k2) nn⟩
            · have hnb : ∀ z ∈ (stepE (.last, q) ts es).map (fun e => (e.num : Int)), 0 ≤ z ∧ z.toNat < ts.length := fun z hz => num_bound (stepE_part (m := (.last, q)) hA P) hz
              refine r_asg (r_call1 ?_)
              refine comp_map (K := K) (a := n3) (ns := (stepE (.last, q) ts es).map fun e => (e.num : Int)) (j := 9) (vs := [9]) (fun z => ts.getD z.toNat 0) ?_ (SqL.of hn) (by rw [nums_len]; omega) ?_ ?_ _ (Evl.Ex.refl _) _ ?_
              · exact Evl.ev_var rfl
              · exact fun _ => rfl
              · exact fun o H1 ho e => Evl.ev_op (Evl.ev_var rfl) (Evl.ev_var rfl) (fun H2 e2 Q q => ix_sq (hl3.ext (Same.trans e e2)) (ix_at (hnb o ho)) (q H2 (Evl.Ex.refl _)))
              intro pt H5 npt e5 hpt
              rw [← baseT_nums] at hpt
              have hc5 := e5 _ _ hc3s
              walk_at "s"
              refine ⟨pt, false, _, rfl, SqL.of hpt, by rw [baseT_len]; omega, fun H4 g4 k4' ng4 hg4 => ?_⟩
              have k4 : Same H3 H4 := Same.trans e5 k4'
              have hc4 := k4 _ _ hc3s
              have hcg : c ≠ g4 := ne_of_none hc5 ng4
              walk_at "s"
              refine ⟨g4, _, 0, rfl, rfl, SqL.of hg4, fun M' hM' => ?_⟩
              obtain ⟨f1, f2⟩ := fin H4 g4 M' k4 hcg hg4 hM'
              walk_at "s"
              exact ⟨n3, g4, M', _, _, _, _, _, _, rfl, f1, f2, by simp; omega, cl1, Evl.fresh_back (Same.trans kH k2) nn⟩
          · have hc2 : ¬ M < q := fun z => hc2 (decide_eq_true z)
            walk_at "s"
            obtain ⟨f1, f2⟩ := none (.inr (.inr (by omega)))
            exact ⟨nA, gA, M, _, _, _, _, _, _, rfl, f1, f2, by simp; omega, cl1, hnA⟩
        | first =>
          refine Or.inr (Or.inl ⟨_, rfl, p, dx, _, rfl, hp', rfl, p, dx, q, rfl, hp', ?_⟩)
          walk_at "s"
          refine ite2 (fun hc2 => ?_) (fun hc2 => ?_)
          · have hc2 := of_decide_eq_true hc2
            refine Or.inr (Or.inl ⟨_, rfl, p, dx, _, rfl, hp', ?_⟩)
            walk_at "s"
            have hbl : (baseT ts es).length = es.length := baseT_len
            have hes := P.len
            have hN : 2 ≤ es.length := by rw [gapsL_len] at hc1; omega
            refine ⟨p, gA, dx, q, baseT ts es, rfl, hp', I.gaps, ⟨baseT_asc hA P, by omega⟩, fun H2 f k2 nf hf => ?_⟩
            have hp2 := k2 _ _ hp'
            refine Or.inr (Or.inl ⟨_, rfl, p, dx, _, rfl, hp2, rfl, p, dx, _, rfl, hp2, ?_⟩)
            walk_at "s"
            have hce : clo (.first, q) (baseT ts es) (es.length - 1) = false := clo_end (by omega)
            have hce2 : clo (.first, q) (baseT ts es) ((baseT ts es).length - 1) = false := by rw [hbl]; exact hce
            refine ⟨nA, f, es.map fun e => (e.num : Int), clo (.first, q) (baseT ts es), rfl, k2 _ _ I.nums, by rw [nums_len, ← hbl]; exact hf, by rw [nums_len]; omega, fun H3 n3 k3 nn hn => ?_⟩
            rw [sel_first hA P (fun z => by cases z)] at hn
            have kH3 := Same.trans (Same.trans kH k2) k3
            have kk := Same.trans k2 k3
            have hf3 := k3 _ _ hf
            have hg3 := kk _ _ hG
            have hl3 := hl'.ext kk
            have hpl := plc_len ((baseT ts es).length - 1) (clo (.first, q) (baseT ts es))
            have hc2s := k2 _ _ I.list
            have hc3s := kk _ _ I.list
            have hcf : c ≠ f := ne_of_none I.list nf
            have hcn : c ≠ n3 := ne_of_none hc2s nn
            have hcl := I.each.1
            have hst := (stepE_part (m := (.first, q)) hA P).len
            have fin : ∀ H4 g4 M', Same H3 H4 → c ≠ g4 → H4 g4 = some (.lst ((gapsL (baseT ts (stepE (.first, q) ts es))).map V.int)) → LeastOf (gapsL (baseT ts (stepE (.first, q) ts es))) 0 M' → Same H (upd H4 c (.lst (ys ++ [.ref f]))) ∧ TacI c (upd H4 c (.lst (ys ++ [.ref f]))) ts (stepE (.first, q) ts es) n3 g4 M' (cs ++ [((baseT ts es).length - 1, clo (.first, q) (baseT ts es))]) (ys ++ [.ref f]) := fun H4 g4 M' k4 hcg hg4 hM' =>
              ⟨My.Same.chg (Same.trans kH3 k4) hc0, TacI.step hA P I (Same.trans kk k4) hcf (k4 _ _ hf3) hcn (k4 _ _ hn) hcg hg4 hM'⟩
            walk_at "s"
            refine ite2 (fun hc3 => ?_) (fun hc3 => ?_)
            · refine ⟨_, rfl, ?_⟩
              walk_at "s"
              refine ⟨gA, f, baseT ts es, clo (.first, q) (baseT ts es), false, rfl, hg3, hf3, ⟨by omega, by omega, hce2⟩, fun H4 g4 k4 ng4 hg4 => ?_⟩
              rw [kept_first hA P (fun z => by cases z)] at hg4
              have hc4 := k4 _ _ hc3s
              have hcg : c ≠ g4 := ne_of_none hc3s ng4
              walk_at "s"
              refine ⟨g4, _, 0, rfl, rfl, SqL.of hg4, fun M' hM' => ?_⟩
              obtain ⟨f1, f2⟩ := fin H4 g4 M' k4 hcg hg4 hM'
              walk_at "s"
              exact ⟨n3, g4, M', _, _, _, _, _, _, rfl, f1, f2, by simp; omega, cl1, Evl.fresh_back (Same.trans kH k2) nn⟩
            · have hnb : ∀ z ∈ (stepE (.first, q) ts es).map (fun e => (e.num : Int)), 0 ≤ z ∧ z.toNat < ts.length := fun z hz => num_bound (stepE_part (m := (.first, q)) hA P) hz
              refine r_asg (r_call1 ?_)
              refine comp_map (K := K) (a := n3) (ns := (stepE (.first, q) ts es).map fun e => (e.num : Int)) (j := 9) (vs := [9]) (fun z => ts.getD z.toNat 0) ?_ (SqL.of hn) (by rw [nums_len]; omega) ?_ ?_ _ (Evl.Ex.refl _) _ ?_
              · exact Evl.ev_var rfl
              · exact fun _ => rfl
              · exact fun o H1 ho e => Evl.ev_op (Evl.ev_var rfl) (Evl.ev_var rfl) (fun H2 e2 Q q => ix_sq (hl3.ext (Same.trans e e2)) (ix_at (hnb o ho)) (q H2 (Evl.Ex.refl _)))
              intro pt H5 npt e5 hpt
              rw [← baseT_nums] at hpt
              have hc5 := e5 _ _ hc3s
              walk_at "s"
              refine ⟨pt, false, _, rfl, SqL.of hpt, by rw [baseT_len]; omega, fun H4 g4 k4' ng4 hg4 => ?_⟩
              have k4 : Same H3 H4 := Same.trans e5 k4'
              have hc4 := k4 _ _ hc3s
              have hcg : c ≠ g4 := ne_of_none hc5 ng4
              walk_at "s"
              refine ⟨g4, _, 0, rfl, rfl, SqL.of hg4, fun M' hM' => ?_⟩
              obtain ⟨f1, f2⟩ := fin H4 g4 M' k4 hcg hg4 hM'
              walk_at "s"
              exact ⟨n3, g4, M', _, _, _, _, _, _, rfl, f1, f2, by simp; omega, cl1, Evl.fresh_back (Same.trans kH k2) nn⟩
          · have hc2 : ¬ M < q := fun z => hc2 (decide_eq_true z)
            walk_at "s"
            obtain ⟨f1, f2⟩ := none (.inr (.inr (by omega)))
            exact ⟨nA, gA, M, _, _, _, _, _, _, rfl, f1, f2, by simp; omega, cl1, hnA⟩
        | limit =>
          refine Or.inr (Or.inr (Or.inl ⟨_, rfl, p, dx, _, rfl, hp', rfl, p, dx, q, rfl, hp', ?_⟩))
          walk_at "s"
          refine ite2 (fun hc2 => ?_) (fun hc2 => ?_)
          · have hc2 := of_decide_eq_true hc2
            refine Or.inr (Or.inr (⟨_, rfl, p, dx, _, rfl, hp', ?_⟩))
            walk_at "s"
            have hbl : (baseT ts es).length = es.length := baseT_len
            have hes := P.len
            have hN : 2 ≤ es.length := by rw [gapsL_len] at hc1; omega
            refine ⟨p, gA, dx, q, baseT ts es, rfl, hp', I.gaps, ⟨baseT_asc hA P, by omega⟩, fun H2 f k2 nf hf => ?_⟩
            have hp2 := k2 _ _ hp'
            refine Or.inr (Or.inr (⟨_, rfl, p, dx, _, rfl, hp2, rfl, p, dx, _, rfl, hp2, ?_⟩))
            walk_at "s"
            have hce : clo (.limit, q) (baseT ts es) (es.length - 1) = false := clo_end (by omega)
            have hce2 : clo (.limit, q) (baseT ts es) ((baseT ts es).length - 1) = false := by rw [hbl]; exact hce
            refine ⟨nA, f, es.map fun e => (e.num : Int), clo (.limit, q) (baseT ts es), rfl, k2 _ _ I.nums, by rw [nums_len, ← hbl]; exact hf, by rw [nums_len]; omega, fun H3 n3 k3 nn hn => ?_⟩
            rw [sel_first hA P (fun z => by cases z)] at hn
            have kH3 := Same.trans (Same.trans kH k2) k3
            have kk := Same.trans k2 k3
            have hf3 := k3 _ _ hf
            have hg3 := kk _ _ hG
            have hl3 := hl'.ext kk
            have hpl := plc_len ((baseT ts es).length - 1) (clo (.limit, q) (baseT ts es))
            have hc2s := k2 _ _ I.list
            have hc3s := kk _ _ I.list
            have hcf : c ≠ f := ne_of_none I.list nf
            have hcn : c ≠ n3 := ne_of_none hc2s nn
            have hcl := I.each.1
            have hst := (stepE_part (m := (.limit, q)) hA P).len
            have fin : ∀ H4 g4 M', Same H3 H4 → c ≠ g4 → H4 g4 = some (.lst ((gapsL (baseT ts (stepE (.limit, q) ts es))).map V.int)) → LeastOf (gapsL (baseT ts (stepE (.limit, q) ts es))) 0 M' → Same H (upd H4 c (.lst (ys ++ [.ref f]))) ∧ TacI c (upd H4 c (.lst (ys ++ [.ref f]))) ts (stepE (.limit, q) ts es) n3 g4 M' (cs ++ [((baseT ts es).length - 1, clo (.limit, q) (baseT ts es))]) (ys ++ [.ref f]) := fun H4 g4 M' k4 hcg hg4 hM' =>
              ⟨My.Same.chg (Same.trans kH3 k4) hc0, TacI.step hA P I (Same.trans kk k4) hcf (k4 _ _ hf3) hcn (k4 _ _ hn) hcg hg4 hM'⟩
            walk_at "s"
            refine ite2 (fun hc3 => ?_) (fun hc3 => ?_)
            · refine ⟨_, rfl, ?_⟩
              walk_at "s"
              refine ⟨gA, f, baseT ts es, clo (.limit, q) (baseT ts es), false, rfl, hg3, hf3, ⟨by omega, by omega, hce2⟩, fun H4 g4 k4 ng4 hg4 => ?_⟩
              rw [kept_first hA P (fun z => by cases z)] at hg4
              have hc4 := k4 _ _ hc3s
              have hcg : c ≠ g4 := ne_of_none hc3s ng4
              walk_at "s"
              refine ⟨g4, _, 0, rfl, rfl, SqL.of hg4, fun M' hM' => ?_⟩
              obtain ⟨f1, f2⟩ := fin H4 g4 M' k4 hcg hg4 hM'
              walk_at "s"
              exact ⟨n3, g4, M', _, _, _, _, _, _, rfl, f1, f2, by simp; omega, cl1, Evl.fresh_back (Same.trans kH k2) nn⟩
            · have hnb : ∀ z ∈ (stepE (.limit, q) ts es).map (fun e => (e.num : Int)), 0 ≤ z ∧ z.toNat < ts.length := fun z hz => num_bound (stepE_part (m := (.limit, q)) hA P) hz
              refine r_asg (r_call1 ?_)
              refine comp_map (K := K) (a := n3) (ns := (stepE (.limit, q) ts es).map fun e => (e.num : Int)) (j := 9) (vs := [9]) (fun z => ts.getD z.toNat 0) ?_ (SqL.of hn) (by rw [nums_len]; omega) ?_ ?_ _ (Evl.Ex.refl _) _ ?_
              · exact Evl.ev_var rfl
              · exact fun _ => rfl
              · exact fun o H1 ho e => Evl.ev_op (Evl.ev_var rfl) (Evl.ev_var rfl) (fun H2 e2 Q q => ix_sq (hl3.ext (Same.trans e e2)) (ix_at (hnb o ho)) (q H2 (Evl.Ex.refl _)))
              intro pt H5 npt e5 hpt
              rw [← baseT_nums] at hpt
              have hc5 := e5 _ _ hc3s
              walk_at "s"
              refine ⟨pt, false, _, rfl, SqL.of hpt, by rw [baseT_len]; omega, fun H4 g4 k4' ng4 hg4 => ?_⟩
              have k4 : Same H3 H4 := Same.trans e5 k4'
              have hc4 := k4 _ _ hc3s
              have hcg : c ≠ g4 := ne_of_none hc5 ng4
              walk_at "s"
              refine ⟨g4, _, 0, rfl, rfl, SqL.of hg4, fun M' hM' => ?_⟩
              obtain ⟨f1, f2⟩ := fin H4 g4 M' k4 hcg hg4 hM'
              walk_at "s"
              exact ⟨n3, g4, M', _, _, _, _, _, _, rfl, f1, f2, by simp; omega, cl1, Evl.fresh_back (Same.trans kH k2) nn⟩
          · have hc2 : ¬ M < q := fun z => hc2 (decide_eq_true z)
            walk_at "s"
            obtain ⟨f1, f2⟩ := none (.inr (.inr (by omega)))
            exact ⟨nA, gA, M, _, _, _, _, _, _, rfl, f1, f2, by simp; omega, cl1, hnA⟩
      · have hc1 : ¬ (0 : Int) < (((gapsL (baseT ts es)).map V.int).length : Int) := fun z => hc1 (decide_eq_true z)
        rw [List.length_map, gapsL_len] at hc1
        walk_at "s"
        obtain ⟨f1, f2⟩ := none (.inr (.inl (by omega)))
        exact ⟨nA, gA, M, _, _, _, _, _, _, rfl, f1, f2, by simp; omega, cl1, hnA⟩
    · rintro σ H' ⟨nA, gA, M, cs, ys, v6, v7, v8, v9, rfl, kH, I, hcs, hcl, hnA⟩
      rw [List.take_of_length_le (by rw [hE.1]; omega)] at I
      rw [hE.1] at hcs
      walk_at "s"
      refine fun t nt => ?_
      have kt := same_new (o := .tup [.ref nA, .ref c]) nt
      exact k _ t nA c ys cs (Same.trans kH kt) (Evl.fresh_back kH nt) upd_same hnA (kt _ _ I.nums) hc0 (kt _ _ I.list) (I.each.mono fun cl v _ r => by obtain ⟨p, e, _, hp⟩ := r; exact ⟨p, e, kt _ _ hp⟩) I.fits I.fsts (by omega) (fun j m hj => hcl j m hj (by have := (List.getElem?_eq_some_iff.mp hj).1; rw [hE.1]; omega)) (by omega)

theorem oktold_events (T : Txt K mg) : Cal P w K mg base 8 (He.ga K "told_events") ["row", "stream"] (spToldE K) := by
  obtain ⟨fdToldX_initX, GToldX_initX, bToldX_initX, kToldX_initX⟩ := okToldX_initX (P := P) (w := w) (base := base) T
  obtain ⟨fdcheck_stream, Gcheck_stream, bcheck_stream, kcheck_stream⟩ := okcheck_stream (P := P) (w := w) (base := base) T
  obtain ⟨fdlag_of, Glag_of, blag_of, klag_of⟩ := oklag_of (P := P) (w := w) (base := base) T
  obtain ⟨fdtold_and_closed, Gtold_and_closed, btold_and_closed, ktold_and_closed⟩ := oktold_and_closed (P := P) (w := w) (base := base) T
  obtain ⟨fdwithout_behind, Gwithout_behind, bwithout_behind, kwithout_behind⟩ := okwithout_behind (P := P) (w := w) (base := base) T
  obtain ⟨fd, F⟩ := T.d_told_events
  refine ⟨fd, F.ok sctold_events (fun vs H Q E h => ?_) (fun cdv A outer s H vs Q E hr h => ?_), F.bindsN fun _ _ _ _ _ _ us hl => match us, hl with | [_, _], _ => rfl, F.kp⟩
  · obtain ⟨r, l, b, ms, ts, rfl, _⟩ := h; rfl
  · obtain ⟨r, l, b, ms, ts, rfl, ⟨dx, m, xs, hr1, hm, hE⟩, hl, ⟨hA, hlen, hml⟩, k⟩ := h
    refine ⟨_, PSs.nox (pss_cons (ps_expr (pe_call Gcheck_stream (hrM hr) rfl T.g_check_stream kcheck_stream bcheck_stream .nil pass0 (pa_cons (pv 1) pa_nil)))
  (pss_cons (ps_asg (pe_call Gtold_and_closed (hrM hr) rfl T.g_told_and_closed ktold_and_closed btold_and_closed .nil pass0 (pa_cons (feK (K := K) (pv 0)) (pa_cons (pv 1) pa_nil))) (pg_tup (by rfl) (pgs_cons (pg_name (i := 2) sctold_events.nd rfl (Or.inl rfl)) (pgs_cons (pg_name (i := 3) sctold_events.nd rfl (Or.inl rfl)) pgs_nil))))
  (pss_cons (ps_set (i := 4) sctold_events.nd rfl (Or.inl rfl) (pe_listRg rfl (by rfl) T.n_list (prg_1 (by rfl) T.n_range (pe_callB (lenK (K := K)) (by rfl) T.n_len (by decide +kernel) (pa_cons (pv 1) pa_nil)))))
  (pss_cons (ps_for PassesOwn.never rfl (piLK (K := K) (pv 3)) (pg_name (i := 5) sctold_events.nd rfl (Or.inl rfl))
  (pss_one (ps_if (pt_cmpR op_gt (pe_callB (lenK (K := K)) (by rfl) T.n_len (by decide +kernel) (pa_cons (pv 5) pa_nil)) pe_int (nomark _)) (pss_one (ps_set (i := 4) sctold_events.nd rfl (Or.inl rfl) (pe_call Gwithout_behind (hrM hr) rfl T.g_without_behind kwithout_behind bwithout_behind .nil pass0 (pa_cons (pv 4) (pa_cons (pv 5) pa_nil)))))
  pss_nil)))
  (pss_cons (ps_set (i := 6) sctold_events.nd rfl (Or.inl rfl) (pe_op (catK (K := K)) (pe_lc (own := [("first", 9)]) (g := (gName 9)) (tt := tYes) (by rfl) sctold_events.nd (piLK (K := K) (pe_slice (slLK (K := K)) (pv 4) (po_some pe_int) po_none)) (blkOk_by (own := [("first", 9)]) (N := ["row", "stream", "numbers", "closed", "firsts", "places", "lasts", "lag", "number", "first", "last"]) (sc := defScope stold_events) (by decide +kernel)) (fun _ _ _ _ _ => (pg_name (i := 9) sctold_events.nd rfl (Or.inl rfl))) (fun _ _ _ _ _ => pts_nil) (fun _ _ _ _ _ => (pe_op op_sub (pv 9) pe_int))) (pe_lst (pa_cons (pe_op op_sub (pe_callB (lenK (K := K)) (by rfl) T.n_len (by decide +kernel) (pa_cons (pv 1) pa_nil)) pe_int) pa_nil))))
  (pss_cons (ps_set (i := 7) sctold_events.nd rfl (Or.inr rfl) (pe_call Glag_of (hrM hr) rfl T.g_lag_of klag_of blag_of .nil pass0 (pa_cons (feK (K := K) (pv 0)) pa_nil)))
  (pss_one (ps_ret (pe_lc (own := [("number", 8), ("first", 9), ("last", 10)]) (g := (gTup K 3 (gCons (gName 8) (gCons (gName 9) (gCons (gName 10) gNil))))) (tt := tYes) (by rfl) sctold_events.nd (pi_zip3 (K := K) (by rfl) T.n_zip (pa_cons (pv 2) (pa_cons (pv 4) (pa_cons (pv 6) pa_nil)))) (blkOk_by (own := [("number", 8), ("first", 9), ("last", 10)]) (N := ["row", "stream", "numbers", "closed", "firsts", "places", "lasts", "lag", "number", "first", "last"]) (sc := defScope stold_events) (by decide +kernel)) (fun _ _ _ _ _ => (pg_tup (by rfl) (pgs_cons (pg_name (i := 8) sctold_events.nd rfl (Or.inl rfl)) (pgs_cons (pg_name (i := 9) sctold_events.nd rfl (Or.inl rfl)) (pgs_cons (pg_name (i := 10) sctold_events.nd rfl (Or.inl rfl)) pgs_nil))))) (fun _ _ _ _ _ => pts_nil) (fun _ _ _ _ _ => (pe_make T.k_Told GToldX_initX (hrM hr) rfl T.g_Told bToldX_initX .nil pass0 (pa_cons (pv 8) (pa_cons (pe_op op_add (pe_ix (ixSK (K := K)) (pv 1) (pv 8) (fun _ _ => rfl)) (pv 7)) (pa_cons (pv 9) (pa_cons (pv 10) pa_nil))))))))))))))), ?_⟩

    walk_at "s"
    refine ⟨l, b, ts, rfl, hl, ⟨hA, hlen⟩, fun H1 k1 => ?_⟩
    have hr2 := k1 _ _ hr1
    have hl1 := hl.ext k1
    walk_at "s"
    refine ⟨m, l, b, ms, xs, ts, rfl, k1 _ _ hm, hE.mono fun _ _ _ z => z.vp (VP.same k1), hl1, ⟨hA, hlen, hml⟩, fun H2 t nA cA ys cs k2 nt ht nn hn nc hC hE2 hF hf hcl hcl2 hcl3 => ?_⟩
    walk_at "s"
    refine ⟨_, _, rfl, SqT.of ht, rfl, ?_⟩
    refine ⟨_, _, rfl, ?_⟩
    refine ⟨_, _, rfl, ?_⟩
    refine ⟨rfl, ?_⟩
    have hl2 := hl1.ext k2
    walk_at "s"
    refine ⟨l, _, rfl, sq_isI hl2, _, rfl, RgOk.of_le (by omega) (by rw [List.length_map]; omega) (by omega) (by omega), fun a ha => ?_⟩
    rw [List.length_map, rg0]
    have k3 : Same H2 (upd H2 a (.lst (((List.range ts.length).map fun (i : Nat) => (i : Int)).map V.int))) := same_new ha
    have hA3 : (upd H2 a (.lst (((List.range ts.length).map fun (i : Nat) => (i : Int)).map V.int))) a = some (.lst (((List.range ts.length).map fun (i : Nat) => (i : Int)).map V.int)) := upd_same
    generalize upd H2 a (.lst (((List.range ts.length).map fun (i : Nat) => (i : Int)).map V.int)) = H3 at k3 hA3 ⊢
    have kH3 : Same H H3 := Same.trans (Same.trans k1 k2) k3
    walk_at "s"
    refine ⟨⟨_, SqL.of (k3 _ _ hC)⟩, for_list (K := K) (a := cA) (xs := ys) (fun i σ H' => ∃ fA v5, σ = [some (.ref r), some (.ref l), some (.ref nA), some (.ref cA), some (.ref fA), v5, none, none, none, none, none] ∧ Same H3 H' ∧ H' fA = some (.lst ((fstsOf ts.length (cs.take i)).map V.int)))
      ⟨a, none, rfl, Same.refl _, hA3⟩ (fun i σ H' _ ⟨_, _, _, kH, _⟩ => SqL.of (kH _ _ (k3 _ _ hC))) ?_ ?_⟩
    · rintro i x σ H' hi ⟨fA, v5, rfl, kH, hFA⟩
      obtain ⟨cl, hcli, p, rfl, hp⟩ := hE2.at hi
      have hp' := kH _ _ (k3 _ _ hp)
      have hfl := fstsOf_len ts.length (cs.take i)
      have hpz := plc_len cl.1 cl.2
      have hpf := hF i cl hcli
      walk_at "s"
      refine ite2 (fun hc1 => ?_) (fun hc1 => ?_)
      · walk_at "s"
        refine ⟨fA, p, fstsOf ts.length (cs.take i), cl.2, rfl, hFA, by rw [← hF i cl hcli]; exact hp', by omega, fun H4 q k4 nq hq => ?_⟩
        refine ⟨q, _, rfl, Same.trans kH k4, ?_⟩
        rw [take_snoc hcli, fstsOf_snoc]
        exact hq
      · have hc1 : ¬ (0 : Int) < ((natV (plc cl.1 cl.2)).length : Int) := fun z => hc1 (decide_eq_true z)
        refine ⟨fA, _, rfl, kH, ?_⟩
        rw [take_snoc hcli, fstsOf_snoc, fstep_none (by rw [← hpf]; rw [natV_len] at hc1; exact List.length_eq_zero_iff.mp (by omega))]
        exact hFA
    · rintro σ H4 ⟨fA, v5, rfl, k4, hFA⟩
      rw [List.take_of_length_le (by rw [hE2.1]; omega), hf] at hFA
      have hl4 := (hl2.ext k3).ext k4
      have P := tellE_part hA ms
      have hes := P.len
      refine Evl.q_asgL (xs := (lastsL ts.length (tellE ms ts)).map V.int) (el_lasts (K := K) (j := 9) (Evl.ev_var rfl) (Evl.ev_var rfl) hFA hl4 (by rw [List.length_map]; omega) (fun _ => rfl) (fun _ => rfl)) fun la H5 nla k5 hla => ?_
      have hr5 := k5 _ _ (k4 _ _ (k3 _ _ (k2 _ _ hr2)))
      have kH5 : Same H H5 := Same.trans kH3 (Same.trans k4 k5)
      walk_at "s"
      refine ⟨m, true, ms, xs, rfl, SqT.of (kH5 _ _ hm), hE.mono fun _ _ _ z => z.vp (VP.same kH5), by omega, fun H6 k6 => ?_⟩
      have hl6 := (hl4.ext k5).ext k6
      have hN6 := k6 _ _ (k5 _ _ (k4 _ _ (k3 _ _ hn)))
      have hF6 := k6 _ _ (k5 _ _ hFA)
      have hla6 := k6 _ _ hla
      have kH6 := Same.trans kH5 k6
      have hll := lastsL_len ts.length (tellE ms ts)
      refine r_ret (comp_relZ3 (K := K) (rowsOf ms ts) (ToldV K) (fun _ _ _ _ kv z => z.vp kv) (by rw [rows_eq, List.length_map]; omega) (Evl.ea_cons (Evl.ev_var rfl) (Evl.ea_cons (Evl.ev_var rfl) (Evl.ea_cons (Evl.ev_var rfl) Evl.ea_nil))) (SqL.of hN6) (SqL.of hF6) (SqL.of hla6) (by rw [rows_eq]; simp) (by rw [rows_eq]; simp) (by rw [rows_eq, List.length_map, List.length_map]; exact hll) (fun _ _ _ => rfl) ?_ ?_)
      · intro i x y z rr H7 k7 hrr hx hy hz Q3 q3
        rw [rows_eq, List.getElem?_map] at hrr
        rw [List.getElem?_map, List.getElem?_map] at hx hy
        cases ee : (tellE ms ts)[i]? with
        | none => rw [ee] at hrr; cases hrr
        | some e =>
          rw [ee] at hrr hx hy
          rw [List.getElem?_map, lastsL_at P ee] at hz
          cases Option.some.inj hrr
          cases Option.some.inj hx
          cases Option.some.inj hy
          cases Option.some.inj hz
          have hb := num_bound P (List.mem_map_of_mem (f := fun e : Tl => (e.num : Int)) (List.mem_of_getElem? ee))
          have hl7 := hl6.ext k7
          walk_at "s"
          refine ix_sq hl7 (ix_at hb) ?_
          walk_at "s"
          refine fun x dx nx nd nxd => ?_
          refine ⟨x, dx, _, _, _, _, rfl, upd_same, fun H8 k8 hx8 => ⟨rfl, ?_⟩⟩
          exact q3 H8 _ (Same.made1 nx nd k8) ⟨x, dx, rfl, hx8⟩
      · intro p H7 ws np k7 hp hW
        exact k H7 p ws (Same.trans kH6 k7) (Evl.fresh_back kH6 np) hp hW

theorem oktimes_behind (T : Txt K mg) : Cal P w K mg base 7 (He.ga K "times_behind") ["members", "stream"] (spTimesB K) := by
  obtain ⟨fdlag_of, Glag_of, blag_of, klag_of⟩ := oklag_of (P := P) (w := w) (base := base) T
  obtain ⟨fdtold_and_closed, Gtold_and_closed, btold_and_closed, ktold_and_closed⟩ := oktold_and_closed (P := P) (w := w) (base := base) T
  obtain ⟨fd, F⟩ := T.d_times_behind
  refine ⟨fd, F.ok sctimes_behind (fun vs H Q E h => ?_) (fun cdv A outer s H vs Q E hr h => ?_), F.bindsN fun _ _ _ _ _ _ us hl => match us, hl with | [_, _], _ => rfl, F.kp⟩
  · obtain ⟨m, l, b, ms, xs, ts, rfl, _⟩ := h; rfl
  · obtain ⟨m, l, b, ms, xs, ts, rfl, hm, hE, hl, ⟨hA, hlen, hml⟩, k⟩ := h
    refine ⟨_, PSs.nox (pss_cons (ps_asg (pe_call Gtold_and_closed (hrM hr) rfl T.g_told_and_closed ktold_and_closed btold_and_closed .nil pass0 (pa_cons (pv 0) (pa_cons (pv 1) pa_nil))) (pg_tup (by rfl) (pgs_cons (pg_name (i := 2) sctimes_behind.nd rfl (Or.inl rfl)) (pgs_cons (pg_name (i := 3) sctimes_behind.nd rfl (Or.inl rfl)) pgs_nil))))
  (pss_cons (ps_set (i := 4) sctimes_behind.nd rfl (Or.inr rfl) (pe_call Glag_of (hrM hr) rfl T.g_lag_of klag_of blag_of .nil pass0 (pa_cons (pv 0) pa_nil)))
  (pss_one (ps_ret (pe_lc (own := [("number", 5)]) (g := (gName 5)) (tt := tYes) (by rfl) sctimes_behind.nd (piLK (K := K) (pv 2)) (blkOk_by (own := [("number", 5)]) (N := ["members", "stream", "numbers", "_", "lag", "number"]) (sc := defScope stimes_behind) (by decide +kernel)) (fun _ _ _ _ _ => (pg_name (i := 5) sctimes_behind.nd rfl (Or.inl rfl))) (fun _ _ _ _ _ => pts_nil) (fun _ _ _ _ _ => (pe_op op_add (pe_ix (ixSK (K := K)) (pv 1) (pv 5) (fun _ _ => rfl)) (pv 4)))))))), ?_⟩

    walk_at "s"
    refine ⟨m, l, b, ms, xs, ts, rfl, hm, hE, hl, ⟨hA, hlen, hml⟩, fun H2 t nA cA ys cs k2 nt ht nn hn nc hC hE2 hF hf hcl hcl2 hcl3 => ?_⟩
    walk_at "s"
    refine ⟨_, _, rfl, SqT.of ht, rfl, ?_⟩
    refine ⟨_, _, rfl, ?_⟩
    refine ⟨_, _, rfl, ?_⟩
    refine ⟨rfl, ?_⟩
    have kH2 := k2
    have hl2 := hl.ext k2
    walk_at "s"
    refine ⟨m, true, ms, xs, rfl, SqT.of (kH2 _ _ hm), hE.mono fun _ _ _ z => z.vp (VP.same kH2), by omega, fun H3 k3 => ?_⟩
    have P := tellE_part hA ms
    have hes := P.len
    dsimp only [gName]
    refine r_ret ?_
    refine comp_map (K := K) (a := nA) (ns := (tellE ms ts).map fun e => (e.num : Int)) (j := 5) (vs := [5]) (fun z => ts.getD z.toNat 0 + lateOf ms) ?_ (SqL.of (k3 _ _ hn)) (by rw [List.length_map]; omega) ?_ ?_ _ (Evl.Ex.refl _) _ ?_
    · exact Evl.ev_var rfl
    · exact fun _ => rfl
    · exact fun o H1 ho e => Evl.ev_op (Evl.ev_op (Evl.ev_var rfl) (Evl.ev_var rfl) (fun H2 e2 Q q => ix_sq ((hl2.ext k3).ext (Same.trans e e2)) (ix_at (num_bound P ho)) (q H2 (Evl.Ex.refl _)))) (Evl.ev_var rfl) Evl.rv_I0
    · intro p H4 np k4 hp
      refine k H4 p (Same.trans kH2 (Same.trans k3 k4)) (Evl.fresh_back (Same.trans kH2 k3) np) ?_
      rw [hp, rows_eq, List.map_map, List.map_map, List.map_map, List.map_map]
      rfl

theorem oktold_times (T : Txt K mg) : Cal P w K mg base 8 (He.ga K "told_times") ["row", "stream"] (spToldT K) := by
  obtain ⟨fdcheck_stream, Gcheck_stream, bcheck_stream, kcheck_stream⟩ := okcheck_stream (P := P) (w := w) (base := base) T
  obtain ⟨fdtimes_behind, Gtimes_behind, btimes_behind, ktimes_behind⟩ := oktimes_behind (P := P) (w := w) (base := base) T
  obtain ⟨fd, F⟩ := T.d_told_times
  refine ⟨fd, F.ok sctold_times (fun vs H Q E h => ?_) (fun cdv A outer s H vs Q E hr h => ?_), F.bindsN fun _ _ _ _ _ _ us hl => match us, hl with | [_, _], _ => rfl, F.kp⟩
  · obtain ⟨r, l, b, ms, ts, rfl, _⟩ := h; rfl
  · obtain ⟨r, l, b, ms, ts, rfl, ⟨dx, m, xs, hr1, hm, hE⟩, hl, ⟨hA, hlen, hml⟩, k⟩ := h
    refine ⟨_, PSs.nox (pss_cons (ps_expr (pe_call Gcheck_stream (hrM hr) rfl T.g_check_stream kcheck_stream bcheck_stream .nil pass0 (pa_cons (pv 1) pa_nil)))
  (pss_one (ps_ret (pe_call Gtimes_behind (hrM hr) rfl T.g_times_behind ktimes_behind btimes_behind .nil pass0 (pa_cons (feK (K := K) (pv 0)) (pa_cons (pv 1) pa_nil)))))), ?_⟩

    walk_at "s"
    refine ⟨l, b, ts, rfl, hl, ⟨hA, hlen⟩, fun H1 k1 => ?_⟩
    have hr2 := k1 _ _ hr1
    have hl1 := hl.ext k1
    walk_at "s"
    exact ⟨m, l, b, ms, xs, ts, rfl, k1 _ _ hm, hE.mono fun _ _ _ z => z.vp (VP.same k1), hl1, ⟨hA, hlen, hml⟩, fun H2 p k2 np hp => k H2 p (Same.trans k1 k2) (Evl.fresh_back k1 np) hp⟩

theorem ok_law_state (T : Txt K mg) : Cal P w K mg base 1 (He.ga K "_law_state") ["_law_source"] spState := by
  obtain ⟨fd, F⟩ := T.d__law_state
  refine ⟨fd, F.ok sc_law_state (fun vs H Q E h => ?_) (fun cdv A outer s H vs Q E hr h => ?_), F.bindsN fun _ _ _ _ _ _ us hl => match us, hl with | [_], _ => rfl, F.kp⟩
  · obtain ⟨n, rfl, _⟩ := h; rfl
  · obtain ⟨n, rfl, k⟩ := h
    refine ⟨_, PSs.nox (pss_cons (ps_set (i := 0) sc_law_state.nd rfl (Or.inl rfl) (pe_callB call_abs (by rfl) T.n_abs (by decide +kernel) (pa_cons (pv 0) pa_nil)))
  (pss_one (ps_ret (pe_lst (pa_cons (pe_op op_mul (pv 0) (pe_callTy call_int1 (by rfl) T.n_int (by decide +kernel) (pa_cons (pe_cmpR op_ge (pv 0) (pe_op op_pow pe_int pe_int) (nomark _)) pa_nil))) (pa_cons (pe_op op_add (pe_op op_mod (pe_callTy call_int1 (by rfl) T.n_int (by decide +kernel) (pa_cons (pv 0) pa_nil)) pe_int) pe_int) (pa_cons (pe_op op_mod (pe_callTy call_int1 (by rfl) T.n_int (by decide +kernel) (pa_cons (pv 0) pa_nil)) pe_int) pa_nil))))))), ?_⟩

    walk_at "s"
    have hm : 0 ≤ (if n < 0 then -n else n) := by split <;> omega
    generalize (if n < 0 then -n else n) = m at hm ⊢
    refine fun p hp => ?_
    refine k _ p (same_new hp) hp ⟨_, _, _, upd_same, ?_, ?_, ?_⟩
    · refine Int.mul_nonneg hm ?_
      split <;> omega
    · omega
    · omega

theorem ok_law_digit (T : Txt K mg) : Cal P w K mg base 1 (He.ga K "_law_digit") ["_law_state_here", "_law_base"] spDigit := by
  obtain ⟨fd, F⟩ := T.d__law_digit
  refine ⟨fd, F.ok sc_law_digit (fun vs H Q E h => ?_) (fun cdv A outer s H vs Q E hr h => ?_), F.bindsN fun _ _ _ _ _ _ us hl => match us, hl with | [_, _], _ => rfl, F.kp⟩
  · obtain ⟨s, b, rfl, _⟩ := h; rfl
  · obtain ⟨s, b, rfl, hb, ⟨x, y, z, hs, hx, hy, hz⟩, k⟩ := h
    refine ⟨_, PSs.nox (pss_cons (ps_if (pt_cmpR op_gt (pe_ix (ixLK (K := K)) (pv 0) pe_int (fun _ _ => rfl)) pe_int (nomark _)) (pss_cons (ps_set (i := 2) sc_law_digit.nd rfl (Or.inl rfl) (pe_op op_mod (pe_callTy call_int1 (by rfl) T.n_int (by decide +kernel) (pa_cons (pe_ix (ixLK (K := K)) (pv 0) pe_int (fun _ _ => rfl)) pa_nil)) (pv 1)))
  (pss_cons (ps_asg (pe_op op_fdivW (pe_ix (ixLK (K := K)) (pv 0) pe_int (fun _ _ => rfl)) (pv 1)) (pg_sub (pv 0) pe_int set_list))
  (pss_one (ps_ret (pv 2)))))
  pss_nil)
  (pss_cons (ps_set (i := 3) sc_law_digit.nd rfl (Or.inl rfl) (pe_op op_mul (pe_ix (ixLK (K := K)) (pv 0) pe_int (fun _ _ => rfl)) (pe_op op_add (pe_op op_fdiv (pe_ix (ixLK (K := K)) (pv 0) pe_int (fun _ _ => rfl)) pe_int) pe_int)))
  (pss_cons (ps_asg (pe_op op_add (pe_op op_mod (pe_callTy call_int1 (by rfl) T.n_int (by decide +kernel) (pa_cons (pe_op op_add (pv 3) (pe_ix (ixLK (K := K)) (pv 0) pe_int (fun _ _ => rfl))) pa_nil)) pe_int) pe_int) (pg_sub (pv 0) pe_int set_list))
  (pss_one (ps_ret (pe_op op_mod (pe_callTy call_int1 (by rfl) T.n_int (by decide +kernel) (pa_cons (pe_op op_fdiv (pe_ix (ixLK (K := K)) (pv 0) pe_int (fun _ _ => rfl)) pe_int) pa_nil)) (pv 1))))))), ?_⟩

    walk_at "s"
    refine ite2 (fun hc => ?_) (fun hc => ?_)
    · have hx0 : 0 < x := of_decide_eq_true hc
      walk_at "s"
      exact k _ _ but_upd ⟨x / b, y, z, upd_same, Int.ediv_nonneg hx (by omega), hy, hz⟩ (Int.emod_nonneg _ (by omega)) (Int.emod_lt_of_pos _ hb.1)
    · walk_at "s"
      exact k _ _ but_upd ⟨x, _, z, upd_same, hx, (by omega), hz⟩ (Int.emod_nonneg _ (by omega)) (Int.emod_lt_of_pos _ hb.1)

theorem oklaw (T : Txt K mg) : Cal P w K mg base 11 (He.ga K "law") ["_law_script"] (spLaw K) := by
  obtain ⟨fdDelayX_initX, GDelayX_initX, bDelayX_initX, kDelayX_initX⟩ := okDelayX_initX (P := P) (w := w) (base := base) T
  obtain ⟨fdFirstX_initX, GFirstX_initX, bFirstX_initX, kFirstX_initX⟩ := okFirstX_initX (P := P) (w := w) (base := base) T
  obtain ⟨fdLastX_initX, GLastX_initX, bLastX_initX, kLastX_initX⟩ := okLastX_initX (P := P) (w := w) (base := base) T
  obtain ⟨fdLimitX_initX, GLimitX_initX, bLimitX_initX, kLimitX_initX⟩ := okLimitX_initX (P := P) (w := w) (base := base) T
  obtain ⟨fdRowX_initX, GRowX_initX, bRowX_initX, kRowX_initX⟩ := okRowX_initX (P := P) (w := w) (base := base) T
  obtain ⟨fd_law_digit, G_law_digit, b_law_digit, k_law_digit⟩ := ok_law_digit (P := P) (w := w) (base := base) T
  obtain ⟨fd_law_state, G_law_state, b_law_state, k_law_state⟩ := ok_law_state (P := P) (w := w) (base := base) T
  obtain ⟨fdtold_events, Gtold_events, btold_events, ktold_events⟩ := oktold_events (P := P) (w := w) (base := base) T
  obtain ⟨fdtold_times, Gtold_times, btold_times, ktold_times⟩ := oktold_times (P := P) (w := w) (base := base) T
  obtain ⟨fd, F⟩ := T.d_law
  refine ⟨fd, F.ok sclaw (fun vs H Q E h => ?_) (fun cdv A outer s H vs Q E hr h => ?_), F.bindsN fun _ _ _ _ _ _ us hl => match us, hl with | [_], _ => rfl, F.kp⟩
  · obtain ⟨a, ns, rfl, _⟩ := h; rfl
  · obtain ⟨a, ns, rfl, ha, hlen, k⟩ := h
    refine ⟨_, PSs.nox (pss_cons (ps_for PassesOwn.never rfl (piLK (K := K) (pe_slice (slLK (K := K)) (pe_op (catK (K := K)) (pv 0) (pe_lst (pa_cons pe_int pa_nil))) po_none (po_some pe_int))) (pg_name (i := 1) sclaw.nd rfl (Or.inl rfl))
  (pss_cons (ps_set (i := 2) sclaw.nd rfl (Or.inl rfl) (pe_call G_law_state (hrM hr) rfl T.g__law_state k_law_state b_law_state .nil pass0 (pa_cons (pv 1) pa_nil)))
  (pss_cons (ps_asg (pe_tup (pa_cons (pe_op op_sub (pe_call G_law_digit (hrM hr) rfl T.g__law_digit k_law_digit b_law_digit .nil pass0 (pa_cons (pv 2) (pa_cons (pe_op op_pow pe_int pe_int) pa_nil))) (pe_op op_mul pe_int (pe_op op_pow pe_int pe_int))) (pa_cons (pe_op op_add pe_int (pe_call G_law_digit (hrM hr) rfl T.g__law_digit k_law_digit b_law_digit .nil pass0 (pa_cons (pv 2) (pa_cons (pe_op op_pow pe_int pe_int) pa_nil)))) pa_nil))) (pg_tup (by rfl) (pgs_cons (pg_name (i := 3) sclaw.nd rfl (Or.inr rfl)) (pgs_cons (pg_name (i := 4) sclaw.nd rfl (Or.inr rfl)) pgs_nil))))
  (pss_cons (ps_set (i := 5) sclaw.nd rfl (Or.inl rfl) (pe_lst (pa_cons (pe_tup (pa_cons (pe_lst (pa_cons (pe_make T.k_Last GLastX_initX (hrM hr) rfl T.g_Last bLastX_initX .nil pass0 (pa_cons (pe_op op_mul pe_int (pv 4)) pa_nil)) pa_nil)) (pa_cons (pe_lst (pa_cons pe_int (pa_cons pe_int (pa_cons pe_int (pa_cons pe_int (pa_cons pe_int pa_nil)))))) (pa_cons (pe_lst (pa_cons pe_int (pa_cons pe_int pa_nil))) (pa_cons pe_int pa_nil))))) (pa_cons (pe_tup (pa_cons (pe_lst (pa_cons (pe_make T.k_First GFirstX_initX (hrM hr) rfl T.g_First bFirstX_initX .nil pass0 (pa_cons (pe_op op_mul pe_int (pv 4)) pa_nil)) pa_nil)) (pa_cons (pe_lst (pa_cons pe_int (pa_cons pe_int (pa_cons pe_int (pa_cons pe_int (pa_cons pe_int pa_nil)))))) (pa_cons (pe_lst (pa_cons pe_int (pa_cons pe_int pa_nil))) (pa_cons pe_int pa_nil))))) pa_nil))))
  (pss_cons (ps_set (i := 5) sclaw.nd rfl (Or.inl rfl) (pe_op (catK (K := K)) (pv 5) (pe_lst (pa_cons (pe_tup (pa_cons (pe_lst (pa_cons (pe_make T.k_Limit GLimitX_initX (hrM hr) rfl T.g_Limit bLimitX_initX .nil pass0 (pa_cons (pe_op op_mul pe_int (pv 4)) pa_nil)) pa_nil)) (pa_cons (pe_lst (pa_cons pe_int (pa_cons pe_int (pa_cons pe_int (pa_cons pe_int (pa_cons pe_int pa_nil)))))) (pa_cons (pe_lst (pa_cons pe_int (pa_cons pe_int pa_nil))) (pa_cons pe_int pa_nil))))) (pa_cons (pe_tup (pa_cons (pe_lst (pa_cons (pe_make T.k_First GFirstX_initX (hrM hr) rfl T.g_First bFirstX_initX .nil pass0 (pa_cons (pe_op op_mul pe_int (pv 4)) pa_nil)) pa_nil)) (pa_cons (pe_lst (pa_cons pe_int (pa_cons pe_int (pa_cons pe_int (pa_cons pe_int pa_nil))))) (pa_cons (pe_lst (pa_cons pe_int pa_nil)) (pa_cons pe_int pa_nil))))) pa_nil)))))
  (pss_cons (ps_set (i := 5) sclaw.nd rfl (Or.inl rfl) (pe_op (catK (K := K)) (pv 5) (pe_lst (pa_cons (pe_tup (pa_cons (pe_lst (pa_cons (pe_make T.k_Limit GLimitX_initX (hrM hr) rfl T.g_Limit bLimitX_initX .nil pass0 (pa_cons (pe_op op_mul pe_int (pv 4)) pa_nil)) pa_nil)) (pa_cons (pe_lst (pa_cons pe_int (pa_cons pe_int (pa_cons pe_int (pa_cons pe_int pa_nil))))) (pa_cons (pe_lst (pa_cons pe_int (pa_cons pe_int pa_nil))) (pa_cons pe_int pa_nil))))) (pa_cons (pe_tup (pa_cons (pe_lst (pa_cons (pe_make T.k_Last GLastX_initX (hrM hr) rfl T.g_Last bLastX_initX .nil pass0 (pa_cons (pe_op op_mul pe_int (pv 4)) pa_nil)) pa_nil)) (pa_cons (pe_lst (pa_cons pe_int (pa_cons pe_int (pa_cons pe_int (pa_cons pe_int pa_nil))))) (pa_cons (pe_lst (pa_cons pe_int (pa_cons pe_int (pa_cons pe_int pa_nil)))) (pa_cons pe_int pa_nil))))) pa_nil)))))
  (pss_cons (ps_set (i := 5) sclaw.nd rfl (Or.inl rfl) (pe_op (catK (K := K)) (pv 5) (pe_lst (pa_cons (pe_tup (pa_cons (pe_lst (pa_cons (pe_make T.k_Limit GLimitX_initX (hrM hr) rfl T.g_Limit bLimitX_initX .nil pass0 (pa_cons (pe_op op_mul pe_int (pv 4)) pa_nil)) (pa_cons (pe_make T.k_Limit GLimitX_initX (hrM hr) rfl T.g_Limit bLimitX_initX .nil pass0 (pa_cons (pe_op op_mul pe_int (pv 4)) pa_nil)) pa_nil))) (pa_cons (pe_lst (pa_cons pe_int (pa_cons pe_int (pa_cons pe_int (pa_cons pe_int pa_nil))))) (pa_cons (pe_lst (pa_cons pe_int (pa_cons pe_int pa_nil))) (pa_cons pe_int pa_nil))))) pa_nil))))
  (pss_cons (ps_set (i := 5) sclaw.nd rfl (Or.inl rfl) (pe_op (catK (K := K)) (pv 5) (pe_lst (pa_cons (pe_tup (pa_cons (pe_lst (pa_cons (pe_make T.k_Limit GLimitX_initX (hrM hr) rfl T.g_Limit bLimitX_initX .nil pass0 (pa_cons (pe_op op_mul pe_int (pv 4)) pa_nil)) pa_nil)) (pa_cons (pe_lst (pa_cons pe_int (pa_cons pe_int (pa_cons pe_int (pa_cons pe_int pa_nil))))) (pa_cons (pe_lst (pa_cons pe_int (pa_cons pe_int pa_nil))) (pa_cons pe_int pa_nil))))) pa_nil))))
  (pss_cons (ps_set (i := 5) sclaw.nd rfl (Or.inl rfl) (pe_op (catK (K := K)) (pv 5) (pe_lst (pa_cons (pe_tup (pa_cons (pe_lst (pa_cons (pe_make T.k_Last GLastX_initX (hrM hr) rfl T.g_Last bLastX_initX .nil pass0 (pa_cons (pe_op op_mul pe_int (pv 4)) pa_nil)) (pa_cons (pe_make T.k_Last GLastX_initX (hrM hr) rfl T.g_Last bLastX_initX .nil pass0 (pa_cons (pe_op op_mul pe_int (pv 4)) pa_nil)) pa_nil))) (pa_cons (pe_lst (pa_cons pe_int (pa_cons pe_int (pa_cons pe_int (pa_cons pe_int (pa_cons pe_int (pa_cons pe_int pa_nil))))))) (pa_cons (pe_lst (pa_cons pe_int (pa_cons pe_int (pa_cons pe_int (pa_cons pe_int pa_nil))))) (pa_cons pe_int pa_nil))))) pa_nil))))
  (pss_cons (ps_set (i := 5) sclaw.nd rfl (Or.inl rfl) (pe_op (catK (K := K)) (pv 5) (pe_lst (pa_cons (pe_tup (pa_cons (pe_lst (pa_cons (pe_make T.k_Last GLastX_initX (hrM hr) rfl T.g_Last bLastX_initX .nil pass0 (pa_cons (pe_op op_mul pe_int (pv 4)) pa_nil)) pa_nil)) (pa_cons (pe_lst (pa_cons pe_int (pa_cons pe_int (pa_cons pe_int (pa_cons pe_int (pa_cons pe_int (pa_cons pe_int pa_nil))))))) (pa_cons (pe_lst (pa_cons pe_int (pa_cons pe_int pa_nil))) (pa_cons pe_int pa_nil))))) pa_nil))))
  (pss_cons (ps_set (i := 5) sclaw.nd rfl (Or.inl rfl) (pe_op (catK (K := K)) (pv 5) (pe_lst (pa_cons (pe_tup (pa_cons (pe_lst (pa_cons (pe_make T.k_First GFirstX_initX (hrM hr) rfl T.g_First bFirstX_initX .nil pass0 (pa_cons (pe_op op_mul pe_int (pv 4)) pa_nil)) (pa_cons (pe_make T.k_Last GLastX_initX (hrM hr) rfl T.g_Last bLastX_initX .nil pass0 (pa_cons (pe_op op_mul pe_int (pv 4)) pa_nil)) pa_nil))) (pa_cons (pe_lst (pa_cons pe_int (pa_cons pe_int (pa_cons pe_int (pa_cons pe_int (pa_cons pe_int pa_nil)))))) (pa_cons (pe_lst (pa_cons pe_int (pa_cons pe_int pa_nil))) (pa_cons pe_int pa_nil))))) pa_nil))))
  (pss_cons (ps_set (i := 5) sclaw.nd rfl (Or.inl rfl) (pe_op (catK (K := K)) (pv 5) (pe_lst (pa_cons (pe_tup (pa_cons (pe_lst (pa_cons (pe_make T.k_Last GLastX_initX (hrM hr) rfl T.g_Last bLastX_initX .nil pass0 (pa_cons (pe_op op_mul pe_int (pv 4)) pa_nil)) (pa_cons (pe_make T.k_Delay GDelayX_initX (hrM hr) rfl T.g_Delay bDelayX_initX .nil pass0 (pa_cons (pv 4) pa_nil)) pa_nil))) (pa_cons (pe_lst (pa_cons pe_int (pa_cons pe_int (pa_cons pe_int (pa_cons pe_int (pa_cons pe_int pa_nil)))))) (pa_cons (pe_lst (pa_cons pe_int (pa_cons pe_int pa_nil))) (pa_cons pe_int pa_nil))))) pa_nil))))
  (pss_cons (ps_set (i := 5) sclaw.nd rfl (Or.inl rfl) (pe_op (catK (K := K)) (pv 5) (pe_lst (pa_cons (pe_tup (pa_cons (pe_lst pa_nil) (pa_cons (pe_lst (pa_cons pe_int (pa_cons pe_int (pa_cons pe_int pa_nil)))) (pa_cons (pe_lst (pa_cons pe_int (pa_cons pe_int (pa_cons pe_int pa_nil)))) (pa_cons pe_int pa_nil))))) (pa_cons (pe_tup (pa_cons (pe_lst (pa_cons (pe_make T.k_Last GLastX_initX (hrM hr) rfl T.g_Last bLastX_initX .nil pass0 (pa_cons (pv 4) pa_nil)) (pa_cons (pe_make T.k_First GFirstX_initX (hrM hr) rfl T.g_First bFirstX_initX .nil pass0 (pa_cons (pv 4) pa_nil)) (pa_cons (pe_make T.k_Limit GLimitX_initX (hrM hr) rfl T.g_Limit bLimitX_initX .nil pass0 (pa_cons (pv 4) pa_nil)) pa_nil)))) (pa_cons (pe_lst (pa_cons pe_int (pa_cons pe_int (pa_cons pe_int pa_nil)))) (pa_cons (pe_lst (pa_cons pe_int (pa_cons pe_int (pa_cons pe_int pa_nil)))) (pa_cons pe_int pa_nil))))) pa_nil)))))
  (pss_cons (ps_for PassesOwn.never rfl (piLK (K := K) (pv 5)) (pg_tup (by rfl) (pgs_cons (pg_name (i := 6) sclaw.nd rfl (Or.inl rfl)) (pgs_cons (pg_name (i := 7) sclaw.nd rfl (Or.inl rfl)) (pgs_cons (pg_name (i := 8) sclaw.nd rfl (Or.inl rfl)) (pgs_cons (pg_name (i := 9) sclaw.nd rfl (Or.inr rfl)) pgs_nil)))))
  (pss_cons (ps_set (i := 10) sclaw.nd rfl (Or.inr rfl) (pe_lc (own := [("_law_place", 13)]) (g := (gName 13)) (tt := tYes) (by rfl) sclaw.nd (piLK (K := K) (pv 7)) (blkOk_by (own := [("_law_place", 13)]) (N := ["_law_script", "_law_cell", "_law_s", "_law_begin", "_law_step", "_law_rows", "_law_members", "_law_places", "_law_numbers", "_law_late", "_law_stream", "_law_row", "_law_found", "_law_place", "_law_one", "_law_number"]) (sc := defScope slaw) (by decide +kernel)) (fun _ _ _ _ _ => (pg_name (i := 13) sclaw.nd rfl (Or.inl rfl))) (fun _ _ _ _ _ => pts_nil) (fun _ _ _ _ _ => (pe_op op_add (pv 3) (pe_op op_mul (pv 4) (pv 13))))))
  (pss_cons (ps_set (i := 11) sclaw.nd rfl (Or.inl rfl) (pe_make T.k_Row GRowX_initX (hrM hr) rfl T.g_Row bRowX_initX .nil pass0 (pa_cons (pv 6) pa_nil)))
  (pss_cons (ps_if (pt_cmpR (neTK (K := K) (List (Int)) (hu64 hr)) (pe_lc (own := [("_law_one", 14)]) (g := (gName 14)) (tt := tYes) (by rfl) sclaw.nd (piLK (K := K) (pe_call Gtold_events (hrM hr) rfl T.g_told_events ktold_events btold_events .nil pass0 (pa_cons (pv 11) (pa_cons (pv 10) pa_nil)))) (blkOk_by (own := [("_law_one", 14)]) (N := ["_law_script", "_law_cell", "_law_s", "_law_begin", "_law_step", "_law_rows", "_law_members", "_law_places", "_law_numbers", "_law_late", "_law_stream", "_law_row", "_law_found", "_law_place", "_law_one", "_law_number"]) (sc := defScope slaw) (by decide +kernel)) (fun _ _ _ _ _ => (pg_name (i := 14) sclaw.nd rfl (Or.inl rfl))) (fun _ _ _ _ _ => pts_nil) (fun _ _ _ _ _ => (feK (K := K) (pv 14)))) (pv 8) (nomark _)) (pss_one (ps_ret pe_bl))
  pss_nil)
  (pss_one (ps_if (pt_cmpR (neTK (K := K) (List (Int)) (hu64 hr)) (pe_call Gtold_times (hrM hr) rfl T.g_told_times ktold_times btold_times .nil pass0 (pa_cons (pv 11) (pa_cons (pv 10) pa_nil))) (pe_lc (own := [("_law_number", 15)]) (g := (gName 15)) (tt := tYes) (by rfl) sclaw.nd (piLK (K := K) (pv 8)) (blkOk_by (own := [("_law_number", 15)]) (N := ["_law_script", "_law_cell", "_law_s", "_law_begin", "_law_step", "_law_rows", "_law_members", "_law_places", "_law_numbers", "_law_late", "_law_stream", "_law_row", "_law_found", "_law_place", "_law_one", "_law_number"]) (sc := defScope slaw) (by decide +kernel)) (fun _ _ _ _ _ => (pg_name (i := 15) sclaw.nd rfl (Or.inl rfl))) (fun _ _ _ _ _ => pts_nil) (fun _ _ _ _ _ => (pe_op op_add (pe_ix (ixLK (K := K)) (pv 10) (pv 15) (fun _ _ => rfl)) (pe_op op_mul (pv 4) (pv 9))))) (nomark _)) (pss_one (ps_ret pe_bl))
  pss_nil))))))
  (pss_cons (ps_set (i := 10) sclaw.nd rfl (Or.inr rfl) (pe_lc (own := [("_law_place", 13)]) (g := (gName 13)) (tt := tYes) (by rfl) sclaw.nd (piLK (K := K) (pe_lst (pa_cons pe_int (pa_cons pe_int (pa_cons pe_int (pa_cons pe_int (pa_cons pe_int (pa_cons pe_int pa_nil)))))))) (blkOk_by (own := [("_law_place", 13)]) (N := ["_law_script", "_law_cell", "_law_s", "_law_begin", "_law_step", "_law_rows", "_law_members", "_law_places", "_law_numbers", "_law_late", "_law_stream", "_law_row", "_law_found", "_law_place", "_law_one", "_law_number"]) (sc := defScope slaw) (by decide +kernel)) (fun _ _ _ _ _ => (pg_name (i := 13) sclaw.nd rfl (Or.inl rfl))) (fun _ _ _ _ _ => pts_nil) (fun _ _ _ _ _ => (pe_op op_add (pv 3) (pe_op op_mul (pv 4) (pv 13))))))
  (pss_cons (ps_set (i := 12) sclaw.nd rfl (Or.inl rfl) (pe_call Gtold_events (hrM hr) rfl T.g_told_events ktold_events btold_events .nil pass0 (pa_cons (pe_make T.k_Row GRowX_initX (hrM hr) rfl T.g_Row bRowX_initX .nil pass0 (pa_cons (pe_lst (pa_cons (pe_make T.k_First GFirstX_initX (hrM hr) rfl T.g_First bFirstX_initX .nil pass0 (pa_cons (pe_op op_mul pe_int (pv 4)) pa_nil)) (pa_cons (pe_make T.k_Last GLastX_initX (hrM hr) rfl T.g_Last bLastX_initX .nil pass0 (pa_cons (pe_op op_mul pe_int (pv 4)) pa_nil)) pa_nil))) pa_nil)) (pa_cons (pv 10) pa_nil))))
  (pss_cons (ps_if (pt_cmpR (neTK (K := K) (List (PySem.W.Tup (Int))) (hu64 hr)) (pe_lc (own := [("_law_one", 14)]) (g := (gName 14)) (tt := tYes) (by rfl) sclaw.nd (piLK (K := K) (pv 12)) (blkOk_by (own := [("_law_one", 14)]) (N := ["_law_script", "_law_cell", "_law_s", "_law_begin", "_law_step", "_law_rows", "_law_members", "_law_places", "_law_numbers", "_law_late", "_law_stream", "_law_row", "_law_found", "_law_place", "_law_one", "_law_number"]) (sc := defScope slaw) (by decide +kernel)) (fun _ _ _ _ _ => (pg_name (i := 14) sclaw.nd rfl (Or.inl rfl))) (fun _ _ _ _ _ => pts_nil) (fun _ _ _ _ _ => (pe_tup (pa_cons (feK (K := K) (pv 14)) (pa_cons (feK (K := K) (pv 14)) (pa_cons (feK (K := K) (pv 14)) pa_nil)))))) (pe_lst (pa_cons (pe_tup (pa_cons pe_int (pa_cons pe_int (pa_cons pe_int pa_nil)))) (pa_cons (pe_tup (pa_cons pe_int (pa_cons pe_int (pa_cons pe_int pa_nil)))) pa_nil))) (nomark _)) (pss_one (ps_ret pe_bl))
  pss_nil)
  (pss_cons (ps_set (i := 12) sclaw.nd rfl (Or.inl rfl) (pe_call Gtold_events (hrM hr) rfl T.g_told_events ktold_events btold_events .nil pass0 (pa_cons (pe_make T.k_Row GRowX_initX (hrM hr) rfl T.g_Row bRowX_initX .nil pass0 (pa_cons (pe_lst (pa_cons (pe_make T.k_Last GLastX_initX (hrM hr) rfl T.g_Last bLastX_initX .nil pass0 (pa_cons (pe_op op_mul pe_int (pv 4)) pa_nil)) (pa_cons (pe_make T.k_First GFirstX_initX (hrM hr) rfl T.g_First bFirstX_initX .nil pass0 (pa_cons (pe_op op_mul pe_int (pv 4)) pa_nil)) pa_nil))) pa_nil)) (pa_cons (pv 10) pa_nil))))
  (pss_one (ps_if (pt_cmpR (neTK (K := K) (List (PySem.W.Tup (Int))) (hu64 hr)) (pe_lc (own := [("_law_one", 14)]) (g := (gName 14)) (tt := tYes) (by rfl) sclaw.nd (piLK (K := K) (pv 12)) (blkOk_by (own := [("_law_one", 14)]) (N := ["_law_script", "_law_cell", "_law_s", "_law_begin", "_law_step", "_law_rows", "_law_members", "_law_places", "_law_numbers", "_law_late", "_law_stream", "_law_row", "_law_found", "_law_place", "_law_one", "_law_number"]) (sc := defScope slaw) (by decide +kernel)) (fun _ _ _ _ _ => (pg_name (i := 14) sclaw.nd rfl (Or.inl rfl))) (fun _ _ _ _ _ => pts_nil) (fun _ _ _ _ _ => (pe_tup (pa_cons (feK (K := K) (pv 14)) (pa_cons (feK (K := K) (pv 14)) (pa_cons (feK (K := K) (pv 14)) pa_nil)))))) (pe_lst (pa_cons (pe_tup (pa_cons pe_int (pa_cons pe_int (pa_cons pe_int pa_nil)))) (pa_cons (pe_tup (pa_cons pe_int (pa_cons pe_int (pa_cons pe_int pa_nil)))) pa_nil))) (nomark _)) (pss_one (ps_ret pe_bl))
  pss_nil))))))))))))))))))))
  (pss_one (ps_ret pe_bl))), ?_⟩

    generalize hxs : cutV (ns.map V.int ++ [V.int 0]) none (some 3) = xs0
    refine Evl.q_forNLn (xs := xs0) (el_isL (el_slN (el_catV (Evl.ev_var rfl) ha (Evl.el_lst (vs := [V.int 0]) (Evl.ea_cons Evl.ev_c Evl.ea_nil) (by decide)) (by simp; omega)) Evl.eo_none (Evl.eo_some Evl.ev_c)) hxs) (fun p i σ H' => (∃ v1 v2 v3 v4 v5 v6 v7 v8 v9 v10 v11 v12 v13 v14 v15, σ = [some (.ref a), v1, v2, v3, v4, v5, v6, v7, v8, v9, v10, v11, v12, v13, v14, v15]) ∧ H' p = some (.lst xs0)) (fun p H1 np k1 hp => ⟨⟨none, none, none, none, none, none, none, none, none, none, none, none, none, none, none, rfl⟩, hp⟩) (fun p i σ H' _ h => SqL.of h.2) ?_ ?_
    · rintro p i x σ H1 hx ⟨⟨v1, v2, v3, v4, v5, v6, v7, v8, v9, v10, v11, v12, v13, v14, v15, rfl⟩, hp⟩
      rw [← hxs] at hx
      obtain ⟨z, rfl⟩ := cell_int hx
      walk_at "s"
      refine fun H2 s k2 ns2 st2 => ?_
      have hp2 := k2 _ _ hp
      have hps : p ≠ s := ne_of_none hp ns2
      walk_at "s"
      refine fun H3 d1 k3 st3 da1 db1 => ?_
      have hp3 : H3 p = some (.lst xs0) := by walk_at "hp"
      walk_at "s"
      refine fun H4 d2 k4 st4 da2 db2 => ?_
      have hp4 : H4 p = some (.lst xs0) := by walk_at "hp"
      walk_at "s"
      refine fun T0 nT0 => ?_
      have kT0 := same_new (o := .tup [.int (d1 - 5 * 10 ^ (Int.toNat 8)), .int (1 + d2)]) nT0
      have hT0 : (upd H4 T0 (.tup [.int (d1 - 5 * 10 ^ (Int.toNat 8)), .int (1 + d2)])) T0 = some (.tup [.int (d1 - 5 * 10 ^ (Int.toNat 8)), .int (1 + d2)]) := upd_same
      have hp5 := kT0 _ _ hp4
      generalize upd H4 T0 (.tup [.int (d1 - 5 * 10 ^ (Int.toNat 8)), .int (1 + d2)]) = H5 at kT0 hT0 hp5 ⊢
      generalize d1 - 5 * 10 ^ (Int.toNat 8) = b at hT0 ⊢
      have hcc : 1 ≤ 1 + d2 ∧ 1 + d2 ≤ 1000001 := ⟨by omega, by have : d2 < (10 : Int) ^ (Int.toNat 6) := db2; have h6 : (10 : Int) ^ (Int.toNat 6) = 1000000 := (by decide); omega⟩
      generalize 1 + d2 = c at hT0 hcc ⊢
      obtain ⟨hc1, hc2⟩ := hcc
      refine ⟨_, _, rfl, SqT.of hT0, rfl, ?_⟩
      refine ⟨_, _, rfl, ?_⟩
      refine ⟨_, _, rfl, ?_⟩
      refine ⟨rfl, ?_⟩
      dsimp only
      refine q_rows0 (K := K) (c := c) (ds := [⟨[(.last, 3)], [0, 1, 2, 5, 7], [2, 4], 3⟩, ⟨[(.first, 3)], [0, 1, 2, 5, 7], [0, 3], 0⟩]) ?_ (by simp) fun L0 HA0 vs0 kA0 hL0 hE0 => ?_
      · exact (rs_cons (row_ev (ms_cons (kd := .last) (q := 3) (least := 1) (fun H => Evl.ev_op Evl.ev_c (Evl.ev_var rfl) (Evl.rv_I (by unfold CMul; omega))) (by omega) (by omega) ms_nil) (is_cons (is_cons (is_cons (is_cons (is_cons is_nil))))) (is_cons (is_cons is_nil)) (by simp) (by simp) (by simp)) (rs_cons (row_ev (ms_cons (kd := .first) (q := 3) (least := 1) (fun H => Evl.ev_op Evl.ev_c (Evl.ev_var rfl) (Evl.rv_I (by unfold CMul; omega))) (by omega) (by omega) ms_nil) (is_cons (is_cons (is_cons (is_cons (is_cons is_nil))))) (is_cons (is_cons is_nil)) (by simp) (by simp) (by simp)) rs_nil))
      have hpA0 := kA0 _ _ hp5
      refine q_rows1 (K := K) (c := c) (ds := [⟨[(.last, 3)], [0, 1, 2, 5, 7], [2, 4], 3⟩, ⟨[(.first, 3)], [0, 1, 2, 5, 7], [0, 3], 0⟩]) (ds' := [⟨[(.limit, 3)], [0, 1, 2, 5, 7], [0, 3], 0⟩, ⟨[(.first, 3)], [0, 2, 4, 6], [0], 0⟩]) rfl hL0 hE0 ?_ (by simp) fun L1 HA1 vs1 kA1 hL1 hE1 => ?_
      · exact (rs_cons (row_ev (ms_cons (kd := .limit) (q := 3) (least := 1) (fun H => Evl.ev_op Evl.ev_c (Evl.ev_var rfl) (Evl.rv_I (by unfold CMul; omega))) (by omega) (by omega) ms_nil) (is_cons (is_cons (is_cons (is_cons (is_cons is_nil))))) (is_cons (is_cons is_nil)) (by simp) (by simp) (by simp)) (rs_cons (row_ev (ms_cons (kd := .first) (q := 3) (least := 1) (fun H => Evl.ev_op Evl.ev_c (Evl.ev_var rfl) (Evl.rv_I (by unfold CMul; omega))) (by omega) (by omega) ms_nil) (is_cons (is_cons (is_cons (is_cons is_nil)))) (is_cons is_nil) (by simp) (by simp) (by simp)) rs_nil))
      have hpA1 := kA1 _ _ hpA0
      refine q_rows1 (K := K) (c := c) (ds := ([⟨[(.last, 3)], [0, 1, 2, 5, 7], [2, 4], 3⟩, ⟨[(.first, 3)], [0, 1, 2, 5, 7], [0, 3], 0⟩] ++ [⟨[(.limit, 3)], [0, 1, 2, 5, 7], [0, 3], 0⟩, ⟨[(.first, 3)], [0, 2, 4, 6], [0], 0⟩])) (ds' := [⟨[(.limit, 3)], [0, 2, 4, 6], [0, 2], 0⟩, ⟨[(.last, 2)], [0, 2, 3, 5], [0, 2, 3], 2⟩]) rfl hL1 hE1 ?_ (by simp) fun L2 HA2 vs2 kA2 hL2 hE2 => ?_
      · exact (rs_cons (row_ev (ms_cons (kd := .limit) (q := 3) (least := 1) (fun H => Evl.ev_op Evl.ev_c (Evl.ev_var rfl) (Evl.rv_I (by unfold CMul; omega))) (by omega) (by omega) ms_nil) (is_cons (is_cons (is_cons (is_cons is_nil)))) (is_cons (is_cons is_nil)) (by simp) (by simp) (by simp)) (rs_cons (row_ev (ms_cons (kd := .last) (q := 2) (least := 1) (fun H => Evl.ev_op Evl.ev_c (Evl.ev_var rfl) (Evl.rv_I (by unfold CMul; omega))) (by omega) (by omega) ms_nil) (is_cons (is_cons (is_cons (is_cons is_nil)))) (is_cons (is_cons (is_cons is_nil))) (by simp) (by simp) (by simp)) rs_nil))
      have hpA2 := kA2 _ _ hpA1
      refine q_rows1 (K := K) (c := c) (ds := (([⟨[(.last, 3)], [0, 1, 2, 5, 7], [2, 4], 3⟩, ⟨[(.first, 3)], [0, 1, 2, 5, 7], [0, 3], 0⟩] ++ [⟨[(.limit, 3)], [0, 1, 2, 5, 7], [0, 3], 0⟩, ⟨[(.first, 3)], [0, 2, 4, 6], [0], 0⟩]) ++ [⟨[(.limit, 3)], [0, 2, 4, 6], [0, 2], 0⟩, ⟨[(.last, 2)], [0, 2, 3, 5], [0, 2, 3], 2⟩])) (ds' := [⟨[(.limit, 2), (.limit, 3)], [0, 2, 3, 5], [0, 3], 0⟩]) rfl hL2 hE2 ?_ (by simp) fun L3 HA3 vs3 kA3 hL3 hE3 => ?_
      · exact (rs_cons (row_ev (ms_cons (kd := .limit) (q := 2) (least := 1) (fun H => Evl.ev_op Evl.ev_c (Evl.ev_var rfl) (Evl.rv_I (by unfold CMul; omega))) (by omega) (by omega) (ms_cons (kd := .limit) (q := 3) (least := 1) (fun H => Evl.ev_op Evl.ev_c (Evl.ev_var rfl) (Evl.rv_I (by unfold CMul; omega))) (by omega) (by omega) ms_nil)) (is_cons (is_cons (is_cons (is_cons is_nil)))) (is_cons (is_cons is_nil)) (by simp) (by simp) (by simp)) rs_nil)
      have hpA3 := kA3 _ _ hpA2
      refine q_rows1 (K := K) (c := c) (ds := ((([⟨[(.last, 3)], [0, 1, 2, 5, 7], [2, 4], 3⟩, ⟨[(.first, 3)], [0, 1, 2, 5, 7], [0, 3], 0⟩] ++ [⟨[(.limit, 3)], [0, 1, 2, 5, 7], [0, 3], 0⟩, ⟨[(.first, 3)], [0, 2, 4, 6], [0], 0⟩]) ++ [⟨[(.limit, 3)], [0, 2, 4, 6], [0, 2], 0⟩, ⟨[(.last, 2)], [0, 2, 3, 5], [0, 2, 3], 2⟩]) ++ [⟨[(.limit, 2), (.limit, 3)], [0, 2, 3, 5], [0, 3], 0⟩])) (ds' := [⟨[(.limit, 3)], [0, 2, 3, 5], [0, 2], 0⟩]) rfl hL3 hE3 ?_ (by simp) fun L4 HA4 vs4 kA4 hL4 hE4 => ?_
      · exact (rs_cons (row_ev (ms_cons (kd := .limit) (q := 3) (least := 1) (fun H => Evl.ev_op Evl.ev_c (Evl.ev_var rfl) (Evl.rv_I (by unfold CMul; omega))) (by omega) (by omega) ms_nil) (is_cons (is_cons (is_cons (is_cons is_nil)))) (is_cons (is_cons is_nil)) (by simp) (by simp) (by simp)) rs_nil)
      have hpA4 := kA4 _ _ hpA3
      refine q_rows1 (K := K) (c := c) (ds := (((([⟨[(.last, 3)], [0, 1, 2, 5, 7], [2, 4], 3⟩, ⟨[(.first, 3)], [0, 1, 2, 5, 7], [0, 3], 0⟩] ++ [⟨[(.limit, 3)], [0, 1, 2, 5, 7], [0, 3], 0⟩, ⟨[(.first, 3)], [0, 2, 4, 6], [0], 0⟩]) ++ [⟨[(.limit, 3)], [0, 2, 4, 6], [0, 2], 0⟩, ⟨[(.last, 2)], [0, 2, 3, 5], [0, 2, 3], 2⟩]) ++ [⟨[(.limit, 2), (.limit, 3)], [0, 2, 3, 5], [0, 3], 0⟩]) ++ [⟨[(.limit, 3)], [0, 2, 3, 5], [0, 2], 0⟩])) (ds' := [⟨[(.last, 2), (.last, 3)], [0, 3, 5, 6, 8, 9], [0, 1, 3, 5], 5⟩]) rfl hL4 hE4 ?_ (by simp) fun L5 HA5 vs5 kA5 hL5 hE5 => ?_
      · exact (rs_cons (row_ev (ms_cons (kd := .last) (q := 2) (least := 1) (fun H => Evl.ev_op Evl.ev_c (Evl.ev_var rfl) (Evl.rv_I (by unfold CMul; omega))) (by omega) (by omega) (ms_cons (kd := .last) (q := 3) (least := 1) (fun H => Evl.ev_op Evl.ev_c (Evl.ev_var rfl) (Evl.rv_I (by unfold CMul; omega))) (by omega) (by omega) ms_nil)) (is_cons (is_cons (is_cons (is_cons (is_cons (is_cons is_nil)))))) (is_cons (is_cons (is_cons (is_cons is_nil)))) (by simp) (by simp) (by simp)) rs_nil)
      have hpA5 := kA5 _ _ hpA4
      refine q_rows1 (K := K) (c := c) (ds := ((((([⟨[(.last, 3)], [0, 1, 2, 5, 7], [2, 4], 3⟩, ⟨[(.first, 3)], [0, 1, 2, 5, 7], [0, 3], 0⟩] ++ [⟨[(.limit, 3)], [0, 1, 2, 5, 7], [0, 3], 0⟩, ⟨[(.first, 3)], [0, 2, 4, 6], [0], 0⟩]) ++ [⟨[(.limit, 3)], [0, 2, 4, 6], [0, 2], 0⟩, ⟨[(.last, 2)], [0, 2, 3, 5], [0, 2, 3], 2⟩]) ++ [⟨[(.limit, 2), (.limit, 3)], [0, 2, 3, 5], [0, 3], 0⟩]) ++ [⟨[(.limit, 3)], [0, 2, 3, 5], [0, 2], 0⟩]) ++ [⟨[(.last, 2), (.last, 3)], [0, 3, 5, 6, 8, 9], [0, 1, 3, 5], 5⟩])) (ds' := [⟨[(.last, 3)], [0, 3, 5, 6, 8, 9], [0, 5], 3⟩]) rfl hL5 hE5 ?_ (by simp) fun L6 HA6 vs6 kA6 hL6 hE6 => ?_
      · exact (rs_cons (row_ev (ms_cons (kd := .last) (q := 3) (least := 1) (fun H => Evl.ev_op Evl.ev_c (Evl.ev_var rfl) (Evl.rv_I (by unfold CMul; omega))) (by omega) (by omega) ms_nil) (is_cons (is_cons (is_cons (is_cons (is_cons (is_cons is_nil)))))) (is_cons (is_cons is_nil)) (by simp) (by simp) (by simp)) rs_nil)
      have hpA6 := kA6 _ _ hpA5
      refine q_rows1 (K := K) (c := c) (ds := (((((([⟨[(.last, 3)], [0, 1, 2, 5, 7], [2, 4], 3⟩, ⟨[(.first, 3)], [0, 1, 2, 5, 7], [0, 3], 0⟩] ++ [⟨[(.limit, 3)], [0, 1, 2, 5, 7], [0, 3], 0⟩, ⟨[(.first, 3)], [0, 2, 4, 6], [0], 0⟩]) ++ [⟨[(.limit, 3)], [0, 2, 4, 6], [0, 2], 0⟩, ⟨[(.last, 2)], [0, 2, 3, 5], [0, 2, 3], 2⟩]) ++ [⟨[(.limit, 2), (.limit, 3)], [0, 2, 3, 5], [0, 3], 0⟩]) ++ [⟨[(.limit, 3)], [0, 2, 3, 5], [0, 2], 0⟩]) ++ [⟨[(.last, 2), (.last, 3)], [0, 3, 5, 6, 8, 9], [0, 1, 3, 5], 5⟩]) ++ [⟨[(.last, 3)], [0, 3, 5, 6, 8, 9], [0, 5], 3⟩])) (ds' := [⟨[(.first, 2), (.last, 4)], [0, 1, 5, 6, 8], [0, 4], 4⟩]) rfl hL6 hE6 ?_ (by simp) fun L7 HA7 vs7 kA7 hL7 hE7 => ?_
      · exact (rs_cons (row_ev (ms_cons (kd := .first) (q := 2) (least := 1) (fun H => Evl.ev_op Evl.ev_c (Evl.ev_var rfl) (Evl.rv_I (by unfold CMul; omega))) (by omega) (by omega) (ms_cons (kd := .last) (q := 4) (least := 1) (fun H => Evl.ev_op Evl.ev_c (Evl.ev_var rfl) (Evl.rv_I (by unfold CMul; omega))) (by omega) (by omega) ms_nil)) (is_cons (is_cons (is_cons (is_cons (is_cons is_nil))))) (is_cons (is_cons is_nil)) (by simp) (by simp) (by simp)) rs_nil)
      have hpA7 := kA7 _ _ hpA6
      refine q_rows1 (K := K) (c := c) (ds := ((((((([⟨[(.last, 3)], [0, 1, 2, 5, 7], [2, 4], 3⟩, ⟨[(.first, 3)], [0, 1, 2, 5, 7], [0, 3], 0⟩] ++ [⟨[(.limit, 3)], [0, 1, 2, 5, 7], [0, 3], 0⟩, ⟨[(.first, 3)], [0, 2, 4, 6], [0], 0⟩]) ++ [⟨[(.limit, 3)], [0, 2, 4, 6], [0, 2], 0⟩, ⟨[(.last, 2)], [0, 2, 3, 5], [0, 2, 3], 2⟩]) ++ [⟨[(.limit, 2), (.limit, 3)], [0, 2, 3, 5], [0, 3], 0⟩]) ++ [⟨[(.limit, 3)], [0, 2, 3, 5], [0, 2], 0⟩]) ++ [⟨[(.last, 2), (.last, 3)], [0, 3, 5, 6, 8, 9], [0, 1, 3, 5], 5⟩]) ++ [⟨[(.last, 3)], [0, 3, 5, 6, 8, 9], [0, 5], 3⟩]) ++ [⟨[(.first, 2), (.last, 4)], [0, 1, 5, 6, 8], [0, 4], 4⟩])) (ds' := [⟨[(.last, 4), (.delay, 1)], [0, 1, 5, 6, 8], [1, 4], 5⟩]) rfl hL7 hE7 ?_ (by simp) fun L8 HA8 vs8 kA8 hL8 hE8 => ?_
      · exact (rs_cons (row_ev (ms_cons (kd := .last) (q := 4) (least := 1) (fun H => Evl.ev_op Evl.ev_c (Evl.ev_var rfl) (Evl.rv_I (by unfold CMul; omega))) (by omega) (by omega) (ms_cons (kd := .delay) (q := 1) (least := 0) (fun H => Evl.ev_var rfl) (by omega) (by omega) ms_nil)) (is_cons (is_cons (is_cons (is_cons (is_cons is_nil))))) (is_cons (is_cons is_nil)) (by simp) (by simp) (by simp)) rs_nil)
      have hpA8 := kA8 _ _ hpA7
      refine q_rows1 (K := K) (c := c) (ds := (((((((([⟨[(.last, 3)], [0, 1, 2, 5, 7], [2, 4], 3⟩, ⟨[(.first, 3)], [0, 1, 2, 5, 7], [0, 3], 0⟩] ++ [⟨[(.limit, 3)], [0, 1, 2, 5, 7], [0, 3], 0⟩, ⟨[(.first, 3)], [0, 2, 4, 6], [0], 0⟩]) ++ [⟨[(.limit, 3)], [0, 2, 4, 6], [0, 2], 0⟩, ⟨[(.last, 2)], [0, 2, 3, 5], [0, 2, 3], 2⟩]) ++ [⟨[(.limit, 2), (.limit, 3)], [0, 2, 3, 5], [0, 3], 0⟩]) ++ [⟨[(.limit, 3)], [0, 2, 3, 5], [0, 2], 0⟩]) ++ [⟨[(.last, 2), (.last, 3)], [0, 3, 5, 6, 8, 9], [0, 1, 3, 5], 5⟩]) ++ [⟨[(.last, 3)], [0, 3, 5, 6, 8, 9], [0, 5], 3⟩]) ++ [⟨[(.first, 2), (.last, 4)], [0, 1, 5, 6, 8], [0, 4], 4⟩]) ++ [⟨[(.last, 4), (.delay, 1)], [0, 1, 5, 6, 8], [1, 4], 5⟩])) (ds' := [⟨[], [0, 1, 5], [0, 1, 2], 0⟩, ⟨[(.last, 1), (.first, 1), (.limit, 1)], [0, 1, 2], [0, 1, 2], 1⟩]) rfl hL8 hE8 ?_ (by simp) fun L9 HA9 vs9 kA9 hL9 hE9 => ?_
      · exact (rs_cons (row_ev ms_nil (is_cons (is_cons (is_cons is_nil))) (is_cons (is_cons (is_cons is_nil))) (by simp) (by simp) (by simp)) (rs_cons (row_ev (ms_cons (kd := .last) (q := 1) (least := 1) (fun H => Evl.ev_var rfl) (by omega) (by omega) (ms_cons (kd := .first) (q := 1) (least := 1) (fun H => Evl.ev_var rfl) (by omega) (by omega) (ms_cons (kd := .limit) (q := 1) (least := 1) (fun H => Evl.ev_var rfl) (by omega) (by omega) ms_nil))) (is_cons (is_cons (is_cons is_nil))) (is_cons (is_cons (is_cons is_nil))) (by simp) (by simp) (by simp)) rs_nil))
      have hpA9 := kA9 _ _ hpA8
      have hEa : Each (RDV K HA9 c) [⟨[(.last, 3)], [0, 1, 2, 5, 7], [2, 4], 3⟩, ⟨[(.first, 3)], [0, 1, 2, 5, 7], [0, 3], 0⟩, ⟨[(.limit, 3)], [0, 1, 2, 5, 7], [0, 3], 0⟩, ⟨[(.first, 3)], [0, 2, 4, 6], [0], 0⟩, ⟨[(.limit, 3)], [0, 2, 4, 6], [0, 2], 0⟩, ⟨[(.last, 2)], [0, 2, 3, 5], [0, 2, 3], 2⟩, ⟨[(.limit, 2), (.limit, 3)], [0, 2, 3, 5], [0, 3], 0⟩, ⟨[(.limit, 3)], [0, 2, 3, 5], [0, 2], 0⟩, ⟨[(.last, 2), (.last, 3)], [0, 3, 5, 6, 8, 9], [0, 1, 3, 5], 5⟩, ⟨[(.last, 3)], [0, 3, 5, 6, 8, 9], [0, 5], 3⟩, ⟨[(.first, 2), (.last, 4)], [0, 1, 5, 6, 8], [0, 4], 4⟩, ⟨[(.last, 4), (.delay, 1)], [0, 1, 5, 6, 8], [1, 4], 5⟩, ⟨[], [0, 1, 5], [0, 1, 2], 0⟩, ⟨[(.last, 1), (.first, 1), (.limit, 1)], [0, 1, 2], [0, 1, 2], 1⟩] vs9 := hE9
      have hall : ∀ d ∈ ([⟨[(.last, 3)], [0, 1, 2, 5, 7], [2, 4], 3⟩, ⟨[(.first, 3)], [0, 1, 2, 5, 7], [0, 3], 0⟩, ⟨[(.limit, 3)], [0, 1, 2, 5, 7], [0, 3], 0⟩, ⟨[(.first, 3)], [0, 2, 4, 6], [0], 0⟩, ⟨[(.limit, 3)], [0, 2, 4, 6], [0, 2], 0⟩, ⟨[(.last, 2)], [0, 2, 3, 5], [0, 2, 3], 2⟩, ⟨[(.limit, 2), (.limit, 3)], [0, 2, 3, 5], [0, 3], 0⟩, ⟨[(.limit, 3)], [0, 2, 3, 5], [0, 2], 0⟩, ⟨[(.last, 2), (.last, 3)], [0, 3, 5, 6, 8, 9], [0, 1, 3, 5], 5⟩, ⟨[(.last, 3)], [0, 3, 5, 6, 8, 9], [0, 5], 3⟩, ⟨[(.first, 2), (.last, 4)], [0, 1, 5, 6, 8], [0, 4], 4⟩, ⟨[(.last, 4), (.delay, 1)], [0, 1, 5, 6, 8], [1, 4], 5⟩, ⟨[], [0, 1, 5], [0, 1, 2], 0⟩, ⟨[(.last, 1), (.first, 1), (.limit, 1)], [0, 1, 2], [0, 1, 2], 1⟩] : List RD), okRD d = true := by decide
      have hst : St3 HA9 s ∨ True := .inr trivial
      generalize ([⟨[(.last, 3)], [0, 1, 2, 5, 7], [2, 4], 3⟩, ⟨[(.first, 3)], [0, 1, 2, 5, 7], [0, 3], 0⟩, ⟨[(.limit, 3)], [0, 1, 2, 5, 7], [0, 3], 0⟩, ⟨[(.first, 3)], [0, 2, 4, 6], [0], 0⟩, ⟨[(.limit, 3)], [0, 2, 4, 6], [0, 2], 0⟩, ⟨[(.last, 2)], [0, 2, 3, 5], [0, 2, 3], 2⟩, ⟨[(.limit, 2), (.limit, 3)], [0, 2, 3, 5], [0, 3], 0⟩, ⟨[(.limit, 3)], [0, 2, 3, 5], [0, 2], 0⟩, ⟨[(.last, 2), (.last, 3)], [0, 3, 5, 6, 8, 9], [0, 1, 3, 5], 5⟩, ⟨[(.last, 3)], [0, 3, 5, 6, 8, 9], [0, 5], 3⟩, ⟨[(.first, 2), (.last, 4)], [0, 1, 5, 6, 8], [0, 4], 4⟩, ⟨[(.last, 4), (.delay, 1)], [0, 1, 5, 6, 8], [1, 4], 5⟩, ⟨[], [0, 1, 5], [0, 1, 2], 0⟩, ⟨[(.last, 1), (.first, 1), (.limit, 1)], [0, 1, 2], [0, 1, 2], 1⟩] : List RD) = tab at hEa hall
      have hLa := hL9
      have hpa := hpA9
      walk_at "s"
      refine ⟨⟨_, SqL.of hLa⟩, for_it (walk_list (K := K) (a := L9) (xs := vs9)) (fun i σ H' => (∃ v6 v7 v8 v9 v10 v11 v12 v13 v14 v15, σ = [some (.ref a), some (.int z), some (.ref s), some (.int b), some (.int c), some (.ref L9), v6, v7, v8, v9, v10, v11, v12, v13, v14, v15]) ∧ Same HA9 H') ⟨⟨_, _, _, _, _, _, _, _, _, _, rfl⟩, Same.refl _⟩ (fun i σ H' _ q => SqL.of (q.2 _ _ hLa)) ?_ ?_⟩
      · rintro i y σ H6 H7 hi ⟨⟨v6, v7, v8, v9, v10, v11, v12, v13, v14, v15, rfl⟩, k6⟩ ⟨rfl, hy⟩
        obtain ⟨d, hd, hdv⟩ := hEa.at hy
        have hok := hall d (List.mem_of_getElem? hd)
        obtain ⟨hA, hDue, hml, hpsl⟩ := okRD_of hok
        obtain ⟨T, lm, lp, ln, ys, rfl, hT, hlm, hE, hlp, hln⟩ := hdv.same k6
        refine ⟨_, _, rfl, SqT.of hT, rfl, ?_⟩
        refine ⟨_, _, rfl, ?_⟩
        refine ⟨_, _, rfl, ?_⟩
        refine ⟨_, _, rfl, ?_⟩
        refine ⟨_, _, rfl, ?_⟩
        refine ⟨rfl, ?_⟩
        refine r_seqa ?_
        refine comp_map (K := K) (a := lp) (ns := d.ps) (j := 13) (vs := [13]) (fun o => scT b c o) ?_ (SqL.of hlp) (by omega) ?_ ?_ _ (Evl.Ex.refl _) _ ?_
        · exact Evl.ev_var rfl
        · exact fun _ => rfl
        · exact fun o H1 ho e => Evl.ev_op (Evl.ev_var rfl) (Evl.ev_op (Evl.ev_var rfl) (Evl.ev_var rfl) (Evl.rv_I (by unfold CMul; omega))) Evl.rv_I0
        intro st H8 nst k8 hst
        have hlm8 := k8 _ _ hlm
        have hE8 := hE.mono (R' := MemV K H8) fun _ _ _ z => z.vp (VP.same k8)
        have hln8 := k8 _ _ hln
        have hAs := asc_sc (b := b) (c := c) (by omega) hA
        have hsl : (d.ps.map (scT b c)).length ≤ 30000 := by rw [List.length_map]; omega
        walk_at "s"
        refine fun x dx nx nd nxd => ?_
        refine ⟨x, dx, lm, ys, d.ms.map (scM c), rfl, upd_same, Same.made0 nx nd _ _ hlm8, hE8.mono fun _ _ _ z => z.vp (VP.same (Same.made0 nx nd)), by rw [List.length_map]; omega, fun H9 q2 k9a nq2 hq2 hx9 => ⟨rfl, ?_⟩⟩
        have k9 : Same H8 H9 := Same.made1 nx nd k9a
        have hRow : RowO K H9 (d.ms.map (scM c)) x := ⟨dx, q2, ys, hx9, hq2, hE8.mono fun _ _ _ z => z.vp (VP.same k9)⟩
        have hst9 := k9 _ _ hst
        have hln9 := k9 _ _ hln8
        dsimp only [gName]
        have hrl := rows_len hAs (d.ms.map (scM c))
        have hRl : (rowsOf (d.ms.map (scM c)) (d.ps.map (scT b c))).length ≤ 40000 := by omega
        have hnl : d.ns.length ≤ 40000 := by rw [← nums_sc (b := b) (c := c) (by omega) hok, List.length_map]; exact hRl
        refine Evl.q_when (b := false) (Evl.et_test ?_) (fun z => nomatch z) fun _ H10 k10 => ?_
        · intro H2 e Q1 q1
          refine r_op (comp_relN (K := K) (ToldV K) (fun _ _ _ _ kv z => z.vp kv) (fun _ (r : R4) v => v = V.int r.1) (fun _ _ _ _ _ z => z) (rowsOf (d.ms.map (scM c)) (d.ps.map (scT b c))) (rowsOf (d.ms.map (scM c)) (d.ps.map (scT b c))) rfl hRl (fun Q2 q2 => ?_) (fun _ => rfl) ?_ ?_)
          · refine ⟨_, rfl, ⟨_, rfl, ?_⟩⟩
            exact ⟨x, st, false, d.ms.map (scM c), d.ps.map (scT b c), rfl, hRow.vp (VP.same e), SqL.of (e _ _ hst9), ⟨hAs, hsl, by rw [List.length_map]; omega⟩, fun H' p2 ys2 k2 np2 hp2 hE2 => q2 p2 H' ys2 k2 hp2 hE2⟩
          · intro i b r2 x H3 k3 hb hr2 hS Q3 q3
            cases Option.some.inj (hb.symm.trans hr2)
            obtain ⟨a, dx, rfl, ha⟩ := hS
            unfold toldF at ha
            walk_at "s"
            exact q3 _ _ (Evl.Ex.refl _) rfl
          · intro p2 H3 ws np2 k3 hp2 hW
            have hws := each_int_map (f := fun r : R4 => r.1) hW
            rw [hws, nums_sc (by omega) hok] at hp2
            refine ⟨_, rfl, ⟨d.ns, d.ns, dp_ints (SqL.of hp2), dp_ints (SqL.of (k3 _ _ (e _ _ hln9))), ?_⟩⟩
            have z : decide (d.ns ≠ d.ns) = false := by simp
            rw [z]
            exact q1 H3 k3
        have hln10 := k10 _ _ hln9
        have hst10 := k10 _ _ hst9
        refine Evl.s_if (b := false) (Evl.et_test (Evl.ev_is (Evl.ev_opLL (Evl.el_call (vs := [.ref x, .ref st]) (Evl.ea_cons (Evl.ev_var rfl) (Evl.ea_cons (Evl.ev_var rfl) Evl.ea_nil)) (xs := ((rowsOf (d.ms.map (scM c)) (d.ps.map (scT b c))).map fun r => r.2.1).map V.int) ?_) (comp_map (K := K) (a := ln) (ns := d.ns) (j := 15) (vs := [15]) (fun z => (d.ps.map (scT b c)).getD z.toNat 0 + c * d.late) (Evl.ev_var rfl) (SqL.of hln10) hnl (fun _ => rfl) (fun o H1 ho e => Evl.ev_op (Evl.ev_op (Evl.ev_var rfl) (Evl.ev_var rfl) (Evl.rv_ixL (SqL.of (e _ _ hst10)) (ix_at (ns_bound hok ho)))) (Evl.ev_op (Evl.ev_var rfl) (Evl.ev_var rfl) (Evl.rv_I (by unfold CMul; omega))) Evl.rv_I0)) fun p q H h1 h2 _ => rv_neI (SqL.of h1) (SqL.of h2)) (by rw [times_sc (by omega) hok]; simp))) (fun z => nomatch z) fun _ H11 k11 => r_next ?_
        · intro H5 e5 Q1 q1 E1
          exact ⟨x, st, false, d.ms.map (scM c), d.ps.map (scT b c), rfl, hRow.vp (VP.same (Same.trans k10 e5)), SqL.of (e5 _ _ hst10), ⟨hAs, hsl, by rw [List.length_map]; omega⟩, fun H' p3 k4 np3 hp3 => q1 p3 H' np3 k4 hp3⟩
        exact ⟨⟨_, _, _, _, _, _, _, _, _, _, rfl⟩, Same.trans k6 (Same.trans k8 (Same.trans k9 (Same.trans k10 k11)))⟩
      · rintro σ H6 ⟨⟨v6, v7, v8, v9, v10, v11, v12, v13, v14, v15, rfl⟩, k6⟩
        have hp6 := k6 _ _ hpa
        dsimp only
        refine Evl.q_asgL (comp_mapN (K := K) (ns := [0, 1, 2, 9, 10, 30]) (j := 13) (vs := [13]) (fun o => scT b c o) (Evl.el_lst (vs := [V.int 0, V.int 1, V.int 2, V.int 9, V.int 10, V.int 30]) (Evl.ea_cons Evl.ev_c (Evl.ea_cons Evl.ev_c (Evl.ea_cons Evl.ev_c (Evl.ea_cons Evl.ev_c (Evl.ea_cons Evl.ev_c (Evl.ea_cons Evl.ev_c Evl.ea_nil)))))) (by simp)) (by simp) (fun _ => rfl) (fun o H1 ho e => Evl.ev_op (Evl.ev_var rfl) (Evl.ev_op (Evl.ev_var rfl) (Evl.ev_var rfl) (Evl.rv_I (by unfold CMul; omega))) Evl.rv_I0)) fun st H8 nst k8 hst => ?_
        have hAs : Asc 1 ([0, 1, 2, 9, 10, 30].map (scT b c)) := asc_sc (by omega) (asc_of (by decide))
        have hA0 : Asc 1 [0, 1, 2, 9, 10, 30] := asc_of (by decide)
        have hp8 := k8 _ _ hp6
        refine r_seqa (r_callMV ?_)
        refine row_make (c := c) (ms := [(.first, 3), (.last, 20)]) (ms_cons (kd := .first) (q := 3) (least := 1) (fun H => Evl.ev_op Evl.ev_c (Evl.ev_var rfl) (Evl.rv_I (by unfold CMul; omega))) (by omega) (by omega) (ms_cons (kd := .last) (q := 20) (least := 1) (fun H => Evl.ev_op Evl.ev_c (Evl.ev_var rfl) (Evl.rv_I (by unfold CMul; omega))) (by omega) (by omega) ms_nil)) (by simp) H8 _ fun HaP rP kaP hRowP => ⟨_, rfl, ?_⟩
        have hsP := kaP _ _ hst
        refine ⟨rP, st, false, List.map (scM c) [(.first, 3), (.last, 20)], [0, 1, 2, 9, 10, 30].map (scT b c), rfl, hRowP, SqL.of hsP, ⟨hAs, by simp, by simp⟩, fun HbP fP ysP kbP nfP hfP hEP => ?_⟩
        have hsbP := kbP _ _ hsP
        have hRlP : (rowsOf (List.map (scM c) [(.first, 3), (.last, 20)]) ([0, 1, 2, 9, 10, 30].map (scT b c))).length ≤ 40000 := by
          have := rows_len hAs (List.map (scM c) [(.first, 3), (.last, 20)])
          simp at this ⊢
          omega
        dsimp only
        have erP : (rowsOf (List.map (scM c) [(.first, 3), (.last, 20)]) ([0, 1, 2, 9, 10, 30].map (scT b c))).map tup3 = [(3, 0, 0, 4), (5, 0, 5, 5)].map tup3 := by
          rw [trip_sc (by omega) hA0]
          rfl
        generalize rowsOf (List.map (scM c) [(.first, 3), (.last, 20)]) ([0, 1, 2, 9, 10, 30].map (scT b c)) = rwP at hEP hRlP erP
        refine Evl.q_when (b := false) (et_trip (K := K) (i := 12) (j := 14) rfl hfP hEP hRlP (by walk_at "cl") (by walk_at "no") (by walk_at "no") (by walk_at "no") (fun _ => rfl) (fun _ => rfl) erP) (fun z => nomatch z) fun _ HcP kcP => ?_
        have hstP := kcP _ _ hsbP
        have hpP := kcP _ _ (kbP _ _ (kaP _ _ hp8))
        refine r_seqa (r_callMV ?_)
        refine row_make (c := c) (ms := [(.last, 3), (.first, 20)]) (ms_cons (kd := .last) (q := 3) (least := 1) (fun H => Evl.ev_op Evl.ev_c (Evl.ev_var rfl) (Evl.rv_I (by unfold CMul; omega))) (by omega) (by omega) (ms_cons (kd := .first) (q := 20) (least := 1) (fun H => Evl.ev_op Evl.ev_c (Evl.ev_var rfl) (Evl.rv_I (by unfold CMul; omega))) (by omega) (by omega) ms_nil)) (by simp) HcP _ fun HaR rR kaR hRowR => ⟨_, rfl, ?_⟩
        have hsR := kaR _ _ hstP
        refine ⟨rR, st, false, List.map (scM c) [(.last, 3), (.first, 20)], [0, 1, 2, 9, 10, 30].map (scT b c), rfl, hRowR, SqL.of hsR, ⟨hAs, by simp, by simp⟩, fun HbR fR ysR kbR nfR hfR hER => ?_⟩
        have hsbR := kbR _ _ hsR
        have hRlR : (rowsOf (List.map (scM c) [(.last, 3), (.first, 20)]) ([0, 1, 2, 9, 10, 30].map (scT b c))).length ≤ 40000 := by
          have := rows_len hAs (List.map (scM c) [(.last, 3), (.first, 20)])
          simp at this ⊢
          omega
        dsimp only
        have erR : (rowsOf (List.map (scM c) [(.last, 3), (.first, 20)]) ([0, 1, 2, 9, 10, 30].map (scT b c))).map tup3 = [(2, 0, 0, 4), (5, 0, 5, 5)].map tup3 := by
          rw [trip_sc (by omega) hA0]
          rfl
        generalize rowsOf (List.map (scM c) [(.last, 3), (.first, 20)]) ([0, 1, 2, 9, 10, 30].map (scT b c)) = rwR at hER hRlR erR
        refine Evl.s_if (b := false) (et_trip (K := K) (i := 12) (j := 14) rfl hfR hER hRlR (by walk_at "cl") (by walk_at "no") (by walk_at "no") (by walk_at "no") (fun _ => rfl) (fun _ => rfl) erR) (fun z => nomatch z) fun _ HcR kcR => r_next ?_
        exact ⟨⟨_, _, _, _, _, _, _, _, _, _, _, _, _, _, _, rfl⟩, kcR _ _ (kbR _ _ (kaR _ _ hpP))⟩
    · rintro p σ H1 _
      exact k _
end
end My

set_option Elab.async false
set_option linter.all false
set_option maxRecDepth 100000
set_option maxHeartbeats 0
namespace My
open PySem PySem.Spec PyProof.Rows L2
/-! ### the steps -/
local macro_rules | `(tactic| walk_at "hp") => `(tactic| first
  | assumption
  | exact upd_same
  | (refine Eq.trans (upd_ne ?_) ?_; (focus (walk_at "ne")); (focus (walk_at "hp")))
  | (apply But.get; (focus assumption); (focus (walk_at "ne")); (focus (walk_at "hp")))
  | (apply Same.get; (focus assumption); (focus (walk_at "hp"))))
local macro_rules | `(tactic| walk_at "ne") => `(tactic| (show (_ : Addr) ≠ _; first
  | assumption
  | exact Ne.symm (by assumption)
  | (apply ne_fresh; (focus assumption); (focus (walk_at "hp")))
  | (apply Ne.symm; apply ne_fresh; (focus assumption); (focus (walk_at "hp")))
  | (apply st_ne; (focus assumption); (focus (walk_at "st")))
  | (apply Ne.symm; apply st_ne; (focus assumption); (focus (walk_at "st")))))
local macro_rules | `(tactic| walk_at "st") => `(tactic| (show St3 _ _; first
  | assumption
  | (with_reducible apply St3.upd; (focus (walk_at "ne")); (focus (walk_at "st")))
  | (apply St3.same; (focus assumption); (focus (walk_at "st")))))
local macro_rules | `(tactic| walk_at "sz") => `(tactic| first | exact Nat.zero_le _ | exact Nat.lt_of_le_of_lt (by omega) (by decide : 100000 < sizeLine) | exact Nat.le_trans (by omega) (by decide : 100000 ≤ sizeLine))
local macro_rules | `(tactic| walk_at "cond") => `(tactic| first | exact div_ok (by assumption) | (unfold CMul; omega) | (unfold CDivW; first | assumption | decide | exact ⟨by omega, by decide⟩) | (unfold CPow; exact ⟨by decide, by decide, by decide⟩) | (unfold CDiv; omega))
local macro_rules | `(tactic| walk_at "size") => `(tactic| first | exact (show 0 ≤ sizeLine by decide) | exact (show 1 ≤ sizeLine by decide) | exact (show 2 ≤ sizeLine by decide) | exact (show 3 ≤ sizeLine by decide) | exact (show 4 ≤ sizeLine by decide) | exact (show 5 ≤ sizeLine by decide) | exact (show 6 ≤ sizeLine by decide) | exact (show 7 ≤ sizeLine by decide) | exact (show 8 ≤ sizeLine by decide))
local macro_rules | `(tactic| walk_at "ar") => `(tactic| first | assumption | omega | rfl | walk_at "cond" | walk_at "st" | exact SqL.of (by walk_at "hp") | exact SqT.of (by walk_at "hp") | walk_at "size" | decide)
local macro_rules | `(tactic| walk_at "s1") => `(tactic| ((fail_if_success (refine fun _ => ?_)); first
  | refine ⟨_, rfl, ?_⟩
  | refine ⟨_, _, rfl, rfl, ?_⟩
  | refine ⟨_, _, rfl, ?_⟩
  | refine ⟨_, _, rfl, Or.inl (SqL.of (by walk_at "hp")), ?_⟩
  | refine ⟨_, _, rfl, Or.inr (SqT.of (by walk_at "hp")), ?_⟩
  | (refine ⟨_, _, _, _, rfl, rfl, SqL.of (by walk_at "hp"), (by first | rfl | assumption), ?_⟩)
  | (refine ⟨_, _, _, _, rfl, rfl, SqT.of (by walk_at "hp"), (by first | rfl | assumption), ?_⟩)
  | (refine ⟨_, _, _, _, rfl, rfl, (by walk_at "hp"), (by rfl), ?_⟩)
  | (refine ⟨_, _, _, rfl, rfl, (by walk_at "hp"), (by walk_at "sz"), ?_⟩)
  | (refine And.intro (Or.inl ⟨rfl, _, SqL.of (by walk_at "hp")⟩) ?_)
  | (refine ⟨_, _, _, _, rfl, (by walk_at "hp"), (by walk_at "cl"), (by walk_at "no"), (by walk_at "few"), ?_⟩)
  | (refine ⟨_, _, _, _, _, rfl, (by walk_at "hp"), (by walk_at "cl"), (by walk_at "no"), (by walk_at "lk"), ?_⟩)
  | refine Or.inl ⟨_, rfl, ?_⟩
  | refine Or.inr ⟨_, rfl, ?_⟩
  | refine And.intro (by walk_at "ar") ?_))
local macro_rules | `(tactic| walk_at "s") => `(tactic| repeat walk_at "s1")
local macro_rules | `(tactic| walk_at "bt") => `(tactic| (show But _ _ _; first
  | assumption
  | exact But.refl
  | (refine But.same ?_ (same_new (by assumption)); walk_at "bt")
  | (refine But.chg ?_ (by assumption); walk_at "bt")
  | (refine But.self ?_; walk_at "bt")
  | (refine But.trans ?_ (by assumption); walk_at "bt")
  | (refine But.same ?_ (by assumption); walk_at "bt")))
local macro_rules | `(tactic| walk_at "vp") => `(tactic| (show VP _ _; first
  | assumption
  | exact VP.refl
  | (refine VP.trans ?_ (VP.new (by assumption)); walk_at "vp")
  | (refine VP.trans ?_ (VP.upd (by walk_at "hp")); walk_at "vp")
  | (refine VP.trans ?_ (VP.st (by assumption) (by walk_at "st")); walk_at "vp")
  | (refine VP.trans ?_ (VP.same (by assumption)); walk_at "vp")))
local macro_rules | `(tactic| walk_at "few") => `(tactic| first | (show 0 < 1000; decide) | (show 1 < 1000; decide) | (show 2 < 1000; decide) | (show 3 < 1000; decide))
local macro_rules | `(tactic| walk_at "lk") => `(tactic| first | rfl | assumption | decide)
local macro_rules | `(tactic| walk_at "cl") => `(tactic| first | assumption | exact (Txt.c_Last (by assumption)) | exact (Txt.c_First (by assumption)) | exact (Txt.c_Limit (by assumption)) | exact (Txt.c_Delay (by assumption)) | exact (Txt.c_Row (by assumption)) | exact (Txt.c_Told (by assumption)))
local macro_rules | `(tactic| walk_at "no") => `(tactic| first | assumption | exact (Txt.o_Last_q (by assumption)) | exact (Txt.o_First_q (by assumption)) | exact (Txt.o_Limit_q (by assumption)) | exact (Txt.o_Delay_d (by assumption)) | exact (Txt.o_Row_members (by assumption)) | exact (Txt.o_Told_number (by assumption)) | exact (Txt.o_Told_time (by assumption)) | exact (Txt.o_Told_first (by assumption)) | exact (Txt.o_Told_last (by assumption)))
section
variable {P : Program} {w : World} {K : PySem.W.Frag} {mg : Str → Option Value} {base : Heap}
theorem law_fn (T : Txt K mg) {fd : FuncData} (F : FunD K "law" "law" (defArgs slaw) (defBody slaw) (defScope slaw) [] [] (He.fAd K dlaw.at_) fd) : FnOk P w K mg base CX0 11 (He.ga K "law") fd ["_law_script"] (spLaw K) := by
  obtain ⟨fdDelayX_initX, GDelayX_initX, bDelayX_initX, kDelayX_initX⟩ := okDelayX_initX (P := P) (w := w) (base := base) T
  obtain ⟨fdFirstX_initX, GFirstX_initX, bFirstX_initX, kFirstX_initX⟩ := okFirstX_initX (P := P) (w := w) (base := base) T
  obtain ⟨fdLastX_initX, GLastX_initX, bLastX_initX, kLastX_initX⟩ := okLastX_initX (P := P) (w := w) (base := base) T
  obtain ⟨fdLimitX_initX, GLimitX_initX, bLimitX_initX, kLimitX_initX⟩ := okLimitX_initX (P := P) (w := w) (base := base) T
  obtain ⟨fdRowX_initX, GRowX_initX, bRowX_initX, kRowX_initX⟩ := okRowX_initX (P := P) (w := w) (base := base) T
  obtain ⟨fd_law_digit, G_law_digit, b_law_digit, k_law_digit⟩ := ok_law_digit (P := P) (w := w) (base := base) T
  obtain ⟨fd_law_state, G_law_state, b_law_state, k_law_state⟩ := ok_law_state (P := P) (w := w) (base := base) T
  obtain ⟨fdtold_events, Gtold_events, btold_events, ktold_events⟩ := oktold_events (P := P) (w := w) (base := base) T
  obtain ⟨fdtold_times, Gtold_times, btold_times, ktold_times⟩ := oktold_times (P := P) (w := w) (base := base) T
  refine F.ok sclaw (fun vs H Q E h => ?_) (fun cdv A outer s H vs Q E hr h => ?_)
  · obtain ⟨a, ns, rfl, _⟩ := h; rfl
  · obtain ⟨a, ns, rfl, ha, hlen, k⟩ := h
    refine ⟨_, PSs.nox (pss_cons (ps_for PassesOwn.never rfl (piLK (K := K) (pe_slice (slLK (K := K)) (pe_op (catK (K := K)) (pv 0) (pe_lst (pa_cons pe_int pa_nil))) po_none (po_some pe_int))) (pg_name (i := 1) sclaw.nd rfl (Or.inl rfl))
  (pss_cons (ps_set (i := 2) sclaw.nd rfl (Or.inl rfl) (pe_call G_law_state (hrM hr) rfl T.g__law_state k_law_state b_law_state .nil pass0 (pa_cons (pv 1) pa_nil)))
  (pss_cons (ps_asg (pe_tup (pa_cons (pe_op op_sub (pe_call G_law_digit (hrM hr) rfl T.g__law_digit k_law_digit b_law_digit .nil pass0 (pa_cons (pv 2) (pa_cons (pe_op op_pow pe_int pe_int) pa_nil))) (pe_op op_mul pe_int (pe_op op_pow pe_int pe_int))) (pa_cons (pe_op op_add pe_int (pe_call G_law_digit (hrM hr) rfl T.g__law_digit k_law_digit b_law_digit .nil pass0 (pa_cons (pv 2) (pa_cons (pe_op op_pow pe_int pe_int) pa_nil)))) pa_nil))) (pg_tup (by rfl) (pgs_cons (pg_name (i := 3) sclaw.nd rfl (Or.inr rfl)) (pgs_cons (pg_name (i := 4) sclaw.nd rfl (Or.inr rfl)) pgs_nil))))
  (pss_cons (ps_set (i := 5) sclaw.nd rfl (Or.inl rfl) (pe_lst (pa_cons (pe_tup (pa_cons (pe_lst (pa_cons (pe_make T.k_Last GLastX_initX (hrM hr) rfl T.g_Last bLastX_initX .nil pass0 (pa_cons (pe_op op_mul pe_int (pv 4)) pa_nil)) pa_nil)) (pa_cons (pe_lst (pa_cons pe_int (pa_cons pe_int (pa_cons pe_int (pa_cons pe_int (pa_cons pe_int pa_nil)))))) (pa_cons (pe_lst (pa_cons pe_int (pa_cons pe_int pa_nil))) (pa_cons pe_int pa_nil))))) (pa_cons (pe_tup (pa_cons (pe_lst (pa_cons (pe_make T.k_First GFirstX_initX (hrM hr) rfl T.g_First bFirstX_initX .nil pass0 (pa_cons (pe_op op_mul pe_int (pv 4)) pa_nil)) pa_nil)) (pa_cons (pe_lst (pa_cons pe_int (pa_cons pe_int (pa_cons pe_int (pa_cons pe_int (pa_cons pe_int pa_nil)))))) (pa_cons (pe_lst (pa_cons pe_int (pa_cons pe_int pa_nil))) (pa_cons pe_int pa_nil))))) pa_nil))))
  (pss_cons (ps_set (i := 5) sclaw.nd rfl (Or.inl rfl) (pe_op (catK (K := K)) (pv 5) (pe_lst (pa_cons (pe_tup (pa_cons (pe_lst (pa_cons (pe_make T.k_Limit GLimitX_initX (hrM hr) rfl T.g_Limit bLimitX_initX .nil pass0 (pa_cons (pe_op op_mul pe_int (pv 4)) pa_nil)) pa_nil)) (pa_cons (pe_lst (pa_cons pe_int (pa_cons pe_int (pa_cons pe_int (pa_cons pe_int (pa_cons pe_int pa_nil)))))) (pa_cons (pe_lst (pa_cons pe_int (pa_cons pe_int pa_nil))) (pa_cons pe_int pa_nil))))) (pa_cons (pe_tup (pa_cons (pe_lst (pa_cons (pe_make T.k_First GFirstX_initX (hrM hr) rfl T.g_First bFirstX_initX .nil pass0 (pa_cons (pe_op op_mul pe_int (pv 4)) pa_nil)) pa_nil)) (pa_cons (pe_lst (pa_cons pe_int (pa_cons pe_int (pa_cons pe_int (pa_cons pe_int pa_nil))))) (pa_cons (pe_lst (pa_cons pe_int pa_nil)) (pa_cons pe_int pa_nil))))) pa_nil)))))
  (pss_cons (ps_set (i := 5) sclaw.nd rfl (Or.inl rfl) (pe_op (catK (K := K)) (pv 5) (pe_lst (pa_cons (pe_tup (pa_cons (pe_lst (pa_cons (pe_make T.k_Limit GLimitX_initX (hrM hr) rfl T.g_Limit bLimitX_initX .nil pass0 (pa_cons (pe_op op_mul pe_int (pv 4)) pa_nil)) pa_nil)) (pa_cons (pe_lst (pa_cons pe_int (pa_cons pe_int (pa_cons pe_int (pa_cons pe_int pa_nil))))) (pa_cons (pe_lst (pa_cons pe_int (pa_cons pe_int pa_nil))) (pa_cons pe_int pa_nil))))) (pa_cons (pe_tup (pa_cons (pe_lst (pa_cons (pe_make T.k_Last GLastX_initX (hrM hr) rfl T.g_Last bLastX_initX .nil pass0 (pa_cons (pe_op op_mul pe_int (pv 4)) pa_nil)) pa_nil)) (pa_cons (pe_lst (pa_cons pe_int (pa_cons pe_int (pa_cons pe_int (pa_cons pe_int pa_nil))))) (pa_cons (pe_lst (pa_cons pe_int (pa_cons pe_int (pa_cons pe_int pa_nil)))) (pa_cons pe_int pa_nil))))) pa_nil)))))
  (pss_cons (ps_set (i := 5) sclaw.nd rfl (Or.inl rfl) (pe_op (catK (K := K)) (pv 5) (pe_lst (pa_cons (pe_tup (pa_cons (pe_lst (pa_cons (pe_make T.k_Limit GLimitX_initX (hrM hr) rfl T.g_Limit bLimitX_initX .nil pass0 (pa_cons (pe_op op_mul pe_int (pv 4)) pa_nil)) (pa_cons (pe_make T.k_Limit GLimitX_initX (hrM hr) rfl T.g_Limit bLimitX_initX .nil pass0 (pa_cons (pe_op op_mul pe_int (pv 4)) pa_nil)) pa_nil))) (pa_cons (pe_lst (pa_cons pe_int (pa_cons pe_int (pa_cons pe_int (pa_cons pe_int pa_nil))))) (pa_cons (pe_lst (pa_cons pe_int (pa_cons pe_int pa_nil))) (pa_cons pe_int pa_nil))))) pa_nil))))
  (pss_cons (ps_set (i := 5) sclaw.nd rfl (Or.inl rfl) (pe_op (catK (K := K)) (pv 5) (pe_lst (pa_cons (pe_tup (pa_cons (pe_lst (pa_cons (pe_make T.k_Limit GLimitX_initX (hrM hr) rfl T.g_Limit bLimitX_initX .nil pass0 (pa_cons (pe_op op_mul pe_int (pv 4)) pa_nil)) pa_nil)) (pa_cons (pe_lst (pa_cons pe_int (pa_cons pe_int (pa_cons pe_int (pa_cons pe_int pa_nil))))) (pa_cons (pe_lst (pa_cons pe_int (pa_cons pe_int pa_nil))) (pa_cons pe_int pa_nil))))) pa_nil))))
  (pss_cons (ps_set (i := 5) sclaw.nd rfl (Or.inl rfl) (pe_op (catK (K := K)) (pv 5) (pe_lst (pa_cons (pe_tup (pa_cons (pe_lst (pa_cons (pe_make T.k_Last GLastX_initX (hrM hr) rfl T.g_Last bLastX_initX .nil pass0 (pa_cons (pe_op op_mul pe_int (pv 4)) pa_nil)) (pa_cons (pe_make T.k_Last GLastX_initX (hrM hr) rfl T.g_Last bLastX_initX .nil pass0 (pa_cons (pe_op op_mul pe_int (pv 4)) pa_nil)) pa_nil))) (pa_cons (pe_lst (pa_cons pe_int (pa_cons pe_int (pa_cons pe_int (pa_cons pe_int (pa_cons pe_int (pa_cons pe_int pa_nil))))))) (pa_cons (pe_lst (pa_cons pe_int (pa_cons pe_int (pa_cons pe_int (pa_cons pe_int pa_nil))))) (pa_cons pe_int pa_nil))))) pa_nil))))
  (pss_cons (ps_set (i := 5) sclaw.nd rfl (Or.inl rfl) (pe_op (catK (K := K)) (pv 5) (pe_lst (pa_cons (pe_tup (pa_cons (pe_lst (pa_cons (pe_make T.k_Last GLastX_initX (hrM hr) rfl T.g_Last bLastX_initX .nil pass0 (pa_cons (pe_op op_mul pe_int (pv 4)) pa_nil)) pa_nil)) (pa_cons (pe_lst (pa_cons pe_int (pa_cons pe_int (pa_cons pe_int (pa_cons pe_int (pa_cons pe_int (pa_cons pe_int pa_nil))))))) (pa_cons (pe_lst (pa_cons pe_int (pa_cons pe_int pa_nil))) (pa_cons pe_int pa_nil))))) pa_nil))))
  (pss_cons (ps_set (i := 5) sclaw.nd rfl (Or.inl rfl) (pe_op (catK (K := K)) (pv 5) (pe_lst (pa_cons (pe_tup (pa_cons (pe_lst (pa_cons (pe_make T.k_First GFirstX_initX (hrM hr) rfl T.g_First bFirstX_initX .nil pass0 (pa_cons (pe_op op_mul pe_int (pv 4)) pa_nil)) (pa_cons (pe_make T.k_Last GLastX_initX (hrM hr) rfl T.g_Last bLastX_initX .nil pass0 (pa_cons (pe_op op_mul pe_int (pv 4)) pa_nil)) pa_nil))) (pa_cons (pe_lst (pa_cons pe_int (pa_cons pe_int (pa_cons pe_int (pa_cons pe_int (pa_cons pe_int pa_nil)))))) (pa_cons (pe_lst (pa_cons pe_int (pa_cons pe_int pa_nil))) (pa_cons pe_int pa_nil))))) pa_nil))))
  (pss_cons (ps_set (i := 5) sclaw.nd rfl (Or.inl rfl) (pe_op (catK (K := K)) (pv 5) (pe_lst (pa_cons (pe_tup (pa_cons (pe_lst (pa_cons (pe_make T.k_Last GLastX_initX (hrM hr) rfl T.g_Last bLastX_initX .nil pass0 (pa_cons (pe_op op_mul pe_int (pv 4)) pa_nil)) (pa_cons (pe_make T.k_Delay GDelayX_initX (hrM hr) rfl T.g_Delay bDelayX_initX .nil pass0 (pa_cons (pv 4) pa_nil)) pa_nil))) (pa_cons (pe_lst (pa_cons pe_int (pa_cons pe_int (pa_cons pe_int (pa_cons pe_int (pa_cons pe_int pa_nil)))))) (pa_cons (pe_lst (pa_cons pe_int (pa_cons pe_int pa_nil))) (pa_cons pe_int pa_nil))))) pa_nil))))
  (pss_cons (ps_set (i := 5) sclaw.nd rfl (Or.inl rfl) (pe_op (catK (K := K)) (pv 5) (pe_lst (pa_cons (pe_tup (pa_cons (pe_lst pa_nil) (pa_cons (pe_lst (pa_cons pe_int (pa_cons pe_int (pa_cons pe_int pa_nil)))) (pa_cons (pe_lst (pa_cons pe_int (pa_cons pe_int (pa_cons pe_int pa_nil)))) (pa_cons pe_int pa_nil))))) (pa_cons (pe_tup (pa_cons (pe_lst (pa_cons (pe_make T.k_Last GLastX_initX (hrM hr) rfl T.g_Last bLastX_initX .nil pass0 (pa_cons (pv 4) pa_nil)) (pa_cons (pe_make T.k_First GFirstX_initX (hrM hr) rfl T.g_First bFirstX_initX .nil pass0 (pa_cons (pv 4) pa_nil)) (pa_cons (pe_make T.k_Limit GLimitX_initX (hrM hr) rfl T.g_Limit bLimitX_initX .nil pass0 (pa_cons (pv 4) pa_nil)) pa_nil)))) (pa_cons (pe_lst (pa_cons pe_int (pa_cons pe_int (pa_cons pe_int pa_nil)))) (pa_cons (pe_lst (pa_cons pe_int (pa_cons pe_int (pa_cons pe_int pa_nil)))) (pa_cons pe_int pa_nil))))) pa_nil)))))
  (pss_cons (ps_for PassesOwn.never rfl (piLK (K := K) (pv 5)) (pg_tup (by rfl) (pgs_cons (pg_name (i := 6) sclaw.nd rfl (Or.inl rfl)) (pgs_cons (pg_name (i := 7) sclaw.nd rfl (Or.inl rfl)) (pgs_cons (pg_name (i := 8) sclaw.nd rfl (Or.inl rfl)) (pgs_cons (pg_name (i := 9) sclaw.nd rfl (Or.inr rfl)) pgs_nil)))))
  (pss_cons (ps_set (i := 10) sclaw.nd rfl (Or.inr rfl) (pe_lc (own := [("_law_place", 13)]) (g := (gName 13)) (tt := tYes) (by rfl) sclaw.nd (piLK (K := K) (pv 7)) (blkOk_by (own := [("_law_place", 13)]) (N := ["_law_script", "_law_cell", "_law_s", "_law_begin", "_law_step", "_law_rows", "_law_members", "_law_places", "_law_numbers", "_law_late", "_law_stream", "_law_row", "_law_found", "_law_place", "_law_one", "_law_number"]) (sc := defScope slaw) (by decide +kernel)) (fun _ _ _ _ _ => (pg_name (i := 13) sclaw.nd rfl (Or.inl rfl))) (fun _ _ _ _ _ => pts_nil) (fun _ _ _ _ _ => (pe_op op_add (pv 3) (pe_op op_mul (pv 4) (pv 13))))))
  (pss_cons (ps_set (i := 11) sclaw.nd rfl (Or.inl rfl) (pe_make T.k_Row GRowX_initX (hrM hr) rfl T.g_Row bRowX_initX .nil pass0 (pa_cons (pv 6) pa_nil)))
  (pss_cons (ps_if (pt_cmpR (neTK (K := K) (List (Int)) (hu64 hr)) (pe_lc (own := [("_law_one", 14)]) (g := (gName 14)) (tt := tYes) (by rfl) sclaw.nd (piLK (K := K) (pe_call Gtold_events (hrM hr) rfl T.g_told_events ktold_events btold_events .nil pass0 (pa_cons (pv 11) (pa_cons (pv 10) pa_nil)))) (blkOk_by (own := [("_law_one", 14)]) (N := ["_law_script", "_law_cell", "_law_s", "_law_begin", "_law_step", "_law_rows", "_law_members", "_law_places", "_law_numbers", "_law_late", "_law_stream", "_law_row", "_law_found", "_law_place", "_law_one", "_law_number"]) (sc := defScope slaw) (by decide +kernel)) (fun _ _ _ _ _ => (pg_name (i := 14) sclaw.nd rfl (Or.inl rfl))) (fun _ _ _ _ _ => pts_nil) (fun _ _ _ _ _ => (feK (K := K) (pv 14)))) (pv 8) (nomark _)) (pss_one (ps_ret pe_bl))
  pss_nil)
  (pss_one (ps_if (pt_cmpR (neTK (K := K) (List (Int)) (hu64 hr)) (pe_call Gtold_times (hrM hr) rfl T.g_told_times ktold_times btold_times .nil pass0 (pa_cons (pv 11) (pa_cons (pv 10) pa_nil))) (pe_lc (own := [("_law_number", 15)]) (g := (gName 15)) (tt := tYes) (by rfl) sclaw.nd (piLK (K := K) (pv 8)) (blkOk_by (own := [("_law_number", 15)]) (N := ["_law_script", "_law_cell", "_law_s", "_law_begin", "_law_step", "_law_rows", "_law_members", "_law_places", "_law_numbers", "_law_late", "_law_stream", "_law_row", "_law_found", "_law_place", "_law_one", "_law_number"]) (sc := defScope slaw) (by decide +kernel)) (fun _ _ _ _ _ => (pg_name (i := 15) sclaw.nd rfl (Or.inl rfl))) (fun _ _ _ _ _ => pts_nil) (fun _ _ _ _ _ => (pe_op op_add (pe_ix (ixLK (K := K)) (pv 10) (pv 15) (fun _ _ => rfl)) (pe_op op_mul (pv 4) (pv 9))))) (nomark _)) (pss_one (ps_ret pe_bl))
  pss_nil))))))
  (pss_cons (ps_set (i := 10) sclaw.nd rfl (Or.inr rfl) (pe_lc (own := [("_law_place", 13)]) (g := (gName 13)) (tt := tYes) (by rfl) sclaw.nd (piLK (K := K) (pe_lst (pa_cons pe_int (pa_cons pe_int (pa_cons pe_int (pa_cons pe_int (pa_cons pe_int (pa_cons pe_int pa_nil)))))))) (blkOk_by (own := [("_law_place", 13)]) (N := ["_law_script", "_law_cell", "_law_s", "_law_begin", "_law_step", "_law_rows", "_law_members", "_law_places", "_law_numbers", "_law_late", "_law_stream", "_law_row", "_law_found", "_law_place", "_law_one", "_law_number"]) (sc := defScope slaw) (by decide +kernel)) (fun _ _ _ _ _ => (pg_name (i := 13) sclaw.nd rfl (Or.inl rfl))) (fun _ _ _ _ _ => pts_nil) (fun _ _ _ _ _ => (pe_op op_add (pv 3) (pe_op op_mul (pv 4) (pv 13))))))
  (pss_cons (ps_set (i := 12) sclaw.nd rfl (Or.inl rfl) (pe_call Gtold_events (hrM hr) rfl T.g_told_events ktold_events btold_events .nil pass0 (pa_cons (pe_make T.k_Row GRowX_initX (hrM hr) rfl T.g_Row bRowX_initX .nil pass0 (pa_cons (pe_lst (pa_cons (pe_make T.k_First GFirstX_initX (hrM hr) rfl T.g_First bFirstX_initX .nil pass0 (pa_cons (pe_op op_mul pe_int (pv 4)) pa_nil)) (pa_cons (pe_make T.k_Last GLastX_initX (hrM hr) rfl T.g_Last bLastX_initX .nil pass0 (pa_cons (pe_op op_mul pe_int (pv 4)) pa_nil)) pa_nil))) pa_nil)) (pa_cons (pv 10) pa_nil))))
  (pss_cons (ps_if (pt_cmpR (neTK (K := K) (List (PySem.W.Tup (Int))) (hu64 hr)) (pe_lc (own := [("_law_one", 14)]) (g := (gName 14)) (tt := tYes) (by rfl) sclaw.nd (piLK (K := K) (pv 12)) (blkOk_by (own := [("_law_one", 14)]) (N := ["_law_script", "_law_cell", "_law_s", "_law_begin", "_law_step", "_law_rows", "_law_members", "_law_places", "_law_numbers", "_law_late", "_law_stream", "_law_row", "_law_found", "_law_place", "_law_one", "_law_number"]) (sc := defScope slaw) (by decide +kernel)) (fun _ _ _ _ _ => (pg_name (i := 14) sclaw.nd rfl (Or.inl rfl))) (fun _ _ _ _ _ => pts_nil) (fun _ _ _ _ _ => (pe_tup (pa_cons (feK (K := K) (pv 14)) (pa_cons (feK (K := K) (pv 14)) (pa_cons (feK (K := K) (pv 14)) pa_nil)))))) (pe_lst (pa_cons (pe_tup (pa_cons pe_int (pa_cons pe_int (pa_cons pe_int pa_nil)))) (pa_cons (pe_tup (pa_cons pe_int (pa_cons pe_int (pa_cons pe_int pa_nil)))) pa_nil))) (nomark _)) (pss_one (ps_ret pe_bl))
  pss_nil)
  (pss_cons (ps_set (i := 12) sclaw.nd rfl (Or.inl rfl) (pe_call Gtold_events (hrM hr) rfl T.g_told_events ktold_events btold_events .nil pass0 (pa_cons (pe_make T.k_Row GRowX_initX (hrM hr) rfl T.g_Row bRowX_initX .nil pass0 (pa_cons (pe_lst (pa_cons (pe_make T.k_Last GLastX_initX (hrM hr) rfl T.g_Last bLastX_initX .nil pass0 (pa_cons (pe_op op_mul pe_int (pv 4)) pa_nil)) (pa_cons (pe_make T.k_First GFirstX_initX (hrM hr) rfl T.g_First bFirstX_initX .nil pass0 (pa_cons (pe_op op_mul pe_int (pv 4)) pa_nil)) pa_nil))) pa_nil)) (pa_cons (pv 10) pa_nil))))
  (pss_one (ps_if (pt_cmpR (neTK (K := K) (List (PySem.W.Tup (Int))) (hu64 hr)) (pe_lc (own := [("_law_one", 14)]) (g := (gName 14)) (tt := tYes) (by rfl) sclaw.nd (piLK (K := K) (pv 12)) (blkOk_by (own := [("_law_one", 14)]) (N := ["_law_script", "_law_cell", "_law_s", "_law_begin", "_law_step", "_law_rows", "_law_members", "_law_places", "_law_numbers", "_law_late", "_law_stream", "_law_row", "_law_found", "_law_place", "_law_one", "_law_number"]) (sc := defScope slaw) (by decide +kernel)) (fun _ _ _ _ _ => (pg_name (i := 14) sclaw.nd rfl (Or.inl rfl))) (fun _ _ _ _ _ => pts_nil) (fun _ _ _ _ _ => (pe_tup (pa_cons (feK (K := K) (pv 14)) (pa_cons (feK (K := K) (pv 14)) (pa_cons (feK (K := K) (pv 14)) pa_nil)))))) (pe_lst (pa_cons (pe_tup (pa_cons pe_int (pa_cons pe_int (pa_cons pe_int pa_nil)))) (pa_cons (pe_tup (pa_cons pe_int (pa_cons pe_int (pa_cons pe_int pa_nil)))) pa_nil))) (nomark _)) (pss_one (ps_ret pe_bl))
  pss_nil))))))))))))))))))))
  (pss_one (ps_ret pe_bl))), ?_⟩

    generalize hxs : cutV (ns.map V.int ++ [V.int 0]) none (some 3) = xs0
    refine Evl.q_forNLn (xs := xs0) (el_isL (el_slN (el_catV (Evl.ev_var rfl) ha (Evl.el_lst (vs := [V.int 0]) (Evl.ea_cons Evl.ev_c Evl.ea_nil) (by decide)) (by simp; omega)) Evl.eo_none (Evl.eo_some Evl.ev_c)) hxs) (fun p i σ H' => (∃ v1 v2 v3 v4 v5 v6 v7 v8 v9 v10 v11 v12 v13 v14 v15, σ = [some (.ref a), v1, v2, v3, v4, v5, v6, v7, v8, v9, v10, v11, v12, v13, v14, v15]) ∧ H' p = some (.lst xs0)) (fun p H1 np k1 hp => ⟨⟨none, none, none, none, none, none, none, none, none, none, none, none, none, none, none, rfl⟩, hp⟩) (fun p i σ H' _ h => SqL.of h.2) ?_ ?_
    · rintro p i x σ H1 hx ⟨⟨v1, v2, v3, v4, v5, v6, v7, v8, v9, v10, v11, v12, v13, v14, v15, rfl⟩, hp⟩
      rw [← hxs] at hx
      obtain ⟨z, rfl⟩ := cell_int hx
      walk_at "s"
      refine fun H2 s k2 ns2 st2 => ?_
      have hp2 := k2 _ _ hp
      have hps : p ≠ s := ne_of_none hp ns2
      walk_at "s"
      refine fun H3 d1 k3 st3 da1 db1 => ?_
      have hp3 : H3 p = some (.lst xs0) := by walk_at "hp"
      walk_at "s"
      refine fun H4 d2 k4 st4 da2 db2 => ?_
      have hp4 : H4 p = some (.lst xs0) := by walk_at "hp"
      walk_at "s"
      refine fun T0 nT0 => ?_
      have kT0 := same_new (o := .tup [.int (d1 - 5 * 10 ^ (Int.toNat 8)), .int (1 + d2)]) nT0
      have hT0 : (upd H4 T0 (.tup [.int (d1 - 5 * 10 ^ (Int.toNat 8)), .int (1 + d2)])) T0 = some (.tup [.int (d1 - 5 * 10 ^ (Int.toNat 8)), .int (1 + d2)]) := upd_same
      have hp5 := kT0 _ _ hp4
      generalize upd H4 T0 (.tup [.int (d1 - 5 * 10 ^ (Int.toNat 8)), .int (1 + d2)]) = H5 at kT0 hT0 hp5 ⊢
      generalize d1 - 5 * 10 ^ (Int.toNat 8) = b at hT0 ⊢
      have hcc : 1 ≤ 1 + d2 ∧ 1 + d2 ≤ 1000001 := ⟨by omega, by have : d2 < (10 : Int) ^ (Int.toNat 6) := db2; have h6 : (10 : Int) ^ (Int.toNat 6) = 1000000 := (by decide); omega⟩
      generalize 1 + d2 = c at hT0 hcc ⊢
      obtain ⟨hc1, hc2⟩ := hcc
      refine ⟨_, _, rfl, SqT.of hT0, rfl, ?_⟩
      refine ⟨_, _, rfl, ?_⟩
      refine ⟨_, _, rfl, ?_⟩
      refine ⟨rfl, ?_⟩
      dsimp only
      refine q_rows0 (K := K) (c := c) (ds := [⟨[(.last, 3)], [0, 1, 2, 5, 7], [2, 4], 3⟩, ⟨[(.first, 3)], [0, 1, 2, 5, 7], [0, 3], 0⟩]) ?_ (by simp) fun L0 HA0 vs0 kA0 hL0 hE0 => ?_
      · exact (rs_cons (row_ev (ms_cons (kd := .last) (q := 3) (least := 1) (fun H => Evl.ev_op Evl.ev_c (Evl.ev_var rfl) (Evl.rv_I (by unfold CMul; omega))) (by omega) (by omega) ms_nil) (is_cons (is_cons (is_cons (is_cons (is_cons is_nil))))) (is_cons (is_cons is_nil)) (by simp) (by simp) (by simp)) (rs_cons (row_ev (ms_cons (kd := .first) (q := 3) (least := 1) (fun H => Evl.ev_op Evl.ev_c (Evl.ev_var rfl) (Evl.rv_I (by unfold CMul; omega))) (by omega) (by omega) ms_nil) (is_cons (is_cons (is_cons (is_cons (is_cons is_nil))))) (is_cons (is_cons is_nil)) (by simp) (by simp) (by simp)) rs_nil))
      have hpA0 := kA0 _ _ hp5
      refine q_rows1 (K := K) (c := c) (ds := [⟨[(.last, 3)], [0, 1, 2, 5, 7], [2, 4], 3⟩, ⟨[(.first, 3)], [0, 1, 2, 5, 7], [0, 3], 0⟩]) (ds' := [⟨[(.limit, 3)], [0, 1, 2, 5, 7], [0, 3], 0⟩, ⟨[(.first, 3)], [0, 2, 4, 6], [0], 0⟩]) rfl hL0 hE0 ?_ (by simp) fun L1 HA1 vs1 kA1 hL1 hE1 => ?_
      · exact (rs_cons (row_ev (ms_cons (kd := .limit) (q := 3) (least := 1) (fun H => Evl.ev_op Evl.ev_c (Evl.ev_var rfl) (Evl.rv_I (by unfold CMul; omega))) (by omega) (by omega) ms_nil) (is_cons (is_cons (is_cons (is_cons (is_cons is_nil))))) (is_cons (is_cons is_nil)) (by simp) (by simp) (by simp)) (rs_cons (row_ev (ms_cons (kd := .first) (q := 3) (least := 1) (fun H => Evl.ev_op Evl.ev_c (Evl.ev_var rfl) (Evl.rv_I (by unfold CMul; omega))) (by omega) (by omega) ms_nil) (is_cons (is_cons (is_cons (is_cons is_nil)))) (is_cons is_nil) (by simp) (by simp) (by simp)) rs_nil))
      have hpA1 := kA1 _ _ hpA0
      refine q_rows1 (K := K) (c := c) (ds := ([⟨[(.last, 3)], [0, 1, 2, 5, 7], [2, 4], 3⟩, ⟨[(.first, 3)], [0, 1, 2, 5, 7], [0, 3], 0⟩] ++ [⟨[(.limit, 3)], [0, 1, 2, 5, 7], [0, 3], 0⟩, ⟨[(.first, 3)], [0, 2, 4, 6], [0], 0⟩])) (ds' := [⟨[(.limit, 3)], [0, 2, 4, 6], [0, 2], 0⟩, ⟨[(.last, 2)], [0, 2, 3, 5], [0, 2, 3], 2⟩]) rfl hL1 hE1 ?_ (by simp) fun L2 HA2 vs2 kA2 hL2 hE2 => ?_
      · exact (rs_cons (row_ev (ms_cons (kd := .limit) (q := 3) (least := 1) (fun H => Evl.ev_op Evl.ev_c (Evl.ev_var rfl) (Evl.rv_I (by unfold CMul; omega))) (by omega) (by omega) ms_nil) (is_cons (is_cons (is_cons (is_cons is_nil)))) (is_cons (is_cons is_nil)) (by simp) (by simp) (by simp)) (rs_cons (row_ev (ms_cons (kd := .last) (q := 2) (least := 1) (fun H => Evl.ev_op Evl.ev_c (Evl.ev_var rfl) (Evl.rv_I (by unfold CMul; omega))) (by omega) (by omega) ms_nil) (is_cons (is_cons (is_cons (is_cons is_nil)))) (is_cons (is_cons (is_cons is_nil))) (by simp) (by simp) (by simp)) rs_nil))
      have hpA2 := kA2 _ _ hpA1
      refine q_rows1 (K := K) (c := c) (ds := (([⟨[(.last, 3)], [0, 1, 2, 5, 7], [2, 4], 3⟩, ⟨[(.first, 3)], [0, 1, 2, 5, 7], [0, 3], 0⟩] ++ [⟨[(.limit, 3)], [0, 1, 2, 5, 7], [0, 3], 0⟩, ⟨[(.first, 3)], [0, 2, 4, 6], [0], 0⟩]) ++ [⟨[(.limit, 3)], [0, 2, 4, 6], [0, 2], 0⟩, ⟨[(.last, 2)], [0, 2, 3, 5], [0, 2, 3], 2⟩])) (ds' := [⟨[(.limit, 2), (.limit, 3)], [0, 2, 3, 5], [0, 3], 0⟩]) rfl hL2 hE2 ?_ (by simp) fun L3 HA3 vs3 kA3 hL3 hE3 => ?_
      · exact (rs_cons (row_ev (ms_cons (kd := .limit) (q := 2) (least := 1) (fun H => Evl.ev_op Evl.ev_c (Evl.ev_var rfl) (Evl.rv_I (by unfold CMul; omega))) (by omega) (by omega) (ms_cons (kd := .limit) (q := 3) (least := 1) (fun H => Evl.ev_op Evl.ev_c (Evl.ev_var rfl) (Evl.rv_I (by unfold CMul; omega))) (by omega) (by omega) ms_nil)) (is_cons (is_cons (is_cons (is_cons is_nil)))) (is_cons (is_cons is_nil)) (by simp) (by simp) (by simp)) rs_nil)
      have hpA3 := kA3 _ _ hpA2
      refine q_rows1 (K := K) (c := c) (ds := ((([⟨[(.last, 3)], [0, 1, 2, 5, 7], [2, 4], 3⟩, ⟨[(.first, 3)], [0, 1, 2, 5, 7], [0, 3], 0⟩] ++ [⟨[(.limit, 3)], [0, 1, 2, 5, 7], [0, 3], 0⟩, ⟨[(.first, 3)], [0, 2, 4, 6], [0], 0⟩]) ++ [⟨[(.limit, 3)], [0, 2, 4, 6], [0, 2], 0⟩, ⟨[(.last, 2)], [0, 2, 3, 5], [0, 2, 3], 2⟩]) ++ [⟨[(.limit, 2), (.limit, 3)], [0, 2, 3, 5], [0, 3], 0⟩])) (ds' := [⟨[(.limit, 3)], [0, 2, 3, 5], [0, 2], 0⟩]) rfl hL3 hE3 ?_ (by simp) fun L4 HA4 vs4 kA4 hL4 hE4 => ?_
      · exact (rs_cons (row_ev (ms_cons (kd := .limit) (q := 3) (least := 1) (fun H => Evl.ev_op Evl.ev_c (Evl.ev_var rfl) (Evl.rv_I (by unfold CMul; omega))) (by omega) (by omega) ms_nil) (is_cons (is_cons (is_cons (is_cons is_nil)))) (is_cons (is_cons is_nil)) (by simp) (by simp) (by simp)) rs_nil)
      have hpA4 := kA4 _ _ hpA3
      refine q_rows1 (K := K) (c := c) (ds := (((([⟨[(.last, 3)], [0, 1, 2, 5, 7], [2, 4], 3⟩, ⟨[(.first, 3)], [0, 1, 2, 5, 7], [0, 3], 0⟩] ++ [⟨[(.limit, 3)], [0, 1, 2, 5, 7], [0, 3], 0⟩, ⟨[(.first, 3)], [0, 2, 4, 6], [0], 0⟩]) ++ [⟨[(.limit, 3)], [0, 2, 4, 6], [0, 2], 0⟩, ⟨[(.last, 2)], [0, 2, 3, 5], [0, 2, 3], 2⟩]) ++ [⟨[(.limit, 2), (.limit, 3)], [0, 2, 3, 5], [0, 3], 0⟩]) ++ [⟨[(.limit, 3)], [0, 2, 3, 5], [0, 2], 0⟩])) (ds' := [⟨[(.last, 2), (.last, 3)], [0, 3, 5, 6, 8, 9], [0, 1, 3, 5], 5⟩]) rfl hL4 hE4 ?_ (by simp) fun L5 HA5 vs5 kA5 hL5 hE5 => ?_
      · exact (rs_cons (row_ev (ms_cons (kd := .last) (q := 2) (least := 1) (fun H => Evl.ev_op Evl.ev_c (Evl.ev_var rfl) (Evl.rv_I (by unfold CMul; omega))) (by omega) (by omega) (ms_cons (kd := .last) (q := 3) (least := 1) (fun H => Evl.ev_op Evl.ev_c (Evl.ev_var rfl) (Evl.rv_I (by unfold CMul; omega))) (by omega) (by omega) ms_nil)) (is_cons (is_cons (is_cons (is_cons (is_cons (is_cons is_nil)))))) (is_cons (is_cons (is_cons (is_cons is_nil)))) (by simp) (by simp) (by simp)) rs_nil)
      have hpA5 := kA5 _ _ hpA4
      refine q_rows1 (K := K) (c := c) (ds := ((((([⟨[(.last, 3)], [0, 1, 2, 5, 7], [2, 4], 3⟩, ⟨[(.first, 3)], [0, 1, 2, 5, 7], [0, 3], 0⟩] ++ [⟨[(.limit, 3)], [0, 1, 2, 5, 7], [0, 3], 0⟩, ⟨[(.first, 3)], [0, 2, 4, 6], [0], 0⟩]) ++ [⟨[(.limit, 3)], [0, 2, 4, 6], [0, 2], 0⟩, ⟨[(.last, 2)], [0, 2, 3, 5], [0, 2, 3], 2⟩]) ++ [⟨[(.limit, 2), (.limit, 3)], [0, 2, 3, 5], [0, 3], 0⟩]) ++ [⟨[(.limit, 3)], [0, 2, 3, 5], [0, 2], 0⟩]) ++ [⟨[(.last, 2), (.last, 3)], [0, 3, 5, 6, 8, 9], [0, 1, 3, 5], 5⟩])) (ds' := [⟨[(.last, 3)], [0, 3, 5, 6, 8, 9], [0, 5], 3⟩]) rfl hL5 hE5 ?_ (by simp) fun L6 HA6 vs6 kA6 hL6 hE6 => ?_
      · exact (rs_cons (row_ev (ms_cons (kd := .last) (q := 3) (least := 1) (fun H => Evl.ev_op Evl.ev_c (Evl.ev_var rfl) (Evl.rv_I (by unfold CMul; omega))) (by omega) (by omega) ms_nil) (is_cons (is_cons (is_cons (is_cons (is_cons (is_cons is_nil)))))) (is_cons (is_cons is_nil)) (by simp) (by simp) (by simp)) rs_nil)
      have hpA6 := kA6 _ _ hpA5
      refine q_rows1 (K := K) (c := c) (ds := (((((([⟨[(.last, 3)], [0, 1, 2, 5, 7], [2, 4], 3⟩, ⟨[(.first, 3)], [0, 1, 2, 5, 7], [0, 3], 0⟩] ++ [⟨[(.limit, 3)], [0, 1, 2, 5, 7], [0, 3], 0⟩, ⟨[(.first, 3)], [0, 2, 4, 6], [0], 0⟩]) ++ [⟨[(.limit, 3)], [0, 2, 4, 6], [0, 2], 0⟩, ⟨[(.last, 2)], [0, 2, 3, 5], [0, 2, 3], 2⟩]) ++ [⟨[(.limit, 2), (.limit, 3)], [0, 2, 3, 5], [0, 3], 0⟩]) ++ [⟨[(.limit, 3)], [0, 2, 3, 5], [0, 2], 0⟩]) ++ [⟨[(.last, 2), (.last, 3)], [0, 3, 5, 6, 8, 9], [0, 1, 3, 5], 5⟩]) ++ [⟨[(.last, 3)], [0, 3, 5, 6, 8, 9], [0, 5], 3⟩])) (ds' := [⟨[(.first, 2), (.last, 4)], [0, 1, 5, 6, 8], [0, 4], 4⟩]) rfl hL6 hE6 ?_ (by simp) fun L7 HA7 vs7 kA7 hL7 hE7 => ?_
      · exact (rs_cons (row_ev (ms_cons (kd := .first) (q := 2) (least := 1) (fun H => Evl.ev_op Evl.ev_c (Evl.ev_var rfl) (Evl.rv_I (by unfold CMul; omega))) (by omega) (by omega) (ms_cons (kd := .last) (q := 4) (least := 1) (fun H => Evl.ev_op Evl.ev_c (Evl.ev_var rfl) (Evl.rv_I (by unfold CMul; omega))) (by omega) (by omega) ms_nil)) (is_cons (is_cons (is_cons (is_cons (is_cons is_nil))))) (is_cons (is_cons is_nil)) (by simp) (by simp) (by simp)) rs_nil)
      have hpA7 := kA7 _ _ hpA6
      refine q_rows1 (K := K) (c := c) (ds := ((((((([⟨[(.last, 3)], [0, 1, 2, 5, 7], [2, 4], 3⟩, ⟨[(.first, 3)], [0, 1, 2, 5, 7], [0, 3], 0⟩] ++ [⟨[(.limit, 3)], [0, 1, 2, 5, 7], [0, 3], 0⟩, ⟨[(.first, 3)], [0, 2, 4, 6], [0], 0⟩]) ++ [⟨[(.limit, 3)], [0, 2, 4, 6], [0, 2], 0⟩, ⟨[(.last, 2)], [0, 2, 3, 5], [0, 2, 3], 2⟩]) ++ [⟨[(.limit, 2), (.limit, 3)], [0, 2, 3, 5], [0, 3], 0⟩]) ++ [⟨[(.limit, 3)], [0, 2, 3, 5], [0, 2], 0⟩]) ++ [⟨[(.last, 2), (.last, 3)], [0, 3, 5, 6, 8, 9], [0, 1, 3, 5], 5⟩]) ++ [⟨[(.last, 3)], [0, 3, 5, 6, 8, 9], [0, 5], 3⟩]) ++ [⟨[(.first, 2), (.last, 4)], [0, 1, 5, 6, 8], [0, 4], 4⟩])) (ds' := [⟨[(.last, 4), (.delay, 1)], [0, 1, 5, 6, 8], [1, 4], 5⟩]) rfl hL7 hE7 ?_ (by simp) fun L8 HA8 vs8 kA8 hL8 hE8 => ?_
      · exact (rs_cons (row_ev (ms_cons (kd := .last) (q := 4) (least := 1) (fun H => Evl.ev_op Evl.ev_c (Evl.ev_var rfl) (Evl.rv_I (by unfold CMul; omega))) (by omega) (by omega) (ms_cons (kd := .delay) (q := 1) (least := 0) (fun H => Evl.ev_var rfl) (by omega) (by omega) ms_nil)) (is_cons (is_cons (is_cons (is_cons (is_cons is_nil))))) (is_cons (is_cons is_nil)) (by simp) (by simp) (by simp)) rs_nil)
      have hpA8 := kA8 _ _ hpA7
      refine q_rows1 (K := K) (c := c) (ds := (((((((([⟨[(.last, 3)], [0, 1, 2, 5, 7], [2, 4], 3⟩, ⟨[(.first, 3)], [0, 1, 2, 5, 7], [0, 3], 0⟩] ++ [⟨[(.limit, 3)], [0, 1, 2, 5, 7], [0, 3], 0⟩, ⟨[(.first, 3)], [0, 2, 4, 6], [0], 0⟩]) ++ [⟨[(.limit, 3)], [0, 2, 4, 6], [0, 2], 0⟩, ⟨[(.last, 2)], [0, 2, 3, 5], [0, 2, 3], 2⟩]) ++ [⟨[(.limit, 2), (.limit, 3)], [0, 2, 3, 5], [0, 3], 0⟩]) ++ [⟨[(.limit, 3)], [0, 2, 3, 5], [0, 2], 0⟩]) ++ [⟨[(.last, 2), (.last, 3)], [0, 3, 5, 6, 8, 9], [0, 1, 3, 5], 5⟩]) ++ [⟨[(.last, 3)], [0, 3, 5, 6, 8, 9], [0, 5], 3⟩]) ++ [⟨[(.first, 2), (.last, 4)], [0, 1, 5, 6, 8], [0, 4], 4⟩]) ++ [⟨[(.last, 4), (.delay, 1)], [0, 1, 5, 6, 8], [1, 4], 5⟩])) (ds' := [⟨[], [0, 1, 5], [0, 1, 2], 0⟩, ⟨[(.last, 1), (.first, 1), (.limit, 1)], [0, 1, 2], [0, 1, 2], 1⟩]) rfl hL8 hE8 ?_ (by simp) fun L9 HA9 vs9 kA9 hL9 hE9 => ?_
      · exact (rs_cons (row_ev ms_nil (is_cons (is_cons (is_cons is_nil))) (is_cons (is_cons (is_cons is_nil))) (by simp) (by simp) (by simp)) (rs_cons (row_ev (ms_cons (kd := .last) (q := 1) (least := 1) (fun H => Evl.ev_var rfl) (by omega) (by omega) (ms_cons (kd := .first) (q := 1) (least := 1) (fun H => Evl.ev_var rfl) (by omega) (by omega) (ms_cons (kd := .limit) (q := 1) (least := 1) (fun H => Evl.ev_var rfl) (by omega) (by omega) ms_nil))) (is_cons (is_cons (is_cons is_nil))) (is_cons (is_cons (is_cons is_nil))) (by simp) (by simp) (by simp)) rs_nil))
      have hpA9 := kA9 _ _ hpA8
      have hEa : Each (RDV K HA9 c) [⟨[(.last, 3)], [0, 1, 2, 5, 7], [2, 4], 3⟩, ⟨[(.first, 3)], [0, 1, 2, 5, 7], [0, 3], 0⟩, ⟨[(.limit, 3)], [0, 1, 2, 5, 7], [0, 3], 0⟩, ⟨[(.first, 3)], [0, 2, 4, 6], [0], 0⟩, ⟨[(.limit, 3)], [0, 2, 4, 6], [0, 2], 0⟩, ⟨[(.last, 2)], [0, 2, 3, 5], [0, 2, 3], 2⟩, ⟨[(.limit, 2), (.limit, 3)], [0, 2, 3, 5], [0, 3], 0⟩, ⟨[(.limit, 3)], [0, 2, 3, 5], [0, 2], 0⟩, ⟨[(.last, 2), (.last, 3)], [0, 3, 5, 6, 8, 9], [0, 1, 3, 5], 5⟩, ⟨[(.last, 3)], [0, 3, 5, 6, 8, 9], [0, 5], 3⟩, ⟨[(.first, 2), (.last, 4)], [0, 1, 5, 6, 8], [0, 4], 4⟩, ⟨[(.last, 4), (.delay, 1)], [0, 1, 5, 6, 8], [1, 4], 5⟩, ⟨[], [0, 1, 5], [0, 1, 2], 0⟩, ⟨[(.last, 1), (.first, 1), (.limit, 1)], [0, 1, 2], [0, 1, 2], 1⟩] vs9 := hE9
      have hall : ∀ d ∈ ([⟨[(.last, 3)], [0, 1, 2, 5, 7], [2, 4], 3⟩, ⟨[(.first, 3)], [0, 1, 2, 5, 7], [0, 3], 0⟩, ⟨[(.limit, 3)], [0, 1, 2, 5, 7], [0, 3], 0⟩, ⟨[(.first, 3)], [0, 2, 4, 6], [0], 0⟩, ⟨[(.limit, 3)], [0, 2, 4, 6], [0, 2], 0⟩, ⟨[(.last, 2)], [0, 2, 3, 5], [0, 2, 3], 2⟩, ⟨[(.limit, 2), (.limit, 3)], [0, 2, 3, 5], [0, 3], 0⟩, ⟨[(.limit, 3)], [0, 2, 3, 5], [0, 2], 0⟩, ⟨[(.last, 2), (.last, 3)], [0, 3, 5, 6, 8, 9], [0, 1, 3, 5], 5⟩, ⟨[(.last, 3)], [0, 3, 5, 6, 8, 9], [0, 5], 3⟩, ⟨[(.first, 2), (.last, 4)], [0, 1, 5, 6, 8], [0, 4], 4⟩, ⟨[(.last, 4), (.delay, 1)], [0, 1, 5, 6, 8], [1, 4], 5⟩, ⟨[], [0, 1, 5], [0, 1, 2], 0⟩, ⟨[(.last, 1), (.first, 1), (.limit, 1)], [0, 1, 2], [0, 1, 2], 1⟩] : List RD), okRD d = true := by decide
      have hst : St3 HA9 s ∨ True := .inr trivial
      generalize ([⟨[(.last, 3)], [0, 1, 2, 5, 7], [2, 4], 3⟩, ⟨[(.first, 3)], [0, 1, 2, 5, 7], [0, 3], 0⟩, ⟨[(.limit, 3)], [0, 1, 2, 5, 7], [0, 3], 0⟩, ⟨[(.first, 3)], [0, 2, 4, 6], [0], 0⟩, ⟨[(.limit, 3)], [0, 2, 4, 6], [0, 2], 0⟩, ⟨[(.last, 2)], [0, 2, 3, 5], [0, 2, 3], 2⟩, ⟨[(.limit, 2), (.limit, 3)], [0, 2, 3, 5], [0, 3], 0⟩, ⟨[(.limit, 3)], [0, 2, 3, 5], [0, 2], 0⟩, ⟨[(.last, 2), (.last, 3)], [0, 3, 5, 6, 8, 9], [0, 1, 3, 5], 5⟩, ⟨[(.last, 3)], [0, 3, 5, 6, 8, 9], [0, 5], 3⟩, ⟨[(.first, 2), (.last, 4)], [0, 1, 5, 6, 8], [0, 4], 4⟩, ⟨[(.last, 4), (.delay, 1)], [0, 1, 5, 6, 8], [1, 4], 5⟩, ⟨[], [0, 1, 5], [0, 1, 2], 0⟩, ⟨[(.last, 1), (.first, 1), (.limit, 1)], [0, 1, 2], [0, 1, 2], 1⟩] : List RD) = tab at hEa hall
      have hLa := hL9
      have hpa := hpA9
      walk_at "s"
      refine ⟨⟨_, SqL.of hLa⟩, for_it (walk_list (K := K) (a := L9) (xs := vs9)) (fun i σ H' => (∃ v6 v7 v8 v9 v10 v11 v12 v13 v14 v15, σ = [some (.ref a), some (.int z), some (.ref s), some (.int b), some (.int c), some (.ref L9), v6, v7, v8, v9, v10, v11, v12, v13, v14, v15]) ∧ Same HA9 H') ⟨⟨_, _, _, _, _, _, _, _, _, _, rfl⟩, Same.refl _⟩ (fun i σ H' _ q => SqL.of (q.2 _ _ hLa)) ?_ ?_⟩
      · rintro i y σ H6 H7 hi ⟨⟨v6, v7, v8, v9, v10, v11, v12, v13, v14, v15, rfl⟩, k6⟩ ⟨rfl, hy⟩
        obtain ⟨d, hd, hdv⟩ := hEa.at hy
        have hok := hall d (List.mem_of_getElem? hd)
        obtain ⟨hA, hDue, hml, hpsl⟩ := okRD_of hok
        obtain ⟨T, lm, lp, ln, ys, rfl, hT, hlm, hE, hlp, hln⟩ := hdv.same k6
        refine ⟨_, _, rfl, SqT.of hT, rfl, ?_⟩
        refine ⟨_, _, rfl, ?_⟩
        refine ⟨_, _, rfl, ?_⟩
        refine ⟨_, _, rfl, ?_⟩
        refine ⟨_, _, rfl, ?_⟩
        refine ⟨rfl, ?_⟩
        refine r_seqa ?_
        refine comp_map (K := K) (a := lp) (ns := d.ps) (j := 13) (vs := [13]) (fun o => scT b c o) ?_ (SqL.of hlp) (by omega) ?_ ?_ _ (Evl.Ex.refl _) _ ?_
        · exact Evl.ev_var rfl
        · exact fun _ => rfl
        · exact fun o H1 ho e => Evl.ev_op (Evl.ev_var rfl) (Evl.ev_op (Evl.ev_var rfl) (Evl.ev_var rfl) (Evl.rv_I (by unfold CMul; omega))) Evl.rv_I0
        intro st H8 nst k8 hst
        have hlm8 := k8 _ _ hlm
        have hE8 := hE.mono (R' := MemV K H8) fun _ _ _ z => z.vp (VP.same k8)
        have hln8 := k8 _ _ hln
        have hAs := asc_sc (b := b) (c := c) (by omega) hA
        have hsl : (d.ps.map (scT b c)).length ≤ 30000 := by rw [List.length_map]; omega
        walk_at "s"
        refine fun x dx nx nd nxd => ?_
        refine ⟨x, dx, lm, ys, d.ms.map (scM c), rfl, upd_same, Same.made0 nx nd _ _ hlm8, hE8.mono fun _ _ _ z => z.vp (VP.same (Same.made0 nx nd)), by rw [List.length_map]; omega, fun H9 q2 k9a nq2 hq2 hx9 => ⟨rfl, ?_⟩⟩
        have k9 : Same H8 H9 := Same.made1 nx nd k9a
        have hRow : RowO K H9 (d.ms.map (scM c)) x := ⟨dx, q2, ys, hx9, hq2, hE8.mono fun _ _ _ z => z.vp (VP.same k9)⟩
        have hst9 := k9 _ _ hst
        have hln9 := k9 _ _ hln8
        dsimp only [gName]
        have hrl := rows_len hAs (d.ms.map (scM c))
        have hRl : (rowsOf (d.ms.map (scM c)) (d.ps.map (scT b c))).length ≤ 40000 := by omega
        have hnl : d.ns.length ≤ 40000 := by rw [← nums_sc (b := b) (c := c) (by omega) hok, List.length_map]; exact hRl
        refine Evl.q_when (b := false) (Evl.et_test ?_) (fun z => nomatch z) fun _ H10 k10 => ?_
        · intro H2 e Q1 q1
          refine r_op (comp_relN (K := K) (ToldV K) (fun _ _ _ _ kv z => z.vp kv) (fun _ (r : R4) v => v = V.int r.1) (fun _ _ _ _ _ z => z) (rowsOf (d.ms.map (scM c)) (d.ps.map (scT b c))) (rowsOf (d.ms.map (scM c)) (d.ps.map (scT b c))) rfl hRl (fun Q2 q2 => ?_) (fun _ => rfl) ?_ ?_)
          · refine ⟨_, rfl, ⟨_, rfl, ?_⟩⟩
            exact ⟨x, st, false, d.ms.map (scM c), d.ps.map (scT b c), rfl, hRow.vp (VP.same e), SqL.of (e _ _ hst9), ⟨hAs, hsl, by rw [List.length_map]; omega⟩, fun H' p2 ys2 k2 np2 hp2 hE2 => q2 p2 H' ys2 k2 hp2 hE2⟩
          · intro i b r2 x H3 k3 hb hr2 hS Q3 q3
            cases Option.some.inj (hb.symm.trans hr2)
            obtain ⟨a, dx, rfl, ha⟩ := hS
            unfold toldF at ha
            walk_at "s"
            exact q3 _ _ (Evl.Ex.refl _) rfl
          · intro p2 H3 ws np2 k3 hp2 hW
            have hws := each_int_map (f := fun r : R4 => r.1) hW
            rw [hws, nums_sc (by omega) hok] at hp2
            refine ⟨_, rfl, ⟨d.ns, d.ns, dp_ints (SqL.of hp2), dp_ints (SqL.of (k3 _ _ (e _ _ hln9))), ?_⟩⟩
            have z : decide (d.ns ≠ d.ns) = false := by simp
            rw [z]
            exact q1 H3 k3
        have hln10 := k10 _ _ hln9
        have hst10 := k10 _ _ hst9
        refine Evl.s_if (b := false) (Evl.et_test (Evl.ev_is (Evl.ev_opLL (Evl.el_call (vs := [.ref x, .ref st]) (Evl.ea_cons (Evl.ev_var rfl) (Evl.ea_cons (Evl.ev_var rfl) Evl.ea_nil)) (xs := ((rowsOf (d.ms.map (scM c)) (d.ps.map (scT b c))).map fun r => r.2.1).map V.int) ?_) (comp_map (K := K) (a := ln) (ns := d.ns) (j := 15) (vs := [15]) (fun z => (d.ps.map (scT b c)).getD z.toNat 0 + c * d.late) (Evl.ev_var rfl) (SqL.of hln10) hnl (fun _ => rfl) (fun o H1 ho e => Evl.ev_op (Evl.ev_op (Evl.ev_var rfl) (Evl.ev_var rfl) (Evl.rv_ixL (SqL.of (e _ _ hst10)) (ix_at (ns_bound hok ho)))) (Evl.ev_op (Evl.ev_var rfl) (Evl.ev_var rfl) (Evl.rv_I (by unfold CMul; omega))) Evl.rv_I0)) fun p q H h1 h2 _ => rv_neI (SqL.of h1) (SqL.of h2)) (by rw [times_sc (by omega) hok]; simp))) (fun z => nomatch z) fun _ H11 k11 => r_next ?_
        · intro H5 e5 Q1 q1 E1
          exact ⟨x, st, false, d.ms.map (scM c), d.ps.map (scT b c), rfl, hRow.vp (VP.same (Same.trans k10 e5)), SqL.of (e5 _ _ hst10), ⟨hAs, hsl, by rw [List.length_map]; omega⟩, fun H' p3 k4 np3 hp3 => q1 p3 H' np3 k4 hp3⟩
        exact ⟨⟨_, _, _, _, _, _, _, _, _, _, rfl⟩, Same.trans k6 (Same.trans k8 (Same.trans k9 (Same.trans k10 k11)))⟩
      · rintro σ H6 ⟨⟨v6, v7, v8, v9, v10, v11, v12, v13, v14, v15, rfl⟩, k6⟩
        have hp6 := k6 _ _ hpa
        dsimp only
        refine Evl.q_asgL (comp_mapN (K := K) (ns := [0, 1, 2, 9, 10, 30]) (j := 13) (vs := [13]) (fun o => scT b c o) (Evl.el_lst (vs := [V.int 0, V.int 1, V.int 2, V.int 9, V.int 10, V.int 30]) (Evl.ea_cons Evl.ev_c (Evl.ea_cons Evl.ev_c (Evl.ea_cons Evl.ev_c (Evl.ea_cons Evl.ev_c (Evl.ea_cons Evl.ev_c (Evl.ea_cons Evl.ev_c Evl.ea_nil)))))) (by simp)) (by simp) (fun _ => rfl) (fun o H1 ho e => Evl.ev_op (Evl.ev_var rfl) (Evl.ev_op (Evl.ev_var rfl) (Evl.ev_var rfl) (Evl.rv_I (by unfold CMul; omega))) Evl.rv_I0)) fun st H8 nst k8 hst => ?_
        have hAs : Asc 1 ([0, 1, 2, 9, 10, 30].map (scT b c)) := asc_sc (by omega) (asc_of (by decide))
        have hA0 : Asc 1 [0, 1, 2, 9, 10, 30] := asc_of (by decide)
        have hp8 := k8 _ _ hp6
        refine r_seqa (r_callMV ?_)
        refine row_make (c := c) (ms := [(.first, 3), (.last, 20)]) (ms_cons (kd := .first) (q := 3) (least := 1) (fun H => Evl.ev_op Evl.ev_c (Evl.ev_var rfl) (Evl.rv_I (by unfold CMul; omega))) (by omega) (by omega) (ms_cons (kd := .last) (q := 20) (least := 1) (fun H => Evl.ev_op Evl.ev_c (Evl.ev_var rfl) (Evl.rv_I (by unfold CMul; omega))) (by omega) (by omega) ms_nil)) (by simp) H8 _ fun HaP rP kaP hRowP => ⟨_, rfl, ?_⟩
        have hsP := kaP _ _ hst
        refine ⟨rP, st, false, List.map (scM c) [(.first, 3), (.last, 20)], [0, 1, 2, 9, 10, 30].map (scT b c), rfl, hRowP, SqL.of hsP, ⟨hAs, by simp, by simp⟩, fun HbP fP ysP kbP nfP hfP hEP => ?_⟩
        have hsbP := kbP _ _ hsP
        have hRlP : (rowsOf (List.map (scM c) [(.first, 3), (.last, 20)]) ([0, 1, 2, 9, 10, 30].map (scT b c))).length ≤ 40000 := by
          have := rows_len hAs (List.map (scM c) [(.first, 3), (.last, 20)])
          simp at this ⊢
          omega
        dsimp only
        have erP : (rowsOf (List.map (scM c) [(.first, 3), (.last, 20)]) ([0, 1, 2, 9, 10, 30].map (scT b c))).map tup3 = [(3, 0, 0, 4), (5, 0, 5, 5)].map tup3 := by
          rw [trip_sc (by omega) hA0]
          rfl
        generalize rowsOf (List.map (scM c) [(.first, 3), (.last, 20)]) ([0, 1, 2, 9, 10, 30].map (scT b c)) = rwP at hEP hRlP erP
        refine Evl.q_when (b := false) (et_trip (K := K) (i := 12) (j := 14) rfl hfP hEP hRlP (by walk_at "cl") (by walk_at "no") (by walk_at "no") (by walk_at "no") (fun _ => rfl) (fun _ => rfl) erP) (fun z => nomatch z) fun _ HcP kcP => ?_
        have hstP := kcP _ _ hsbP
        have hpP := kcP _ _ (kbP _ _ (kaP _ _ hp8))
        refine r_seqa (r_callMV ?_)
        refine row_make (c := c) (ms := [(.last, 3), (.first, 20)]) (ms_cons (kd := .last) (q := 3) (least := 1) (fun H => Evl.ev_op Evl.ev_c (Evl.ev_var rfl) (Evl.rv_I (by unfold CMul; omega))) (by omega) (by omega) (ms_cons (kd := .first) (q := 20) (least := 1) (fun H => Evl.ev_op Evl.ev_c (Evl.ev_var rfl) (Evl.rv_I (by unfold CMul; omega))) (by omega) (by omega) ms_nil)) (by simp) HcP _ fun HaR rR kaR hRowR => ⟨_, rfl, ?_⟩
        have hsR := kaR _ _ hstP
        refine ⟨rR, st, false, List.map (scM c) [(.last, 3), (.first, 20)], [0, 1, 2, 9, 10, 30].map (scT b c), rfl, hRowR, SqL.of hsR, ⟨hAs, by simp, by simp⟩, fun HbR fR ysR kbR nfR hfR hER => ?_⟩
        have hsbR := kbR _ _ hsR
        have hRlR : (rowsOf (List.map (scM c) [(.last, 3), (.first, 20)]) ([0, 1, 2, 9, 10, 30].map (scT b c))).length ≤ 40000 := by
          have := rows_len hAs (List.map (scM c) [(.last, 3), (.first, 20)])
          simp at this ⊢
          omega
        dsimp only
        have erR : (rowsOf (List.map (scM c) [(.last, 3), (.first, 20)]) ([0, 1, 2, 9, 10, 30].map (scT b c))).map tup3 = [(2, 0, 0, 4), (5, 0, 5, 5)].map tup3 := by
          rw [trip_sc (by omega) hA0]
          rfl
        generalize rowsOf (List.map (scM c) [(.last, 3), (.first, 20)]) ([0, 1, 2, 9, 10, 30].map (scT b c)) = rwR at hER hRlR erR
        refine Evl.s_if (b := false) (et_trip (K := K) (i := 12) (j := 14) rfl hfR hER hRlR (by walk_at "cl") (by walk_at "no") (by walk_at "no") (by walk_at "no") (fun _ => rfl) (fun _ => rfl) erR) (fun z => nomatch z) fun _ HcR kcR => r_next ?_
        exact ⟨⟨_, _, _, _, _, _, _, _, _, _, _, _, _, _, _, rfl⟩, kcR _ _ (kbR _ _ (kaR _ _ hpP))⟩
    · rintro p σ H1 _
      exact k _
end

def loose : List PySem.Str := ["__name__", "QuietError", "BadStream", "BadMember", "BadRow", "is_number", "is_listing", "check_stream", "check_least", "narrow_ones", "Last", "First", "Limit", "Delay", "is_member", "Row", "lag_of", "Told", "gaps_of", "without", "without_behind", "widened", "told_and_closed", "told_events", "told_times", "times_behind", "_law_cell_at", "_law_state", "_law_digit"]
abbrev R : PySem.W.OpenRow := PySem.W.OpenLaw.row PySem.Challenge.rw_quietrows_k06_rows_by_hand
abbrev hk : PySem.W.Hook := hookX 5 exB fa fn
def ob (s : PySem.W.SharedT) : Bool × He.AlD := obsXG 5 exB fa fn (HandSHeadRun.getT s)
theorem ob_eq (s : PySem.W.SharedT) : ob s = hk.obs s.abs := obsXG_eq (HandSHeadRun.getT_eq s)
theorem run (w : World) : HandSHeadRun.RunEq R (PySem.W.view R.prog [33]) hk ob 4500 loose w := by
  intro os
  kernel_rfl
end My
open PySem PySem.W PySem.Calls PyProof.Rows
theorem PySem.Challenge.cw_quietrows_k06_rows_by_hand_holds : PySem.Challenge.rw_quietrows_k06_rows_by_hand.Holds := by
  w_on; o_law
  refine HandSHeadRun.head_any (r := OpenLaw.row PySem.Challenge.rw_quietrows_k06_rows_by_hand) (q := view (OpenLaw.row PySem.Challenge.rw_quietrows_k06_rows_by_hand).prog [33]) (H := My.hk) (ob := My.ob) (M := 4500) (loose := My.loose) (d := HandSHeadRun.topDef (OpenLaw.row PySem.Challenge.rw_quietrows_k06_rows_by_hand).prog 33) (kwd := []) My.ob_eq
    (by kernel_rfl) (fun s => by kernel_rfl) My.run (by kernel_rfl) (by kernel_rfl) (by kernel_rfl) (by rfl) (by first | assumption | decide +kernel) (by decide +kernel) ⟨rfl, rfl, rfl, rfl, rfl, by decide +kernel⟩ ?hw ?hc
  case hw => w_witness2
  case hc =>
    refine L2.walk_ofE (l := PySem.Challenge.rw_quietrows_k06_rows_by_hand) (n := 63) (k := 11) (x := "_law_script") (CX := L2.CX0) rfl (by decide) (by kernel_rfl) ⟨rfl, by decide, by decide⟩ ?F (fun _ _ _ _ z => z)
    intro w mg fa h Y G hmg0
    obtain ⟨K, KX, c⟩ := Y
    have T := My.txt_of KX G c
    have hmg : mg ("law" : PySem.Str) = some (.ref fa) := by
      have e : (HandSHeadRun.topDef (OpenLaw.row PySem.Challenge.rw_quietrows_k06_rows_by_hand).prog 33).name = ("law" : PySem.Str) := by kernel_rfl
      rw [← e]
      exact hmg0
    have e := hmg.symm.trans T.g_law
    cases e
    obtain ⟨fd, F⟩ := T.d_law
    have b := L2.FunD.bindsA (ps := ["_law_script"]) F fun _ _ _ _ _ _ us hl => match us, hl with | [_], _ => rfl
    exact ⟨K, fd, My.spLaw K, KX, fun s v => b s [v] rfl, fun H a ns hl _ hS => ⟨a, ns, rfl, hS, hl, fun _ => rfl⟩, fun base KB GB => My.law_fn T F⟩
